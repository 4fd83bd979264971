import PyProof.Rows.All
import PyVahype
import Wide.All
import OpenK.AllK
import Wide.FinOn
import PyProof.EqAt
import PyProof.EqKinds
import PyProof.TupleCall
import Open.SpecLaws
import KE.OsGo
import HandS.ForSpec
import HandS.Comp
import HandS.Dict
import HandS.Iter
import HandS.Text
import HandS.Walk
import HandS.Codes
import HandS.Deep
import HandS.ExcInit
import HandS.ExcField
import PySem.Challenge.RW_wordgaps_s01_answers
import HandS.SetBool
import PyProof.DictRoadsH
import PyProof.DictMoreH
import KE.KDictKeyed
import HandS.DictSubView
import HandS.TupSets
import HandS.SortOrd
import KE.KMinBuiltin
import HandS.SortKw
import HandS.Lambda
import KE.SortKeyHeap
import PyFlatLaws
import KE.SortData
import HandS.Zip
import HandS.More
import HandS.EndTab
import KE.KNest
set_option linter.all false
/-! M1: the tokens. What the program's lexer does, as functions of bytes; that it is the specification's. -/
namespace WM
open VahypBase

/-- bytes of blanks and remarks at the front -/
def skipF : Nat → Bytes → Nat
  | 0, _ => 0
  | _ + 1, [] => 0
  | n + 1, b :: r => if isBlank b = true then 1 + skipF n r else if b == 35 then 1 + (r.takeWhile (· != 10)).length + skipF n (r.dropWhile (· != 10)) else 0
def skip (l : Bytes) : Nat := skipF (l.length + 1) l
def remEnd (l : Bytes) : Nat := (l.takeWhile (· != 10)).length

theorem dropWhile_le {p : UInt8 → Bool} : ∀ l : Bytes, (l.dropWhile p).length ≤ l.length
  | [] => Nat.le_refl _
  | a :: r => by
    rw [List.dropWhile_cons]
    split
    · exact Nat.le_succ_of_le (dropWhile_le r)
    · exact Nat.le_refl _
theorem drop_tw {p : UInt8 → Bool} : ∀ l : Bytes, l.drop (l.takeWhile p).length = l.dropWhile p
  | [] => rfl
  | a :: r => by
    rw [List.takeWhile_cons, List.dropWhile_cons]
    split
    · exact drop_tw r
    · rfl
theorem tw_le {p : UInt8 → Bool} : ∀ l : Bytes, (l.takeWhile p).length ≤ l.length
  | [] => Nat.le_refl _
  | a :: r => by
    rw [List.takeWhile_cons]
    split
    · exact Nat.succ_le_succ (tw_le r)
    · exact Nat.zero_le _

theorem skipF_fuel : ∀ (n m : Nat) (l : Bytes), l.length < n → l.length < m → skipF n l = skipF m l
  | 0, _, _, h, _ => absurd h (Nat.not_lt_zero _)
  | _ + 1, 0, _, _, h => absurd h (Nat.not_lt_zero _)
  | n + 1, m + 1, [], _, _ => rfl
  | n + 1, m + 1, b :: r, h1, h2 => by
    have l1 : r.length < n := Nat.lt_of_succ_lt_succ h1
    have l2 : r.length < m := Nat.lt_of_succ_lt_succ h2
    have d := dropWhile_le (p := (· != 10)) r
    show (if isBlank b = true then 1 + skipF n r else if b == 35 then 1 + (r.takeWhile (· != 10)).length + skipF n (r.dropWhile (· != 10)) else 0) = (if isBlank b = true then 1 + skipF m r else if b == 35 then 1 + (r.takeWhile (· != 10)).length + skipF m (r.dropWhile (· != 10)) else 0)
    rw [skipF_fuel n m r l1 l2, skipF_fuel n m (r.dropWhile (· != 10)) (Nat.lt_of_le_of_lt d l1) (Nat.lt_of_le_of_lt d l2)]
theorem skip_nil : skip [] = 0 := rfl
theorem skip_blank {b : UInt8} {r : Bytes} (h : isBlank b = true) : skip (b :: r) = 1 + skip r := by
  show (if isBlank b = true then 1 + skipF (r.length + 1) r else _) = _
  rw [if_pos h]
  rfl
theorem skip_rem {b : UInt8} {r : Bytes} (h : isBlank b = false) (h2 : (b == 35) = true) : skip (b :: r) = 1 + (r.takeWhile (· != 10)).length + skip (r.dropWhile (· != 10)) := by
  show (if isBlank b = true then 1 + skipF (r.length + 1) r else if b == 35 then 1 + (r.takeWhile (· != 10)).length + skipF (r.length + 1) (r.dropWhile (· != 10)) else 0) = _
  rw [if_neg (by rw [h]; exact Bool.false_ne_true), if_pos h2, skipF_fuel (r.length + 1) ((r.dropWhile (· != 10)).length + 1) _ (Nat.lt_succ_of_le (dropWhile_le r)) (Nat.lt_succ_self _)]
  rfl
theorem skip_none {b : UInt8} {r : Bytes} (h : isBlank b = false) (h2 : (b == 35) = false) : skip (b :: r) = 0 := by
  show (if isBlank b = true then 1 + skipF (r.length + 1) r else if b == 35 then 1 + (r.takeWhile (· != 10)).length + skipF (r.length + 1) (r.dropWhile (· != 10)) else 0) = _
  rw [if_neg (by rw [h]; exact Bool.false_ne_true), if_neg (by rw [h2]; exact Bool.false_ne_true)]

theorem token_pos {l : Bytes} {x : Tok × Nat} (h : token l = some x) : 1 ≤ x.2 := by
  cases l with
  | nil => cases h
  | cons b r =>
    unfold token at h
    dsimp only at h
    split at h
    · rename_i hc
      split at h
      · cases h
      · cases h
        show 1 ≤ ((b :: r).takeWhile inChunk).length
        rw [List.takeWhile_cons, if_pos hc]
        exact Nat.succ_le_succ (Nat.zero_le _)
    · split at h
      · cases h; exact Nat.le_refl _
      · cases h

theorem lex_fuel : ∀ (n m : Nat) (a : Nat) (l : Bytes), l.length < n → l.length < m → lex n a l = lex m a l
  | 0, _, _, _, h, _ => absurd h (Nat.not_lt_zero _)
  | _ + 1, 0, _, _, _, h => absurd h (Nat.not_lt_zero _)
  | n + 1, m + 1, a, [], _, _ => rfl
  | n + 1, m + 1, a, b :: r, h1, h2 => by
    have l1 : r.length < n := Nat.lt_of_succ_lt_succ h1
    have l2 : r.length < m := Nat.lt_of_succ_lt_succ h2
    have d := dropWhile_le (p := (· != 10)) r
    unfold lex
    rw [lex_fuel n m (a + 1) r l1 l2, lex_fuel n m _ (r.dropWhile (· != 10)) (Nat.lt_of_le_of_lt d l1) (Nat.lt_of_le_of_lt d l2)]
    cases ht : token (b :: r) with
    | none => rfl
    | some x =>
      have p := token_pos ht
      have dl : ((b :: r).drop x.2).length ≤ r.length := by
        rw [List.length_drop, List.length_cons]
        omega
      dsimp only
      rw [lex_fuel n m (a + x.2) ((b :: r).drop x.2) (Nat.lt_of_le_of_lt dl l1) (Nat.lt_of_le_of_lt dl l2)]
/-- the tokens from an offset on -/
def lexA (a : Nat) (l : Bytes) : Except Fault Toks := lex (l.length + 1) a l
theorem lexA_nil (a : Nat) : lexA a [] = .ok [⟨a, .last⟩] := rfl
theorem lexA_blank {a : Nat} {b : UInt8} {r : Bytes} (h : isBlank b = true) : lexA a (b :: r) = lexA (a + 1) r := by
  unfold lexA
  rw [List.length_cons]
  conv => lhs; unfold lex
  rw [if_pos h]
theorem lexA_rem {a : Nat} {b : UInt8} {r : Bytes} (h : isBlank b = false) (h2 : (b == 35) = true) : lexA a (b :: r) = lexA (a + (1 + (r.takeWhile (· != 10)).length)) (r.dropWhile (· != 10)) := by
  unfold lexA
  rw [List.length_cons]
  conv => lhs; unfold lex
  rw [if_neg (by rw [h]; exact Bool.false_ne_true), if_pos h2, Nat.add_assoc]
  exact lex_fuel _ _ _ _ (Nat.lt_succ_of_le (dropWhile_le r)) (Nat.lt_succ_self _)
theorem lexA_tok {a : Nat} {b : UInt8} {r : Bytes} (h : isBlank b = false) (h2 : (b == 35) = false) : lexA a (b :: r) = match token (b :: r) with
    | none => .error ⟨2, a⟩
    | some x => (lexA (a + x.2) ((b :: r).drop x.2)).map fun l => ⟨a, x.1⟩ :: l := by
  unfold lexA
  rw [List.length_cons]
  conv => lhs; unfold lex
  rw [if_neg (by rw [h]; exact Bool.false_ne_true), if_neg (by rw [h2]; exact Bool.false_ne_true)]
  cases ht : token (b :: r) with
  | none => rfl
  | some x =>
    have p := token_pos ht
    have dl : ((b :: r).drop x.2).length < r.length + 1 := by
      rw [List.length_drop, List.length_cons]
      omega
    dsimp only
    rw [lex_fuel (r.length + 1) (((b :: r).drop x.2).length + 1) _ _ dl (Nat.lt_succ_self _)]

theorem skip_le : ∀ (n : Nat) (l : Bytes), skipF n l ≤ l.length
  | 0, _ => Nat.zero_le _
  | _ + 1, [] => Nat.zero_le _
  | n + 1, b :: r => by
    unfold skipF
    have h1 := skip_le n r
    have h2 := skip_le n (r.dropWhile (· != 10))
    have h3 : (r.takeWhile (· != 10)).length + (r.dropWhile (· != 10)).length = r.length := by
      rw [← List.length_append, List.takeWhile_append_dropWhile]
    rw [List.length_cons]
    split
    · omega
    · split
      · omega
      · omega

/-- lexing goes on behind the blanks -/
theorem lexA_skip : ∀ (n : Nat) (a : Nat) (l : Bytes), l.length < n → lexA a l = lexA (a + skip l) (l.drop (skip l))
  | 0, _, _, h => absurd h (Nat.not_lt_zero _)
  | n + 1, a, [], _ => rfl
  | n + 1, a, b :: r, h => by
    have l1 : r.length < n := Nat.lt_of_succ_lt_succ h
    by_cases hb : isBlank b = true
    · rw [skip_blank hb, lexA_blank hb, lexA_skip n (a + 1) r l1, Nat.add_assoc, Nat.add_comm 1 (skip r), List.drop_succ_cons]
    · have hb' : isBlank b = false := by simpa using hb
      by_cases h35 : (b == 35) = true
      · rw [skip_rem hb' h35, lexA_rem hb' h35, lexA_skip n _ (r.dropWhile (· != 10)) (Nat.lt_of_le_of_lt (dropWhile_le r) l1)]
        have e : (b :: r).drop (1 + (r.takeWhile (· != 10)).length + skip (r.dropWhile (· != 10))) = (r.dropWhile (· != 10)).drop (skip (r.dropWhile (· != 10))) := by
          rw [Nat.add_comm 1, Nat.add_assoc, Nat.add_comm 1, ← Nat.add_assoc, List.drop_succ_cons, ← List.drop_drop, drop_tw]
        rw [e]
        congr 1
        omega
      · have h35' : (b == 35) = false := by simpa using h35
        rw [skip_none hb' h35']
        rfl
theorem lexA_sk (a : Nat) (l : Bytes) : lexA a l = lexA (a + skip l) (l.drop (skip l)) := lexA_skip (l.length + 1) a l (Nat.lt_succ_self _)

/-- at the front neither a blank nor a remark -/
def Front (l : Bytes) : Prop := match l with
  | [] => True
  | b :: _ => isBlank b = false ∧ (b == 35) = false
theorem front_skip : ∀ (n : Nat) (l : Bytes), l.length < n → Front (l.drop (skip l))
  | 0, _, h => absurd h (Nat.not_lt_zero _)
  | n + 1, [], _ => trivial
  | n + 1, b :: r, h => by
    have l1 : r.length < n := Nat.lt_of_succ_lt_succ h
    by_cases hb : isBlank b = true
    · rw [skip_blank hb, Nat.add_comm 1 (skip r), List.drop_succ_cons]
      exact front_skip n r l1
    · have hb' : isBlank b = false := by simpa using hb
      by_cases h35 : (b == 35) = true
      · have e : (b :: r).drop (1 + (r.takeWhile (· != 10)).length + skip (r.dropWhile (· != 10))) = (r.dropWhile (· != 10)).drop (skip (r.dropWhile (· != 10))) := by
          rw [Nat.add_comm 1, Nat.add_assoc, Nat.add_comm 1, ← Nat.add_assoc, List.drop_succ_cons, ← List.drop_drop, drop_tw]
        rw [skip_rem hb' h35, e]
        exact front_skip n _ (Nat.lt_of_le_of_lt (dropWhile_le r) l1)
      · have h35' : (b == 35) = false := by simpa using h35
        rw [skip_none hb' h35']
        exact ⟨hb', h35'⟩
theorem front_sk (l : Bytes) : Front (l.drop (skip l)) := front_skip (l.length + 1) l (Nat.lt_succ_self _)

end WM
set_option linter.all false
/-! M2: a word's chunk, a pattern's chunk: what the program makes of them, that it is the specification's. -/
namespace WM
open VahypBase
open Vahypa (Word Pat Lst wordBy wordOf patBy patOf)

/-! ### words -/
/-- chunk.split("-") -/
def splitB : Bytes → List Bytes
  | [] => [[]]
  | b :: r => if b == 45 then [] :: splitB r else match splitB r with
    | p :: ps => (b :: p) :: ps
    | [] => [[b]]
def alphaB (p : Bytes) : Bool := !p.isEmpty && p.all isLetter
/-- where the parts end, all but the last -/
def cums : Nat → List Bytes → List Nat
  | _, [] => []
  | n, q :: qs => n :: cums (n + q.length) qs
def endsOf : Nat → List Bytes → List Nat
  | _, [] => []
  | n, q :: qs => (n + q.length) :: endsOf (n + q.length) qs
def wordP (b : Bytes) : Option Word :=
  let parts := splitB b
  let x := parts.flatten
  if 2 ≤ x.length ∧ x.length ≤ 16 then (if parts.all alphaB = true then some ⟨x, (endsOf 0 parts).dropLast⟩ else none) else none

theorem splitB_ne (b : Bytes) : splitB b ≠ [] := by
  cases b with
  | nil => simp [splitB]
  | cons c r =>
    unfold splitB
    split
    · simp
    · split <;> simp
def wordR : Bytes → Bytes → List Nat → Option Word
  | [], x, cs => some ⟨x, cs⟩
  | b :: r, x, cs => if isLetter b = true then wordR r (x ++ [b]) cs
      else if b == 45 ∧ x ≠ [] ∧ cs.contains x.length = false then (match r with
        | c :: _ => if isLetter c = true then wordR r x (cs ++ [x.length]) else none
        | [] => none)
      else none
theorem wordBy_R : ∀ (n : Nat) (l x : Bytes) (cs : List Nat), l.length < n → wordBy n l x cs = wordR l x cs
  | 0, _, _, _, h => absurd h (Nat.not_lt_zero _)
  | n + 1, [], x, cs, _ => rfl
  | n + 1, b :: r, x, cs, h => by
    have l1 : r.length < n := Nat.lt_of_succ_lt_succ h
    unfold wordBy wordR
    dsimp only
    rw [wordBy_R n r (x ++ [b]) cs l1]
    cases r with
    | nil => rfl
    | cons c r' =>
      dsimp only
      rw [wordBy_R n (c :: r') x (cs ++ [x.length]) l1]
/-- what stands behind a first part p that goes on: the parts' letters, their breaks -/
def restW (x : Bytes) (cs : List Nat) (p : Bytes) (ps : List Bytes) : Option Word :=
  if p.all isLetter = true ∧ ps.all alphaB = true then some ⟨x ++ (p :: ps).flatten, cs ++ cums (x.length + p.length) ps⟩ else none
theorem not_letter_45 : isLetter 45 = false := by decide
theorem wordR_rest : ∀ (l x : Bytes) (cs : List Nat), x ≠ [] → (∀ c ∈ cs, c < x.length) → ∀ p ps, splitB l = p :: ps → wordR l x cs = restW x cs p ps
  | [], x, cs, hx, hc, p, ps, h => by
    cases h
    unfold wordR restW cums
    simp
  | b :: r, x, cs, hx, hc, p, ps, h => by
    have hcon : cs.contains x.length = false := by
      rw [Bool.eq_false_iff]
      intro z
      have := hc _ (List.contains_iff_mem.mp z)
      omega
    unfold splitB at h
    by_cases hb : (b == 45) = true
    · rw [if_pos hb] at h
      injection h with h1 h2
      subst h1
      subst h2
      have e : b = 45 := by simpa using hb
      subst e
      unfold wordR
      rw [if_neg (by rw [not_letter_45]; exact Bool.false_ne_true), if_pos ⟨rfl, hx, hcon⟩]
      cases r with
      | nil =>
        unfold restW splitB
        simp [alphaB]
      | cons c r' =>
        dsimp only
        by_cases hl : isLetter c = true
        · have hc45 : (c == 45) = false := by
            rw [Bool.eq_false_iff]
            intro z
            have e : c = 45 := by simpa using z
            rw [e] at hl
            exact absurd hl (by decide)
          rw [if_pos hl]
          conv => lhs; unfold wordR
          rw [if_pos hl]
          cases hs : splitB r' with
          | nil => exact absurd hs (splitB_ne _)
          | cons p' ps' =>
            rw [wordR_rest r' (x ++ [c]) (cs ++ [x.length]) (by simp) (by
              intro k hk
              rw [List.length_append, List.length_singleton]
              rcases List.mem_append.mp hk with z | z
              · have := hc k z; omega
              · have : k = x.length := by simpa using z
                omega) p' ps' hs]
            have e1 : splitB (c :: r') = (c :: p') :: ps' := by
              conv => lhs; unfold splitB
              rw [if_neg (by rw [hc45]; exact Bool.false_ne_true), hs]
            unfold restW
            rw [e1]
            have e2 : ((c :: p') :: ps').all alphaB = true ↔ p'.all isLetter = true ∧ ps'.all alphaB = true := by
              simp [alphaB, hl]
            by_cases hq : p'.all isLetter = true ∧ ps'.all alphaB = true
            · rw [if_pos hq, if_pos ⟨rfl, e2.mpr hq⟩]
              simp [cums, Nat.add_assoc, Nat.add_comm 1]
            · rw [if_neg hq, if_neg (fun z => hq (e2.mp z.2))]
        · have hl' : isLetter c = false := by simpa using hl
          rw [if_neg hl]
          unfold restW
          rw [if_neg]
          intro z
          have z2 := z.2
          cases hs : splitB (c :: r') with
          | nil => exact splitB_ne _ hs
          | cons p' ps' =>
            rw [hs] at z2
            unfold splitB at hs
            by_cases hc45 : (c == 45) = true
            · rw [if_pos hc45] at hs
              cases hs
              simp [alphaB] at z2
            · rw [if_neg hc45] at hs
              cases hs2 : splitB r' with
              | nil => exact splitB_ne _ hs2
              | cons p2 ps2 =>
                rw [hs2] at hs
                cases hs
                simp [alphaB, hl'] at z2
    · rw [if_neg hb] at h
      have hb' : (b == 45) = false := by simpa using hb
      cases hs : splitB r with
      | nil => exact absurd hs (splitB_ne _)
      | cons p' ps' =>
        rw [hs] at h
        injection h with h1 h2
        subst h1
        subst h2
        unfold wordR
        by_cases hl : isLetter b = true
        · rw [if_pos hl, wordR_rest r (x ++ [b]) cs (by simp) (by
              intro k hk
              have := hc k hk
              rw [List.length_append, List.length_singleton]
              omega) p' ps' hs]
          unfold restW
          simp [hl, Nat.add_assoc, Nat.add_comm 1]
        · have hl' : isLetter b = false := by simpa using hl
          rw [if_neg hl, if_neg (by rw [hb']; simp)]
          unfold restW
          rw [if_neg]
          simp [hl']
theorem ends_cums : ∀ (ps : List Bytes) (n : Nat) (p : Bytes), (endsOf n (p :: ps)).dropLast = cums (n + p.length) ps
  | [], _, _ => rfl
  | q :: qs, n, p => by
    have ih := ends_cums qs (n + p.length) q
    show (n + p.length) :: (endsOf (n + p.length) (q :: qs)).dropLast = (n + p.length) :: cums (n + p.length + q.length) qs
    rw [ih]
theorem word_is (b : Bytes) : wordOf b = wordP b := by
  unfold wordOf wordP
  rw [wordBy_R _ _ _ _ (Nat.lt_succ_self _)]
  dsimp only
  have fin : ∀ (x : Bytes) (w : Option Word), (∀ v, w = some v → v.x = x) → (w.bind fun w => if w.x.length < 2 ∨ Vahypa.LETTERS < w.x.length then none else some w) = if 2 ≤ x.length ∧ x.length ≤ 16 then w else none := by
    intro x w hw
    cases w with
    | none => simp
    | some v =>
      have e := hw v rfl
      show (if v.x.length < 2 ∨ Vahypa.LETTERS < v.x.length then none else some v) = _
      rw [e]
      by_cases h : 2 ≤ x.length ∧ x.length ≤ 16
      · rw [if_pos h, if_neg (by unfold Vahypa.LETTERS; omega)]
      · rw [if_neg h, if_pos (by unfold Vahypa.LETTERS; omega)]
  cases b with
  | nil => simp [wordR, splitB]
  | cons c r =>
    cases hs : splitB (c :: r) with
    | nil => exact absurd hs (splitB_ne _)
    | cons p ps =>
      have hr : wordR (c :: r) [] [] = if (p :: ps).all alphaB = true then some ⟨(p :: ps).flatten, (endsOf 0 (p :: ps)).dropLast⟩ else none := by
        unfold splitB at hs
        by_cases hb : (c == 45) = true
        · rw [if_pos hb] at hs
          cases hs
          have e : c = 45 := by simpa using hb
          subst e
          unfold wordR
          rw [if_neg (by rw [not_letter_45]; exact Bool.false_ne_true), if_neg (by simp)]
          simp [alphaB]
        · rw [if_neg hb] at hs
          have hb' : (c == 45) = false := by simpa using hb
          cases hs2 : splitB r with
          | nil => exact absurd hs2 (splitB_ne _)
          | cons p' ps' =>
            rw [hs2] at hs
            injection hs with h1 h2
            subst h1
            subst h2
            unfold wordR
            by_cases hl : isLetter c = true
            · rw [if_pos hl, wordR_rest r ([] ++ [c]) [] (by simp) (by simp) p' ps' hs2]
              unfold restW
              have e2 : ((c :: p') :: ps').all alphaB = true ↔ p'.all isLetter = true ∧ ps'.all alphaB = true := by
                simp [alphaB, hl]
              by_cases hq : p'.all isLetter = true ∧ ps'.all alphaB = true
              · rw [if_pos hq, if_pos (e2.mpr hq), ends_cums]
                simp [Nat.add_comm 1]
              · rw [if_neg hq, if_neg (fun z => hq (e2.mp z))]
            · have hl' : isLetter c = false := by simpa using hl
              rw [if_neg hl, if_neg (by rw [hb']; simp), if_neg]
              simp [alphaB, hl']
      rw [hr]
      refine (fin (p :: ps).flatten _ ?_)
      intro v hv
      split at hv
      · cases hv; rfl
      · cases hv

/-! ### patterns -/
/-- the letters between the points; none at a sign that can't stand where it does -/
def plR : Bytes → Bool → Bytes → Option Bytes
  | [], _, acc => some acc
  | c :: r, d, acc => if isLetter c = true then plR r false (acc ++ [c]) else if isDigit c = true ∧ c ≠ 48 ∧ d = false then plR r true acc else none
def inner (l : Bytes) : Bytes := if l.getLast? = some 46 then l.dropLast else l
def patP (b : Bytes) : Option (Bytes × Bool × Bool) :=
  let f : Bool := b.head? == some 46
  let l := if f = true then b.drop 1 else b
  let s : Bool := l.getLast? == some 46
  let x := (plR (inner l) false []).getD []
  if ¬ (1 ≤ x.length ∧ x.length ≤ 6) ∨ x.length = (inner l).length then none else some (x, f, s)

theorem inner_nil : inner [] = [] := rfl
theorem inner_dot : inner [46] = [] := rfl
theorem inner_cons {b : UInt8} {r : Bytes} (h : b :: r ≠ [46]) : inner (b :: r) = b :: inner r := by
  unfold inner
  cases r with
  | nil =>
    have : b ≠ 46 := fun e => h (by rw [e])
    simp [this]
  | cons c r' =>
    rw [List.getLast?_cons_cons]
    split
    · rfl
    · rfl
/-- one turn of patBy without fuel -/
theorem patBy_fuel : ∀ (n m : Nat) (l x : Bytes) (vs : List Nat), l.length < n → l.length < m → patBy n l x vs = patBy m l x vs
  | 0, _, _, _, _, h, _ => absurd h (Nat.not_lt_zero _)
  | _ + 1, 0, _, _, _, _, h => absurd h (Nat.not_lt_zero _)
  | n + 1, m + 1, l, x, vs, h1, h2 => by
    unfold patBy
    dsimp only
    cases l with
    | nil => rfl
    | cons b r =>
      dsimp only
      have l1 : r.length < n := Nat.lt_of_succ_lt_succ h1
      have l2 : r.length < m := Nat.lt_of_succ_lt_succ h2
      by_cases hd : isDigit b = true
      · rw [if_pos hd]
        cases r with
        | nil => rfl
        | cons c s =>
          have l3 : s.length < n := Nat.lt_of_succ_lt l1
          have l4 : s.length < m := Nat.lt_of_succ_lt l2
          dsimp only
          rw [patBy_fuel n m s _ _ l3 l4]
      · rw [if_neg hd]
        dsimp only
        rw [patBy_fuel n m r _ _ l1 l2]
def patR (l x : Bytes) (vs : List Nat) : Option (Bytes × List Nat × Bytes) := patBy (l.length + 1) l x vs
theorem patR_nil (x : Bytes) (vs : List Nat) : patR [] x vs = some (x, vs ++ [0], []) := rfl
theorem digit_not_letter {b : UInt8} (h : isDigit b = true) : isLetter b = false := by
  unfold isDigit at h
  unfold isLetter
  have := of_decide_eq_true h
  exact decide_eq_false (by omega)
theorem letter_not_digit {b : UInt8} (h : isLetter b = true) : isDigit b = false := by
  unfold isLetter at h
  unfold isDigit
  have := of_decide_eq_true h
  exact decide_eq_false (by omega)
theorem letter_not_48 {b : UInt8} (h : isLetter b = true) : (b == 48) = false := by
  rw [Bool.eq_false_iff]
  intro z
  have e : b = 48 := by simpa using z
  rw [e] at h
  exact absurd h (by decide)
theorem patR_letter {b : UInt8} {r x : Bytes} {vs : List Nat} (h : isLetter b = true) : patR (b :: r) x vs = patR r (x ++ [b]) (vs ++ [0]) := by
  unfold patR
  rw [List.length_cons]
  conv => lhs; unfold patBy
  have hd := letter_not_digit h
  simp only [hd, letter_not_48 h, if_false, Bool.false_eq_true, h, if_true]
theorem patR_digit_end {b : UInt8} {r x : Bytes} {vs : List Nat} (h : isDigit b = true) (h0 : (b == 48) = false) (hr : ∀ c s, r = c :: s → isLetter c = false) : patR (b :: r) x vs = some (x, vs ++ [b.toNat - 48], r) := by
  unfold patR
  rw [List.length_cons]
  conv => lhs; unfold patBy
  cases r with
  | nil => simp only [h, h0, if_true, if_false, Bool.false_eq_true]
  | cons c s => simp only [h, h0, if_true, if_false, Bool.false_eq_true, hr c s rfl]
theorem patR_digit {b c : UInt8} {s x : Bytes} {vs : List Nat} (h : isDigit b = true) (h0 : (b == 48) = false) (hc : isLetter c = true) : patR (b :: c :: s) x vs = patR s (x ++ [c]) (vs ++ [b.toNat - 48]) := by
  unfold patR
  rw [List.length_cons, List.length_cons]
  conv => lhs; unfold patBy
  simp only [h, h0, if_true, if_false, Bool.false_eq_true, hc]
  exact patBy_fuel _ _ _ _ _ (by omega) (by omega)
theorem patR_zero {b : UInt8} {r x : Bytes} {vs : List Nat} (h0 : (b == 48) = true) : patR (b :: r) x vs = none := by
  unfold patR
  rw [List.length_cons]
  conv => lhs; unfold patBy
  simp only [h0, if_true]
theorem patR_end {b : UInt8} {r x : Bytes} {vs : List Nat} (h : isLetter b = false) (hd : isDigit b = false) : patR (b :: r) x vs = some (x, vs ++ [0], b :: r) := by
  unfold patR
  rw [List.length_cons]
  conv => lhs; unfold patBy
  have h0 : (b == 48) = false := by
    rw [Bool.eq_false_iff]
    intro z
    have e : b = 48 := by simpa using z
    rw [e] at hd
    exact absurd hd (by decide)
  simp only [h, hd, h0, if_true, if_false, Bool.false_eq_true]

/-- what patBy gives, seen from the letters' reading -/
def okP (l x : Bytes) (vs : List Nat) (d : Bool) (o : Option (Bytes × List Nat × Bytes)) : Prop :=
  match plR (inner l) d x with
  | none => ∀ p, o = some p → ¬ (p.2.2 = [] ∨ p.2.2 = [46])
  | some y => ∃ vs' r, o = some (y, vs', r) ∧ (r = [] ∨ r = [46]) ∧ (r = [46] ↔ l.getLast? = some 46) ∧ (vs'.all (fun v => v == 0) = true ↔ vs.all (fun v => v == 0) = true ∧ y.length = x.length + (inner l).length)
theorem plR_len : ∀ (l : Bytes) (d : Bool) (x y : Bytes), plR l d x = some y → y.length ≤ x.length + l.length
  | [], _, x, y, h => by cases h; exact Nat.le_refl _
  | c :: r, d, x, y, h => by
    unfold plR at h
    split at h
    · have := plR_len r false _ y h
      rw [List.length_append, List.length_singleton] at this
      rw [List.length_cons]
      omega
    · split at h
      · have := plR_len r true _ y h
        rw [List.length_cons]
        omega
      · cases h
theorem pat_ok : ∀ (n : Nat) (l x : Bytes) (vs : List Nat), l.length < n → okP l x vs false (patR l x vs)
  | 0, _, _, _, h => absurd h (Nat.not_lt_zero _)
  | n + 1, [], x, vs, _ => ⟨vs ++ [0], [], rfl, .inl rfl, by simp, by simp [inner]⟩
  | n + 1, b :: r, x, vs, h => by
    have l1 : r.length < n := Nat.lt_of_succ_lt_succ h
    by_cases hdot : b :: r = [46]
    · cases hdot
      exact ⟨vs ++ [0], [46], rfl, .inr rfl, by simp, by simp [inner]⟩
    have ei := inner_cons hdot
    have el : (b :: r).getLast? = some 46 ↔ r.getLast? = some 46 := by
      cases r with
      | nil =>
        have : b ≠ 46 := fun e => hdot (by rw [e])
        simp [this]
      | cons c r' => rw [List.getLast?_cons_cons]
    by_cases hl : isLetter b = true
    · have ih := pat_ok n r (x ++ [b]) (vs ++ [0]) l1
      rw [patR_letter hl]
      unfold okP at ih ⊢
      rw [ei]
      unfold plR
      rw [if_pos hl]
      cases hp : plR (inner r) false (x ++ [b]) with
      | none =>
        rw [hp] at ih
        exact ih
      | some y =>
        rw [hp] at ih
        obtain ⟨vs', r', e1, e2, e3, e4⟩ := ih
        refine ⟨vs', r', e1, e2, e3.trans el.symm, e4.trans ?_⟩
        simp only [List.all_append, List.length_append, List.length_cons, List.length_nil, List.all_cons, List.all_nil, beq_self_eq_true, Bool.and_true]
        constructor
        · rintro ⟨a, b⟩; exact ⟨a, by omega⟩
        · rintro ⟨a, b⟩; exact ⟨a, by omega⟩
    · have hl' : isLetter b = false := by simpa using hl
      by_cases hd : isDigit b = true
      · by_cases h0 : (b == 48) = true
        · rw [patR_zero h0]
          unfold okP
          rw [ei]
          unfold plR
          have e48 : b = 48 := by simpa using h0
          rw [if_neg hl, if_neg (fun z => z.2.1 e48)]
          intro p hp
          cases hp
        · have h0' : (b == 48) = false := by simpa using h0
          have e48 : b ≠ 48 := by simpa using h0'
          have vb : ¬ (b.toNat - 48 = 0) := by
            intro z
            have hr := of_decide_eq_true hd
            have : b.toNat = 48 := by omega
            exact e48 (UInt8.toNat_inj.mp this)
          unfold okP
          rw [ei]
          unfold plR
          rw [if_neg hl, if_pos ⟨hd, e48, rfl⟩]
          -- behind the digit
          cases r with
          | nil =>
            rw [patR_digit_end hd h0' (by intro c s e; cases e)]
            refine ⟨_, _, rfl, .inl rfl, ?_, ?_⟩
            · have : b ≠ 46 := fun e => by rw [e] at hd; exact absurd hd (by decide)
              simp [this]
            · simp [inner, vb]
          | cons c s =>
            by_cases hcl : isLetter c = true
            · rw [patR_digit hd h0' hcl]
              have hc46 : c :: s ≠ [46] := fun e => by
                cases e
                exact absurd hcl (by decide)
              have ih := pat_ok n s (x ++ [c]) (vs ++ [b.toNat - 48]) (Nat.lt_of_succ_lt l1)
              unfold okP at ih
              rw [inner_cons hc46]
              unfold plR
              rw [if_pos hcl]
              have elc : (c :: s).getLast? = some 46 ↔ s.getLast? = some 46 := by
                cases s with
                | nil =>
                  have : c ≠ 46 := fun e => hc46 (by rw [e])
                  simp [this]
                | cons c' r' => rw [List.getLast?_cons_cons]
              cases hp : plR (inner s) false (x ++ [c]) with
              | none =>
                rw [hp] at ih
                exact ih
              | some y =>
                rw [hp] at ih
                obtain ⟨vs', r', e1, e2, e3, e4⟩ := ih
                refine ⟨vs', r', e1, e2, e3.trans (elc.symm.trans el.symm), e4.trans ?_⟩
                have hle := plR_len _ _ _ _ hp
                simp only [List.all_append, List.length_append, List.length_cons, List.length_nil, List.all_cons, List.all_nil, Bool.and_true] at hle ⊢
                constructor
                · rintro ⟨a, _⟩
                  rw [Bool.and_eq_true] at a
                  exact absurd (by simpa using a.2) vb
                · rintro ⟨_, b⟩
                  omega
            · have hcl' : isLetter c = false := by simpa using hcl
              rw [patR_digit_end hd h0' (by intro c' s' e; cases e; exact hcl')]
              by_cases hc46 : c :: s = [46]
              · cases hc46
                refine ⟨_, _, rfl, .inr rfl, ?_, ?_⟩
                · simp
                · simp [inner, vb]
              · rw [inner_cons hc46]
                unfold plR
                rw [if_neg hcl, if_neg (fun z => by cases z.2.2)]
                intro p hp
                cases hp
                rintro (z | z)
                · cases z
                · exact hc46 z
      · have hd' : isDigit b = false := by simpa using hd
        rw [patR_end hl' hd']
        unfold okP
        rw [ei]
        unfold plR
        rw [if_neg hl, if_neg (fun z => hd z.1)]
        intro p hp
        cases hp
        rintro (z | z)
        · cases z
        · exact hdot z
theorem pat_is (b : Bytes) : (patOf b).map (fun p => (p.x, p.front, p.halt_)) = patP b := by
  unfold patOf patP
  dsimp only
  generalize hf : (b.head? == some 46) = f
  have hlen : (if f = true then b.drop 1 else b).length < b.length + 1 := by
    split
    · rw [List.length_drop]; omega
    · exact Nat.lt_succ_self _
  generalize hl : (if f = true then b.drop 1 else b) = l
  rw [hl] at hlen
  have e : patBy (b.length + 1) l [] [] = patR l [] [] := patBy_fuel _ _ _ _ _ hlen (Nat.lt_succ_self _)
  rw [e]
  have ok := pat_ok (l.length + 1) l [] [] (Nat.lt_succ_self _)
  unfold okP at ok
  cases hp : plR (inner l) false [] with
  | none =>
    rw [hp] at ok
    rw [if_pos (by simp)]
    cases ho : patR l [] [] with
    | none => rfl
    | some p =>
      have q := ok p ho
      have h2 : p.2.2 ≠ [] ∧ (p.2.2 == [46]) = false := by
        refine ⟨fun z => q (.inl z), ?_⟩
        rw [Bool.eq_false_iff]
        intro z
        exact q (.inr (by simpa using z))
      show Option.map _ (if _ then _ else _) = none
      rw [if_pos (.inr (.inr (.inl h2)))]
      rfl
  | some y =>
    rw [hp] at ok
    obtain ⟨vs', r, e1, e2, e3, e4⟩ := ok
    rw [e1]
    show Option.map _ (if y.length < 1 ∨ Vahypa.PIECE < y.length ∨ (r ≠ [] ∧ (r == [46]) = false) ∨ vs'.all (fun v => v == 0) = true then none else some (⟨f, y, r == [46], vs'⟩ : Pat)) = if ¬ (1 ≤ y.length ∧ y.length ≤ 6) ∨ y.length = (inner l).length then none else some (y, f, l.getLast? == some 46)
    have hv : vs'.all (fun v => v == 0) = true ↔ y.length = (inner l).length := by
      rw [e4]
      simp
    have hr : ¬ (r ≠ [] ∧ (r == [46]) = false) := by
      rintro ⟨a, b⟩
      rcases e2 with z | z
      · exact a z
      · rw [z] at b; exact absurd b (by decide)
    have hs : (r == [46]) = (l.getLast? == some 46) := by
      rw [Bool.eq_iff_iff]
      simpa using e3
    by_cases hc : ¬ (1 ≤ y.length ∧ y.length ≤ 6) ∨ y.length = (inner l).length
    · rw [if_pos hc, if_pos]
      · rfl
      · unfold Vahypa.PIECE
        rcases hc with z | z
        · omega
        · exact .inr (.inr (.inr (hv.mpr z)))
    · rw [if_neg hc, if_neg]
      · rw [← hs]; rfl
      · unfold Vahypa.PIECE
        rintro (z | z | z | z)
        · exact hc (.inl (by omega))
        · exact hc (.inl (by omega))
        · exact hr z
        · exact hc (.inr (hv.mp z))
end WM
set_option Elab.async false
set_option linter.all false
set_option maxRecDepth 100000
set_option maxHeartbeats 2000000
namespace WG
open PySem PySem.Spec PyProof.Rows L2
/-- the i-th statement of the program -/
def top (i : Nat) : Stmt := PySem.Challenge.pw_wordgaps_s01_answers.main.body.getD i (.Pass ⟨0, 0, 0, 0⟩)

/-! ### a def that may be called by its name -/
structure Df (P : Program) (w : World) (K : PySem.W.Frag) (mg : Str → Option Value) (base : Heap) (CX : CXT) (k : Nat) (x : Str) (ps : List Str) (sp : Sp) : Prop where
  ex : ∃ (f : Addr) (fd : FuncData), FnOk P w K mg base CX k f fd ps sp ∧ mg x = some (.ref f) ∧ PySem.W.keepIn K (.ref f) = true ∧ Binds K fd ps []
/-- where it stands, how it binds -/
structure At (K : PySem.W.Frag) (mg : Str → Option Value) (x : Str) (st : Stmt) (ps : List Str) (f : Addr) (fd : FuncData) : Prop where
  fn : Fun K x x st f fd
  mgf : mg x = some (.ref f)
  b : Binds K fd ps []
section
variable {P : Program} {w : World} {K : PySem.W.Frag} {mg : Str → Option Value} {base : Heap}
theorem df0 {x : Str} {st : Stmt} {f : Addr} {fd : FuncData} {N ps : List Str} {k : Nat} {sp : Sp} (F : At K mg x st ps f fd) (S : FnScope N ps (defScope st)) (len : ∀ vs H Q E, sp vs H Q E → vs.length = ps.length)
    (hbody : ∀ (cdv : Value) (A : Around) (outer : List Env) (s : Shared) (H : Hp) (vs : List V) (Q : VK) (E : XK), Room k (A.deeper (envOfC x (defScope st) s.heap.objs.size f cdv)) → sp vs H Q E →
      ∃ t, PSs (cxOf CX0 P w K mg base N x (defScope st) f cdv A outer s H E).nox (defBody st) t ∧ t { nx := fun _ H' => Q .non H', rt := Q } (start N vs) H) : Df P w K mg base CX0 (k + 1) x ps sp :=
  ⟨f, fd, F.fn.ok S len hbody, F.mgf, F.fn.kp, F.b⟩
theorem dfX {x : Str} {st : Stmt} {f : Addr} {fd : FuncData} {N ps : List Str} {k : Nat} {sp : Sp} (F : At K mg x st ps f fd) (S : FnScope N ps (defScope st)) (len : ∀ vs H Q E, sp vs H Q E → vs.length = ps.length)
    (hbody : ∀ (cdv : Value) (A : Around) (outer : List Env) (s : Shared) (H : Hp) (vs : List V) (Q : VK) (E : XK), Room k (A.deeper (envOfC x (defScope st) s.heap.objs.size f cdv)) → sp vs H Q E →
      ∃ t, PSs (cxOf (L2.CX P w) P w K mg base N x (defScope st) f cdv A outer s H E) (defBody st) t ∧ t { nx := fun _ H' => Q .non H', rt := Q } (start N vs) H) : Df P w K mg base (L2.CX P w) (k + 1) x ps sp :=
  ⟨f, fd, F.fn.okX S len hbody, F.mgf, F.fn.kp, F.b⟩
end
section
variable {X : Cx} {k j : Nat} {x : Str} {ps : List Str} {sp : Sp} {p pos : Pos} {e : Expr} {es : List Expr} {t : TA} {W : WX}
theorem pe_d0 (c : Df X.prog X.w X.K X.mg X.base CX0 k x ps sp) (hr : Room j X.A) (hk : k ≤ j) (hg : Gl X x) (ha : PA X (e :: es) t)
    (hdb : (x == ("__debug__" : Str)) = false := by decide) (he : starEach (e :: es) X.env = (false, eval e X.env) :: starEach es X.env := by rfl) (hpl : (backTo pos (starEach es X.env)).any (·.1) = false := by rfl) :
    PE X (.Call (.Name x p) (e :: es) [] pos) (tCall sp [] E0 t) := by
  obtain ⟨f, fd, F, hm, kp, b⟩ := c.ex
  exact pe_call F (hr.mono hk) hg hm kp b .nil pass0 ha hdb he hpl
theorem pe_dX (c : Df X.prog X.w X.K X.mg X.base (L2.CX X.prog X.w) k x ps sp) (hr : Room j X.A) (hk : k ≤ j) (hg : Gl X x) (tk : Takes X W) (ha : PA X (e :: es) t)
    (hdb : (x == ("__debug__" : Str)) = false := by decide) (he : starEach (e :: es) X.env = (false, eval e X.env) :: starEach es X.env := by rfl) (hpl : (backTo pos (starEach es X.env)).any (·.1) = false := by rfl) :
    PE X (.Call (.Name x p) (e :: es) [] pos) (tCallS sp (WE W) t) := by
  obtain ⟨f, fd, F, hm, kp, b⟩ := c.ex
  exact pe_callS F (hr.mono hk) hg hm kp b (fun σ => passAt tk σ) ha hdb he hpl
end

/-! ### bytes, texts -/
abbrev tx (b : VahypBase.Bytes) : Str := SX.S (b.map UInt8.toNat)
abbrev nv (l : List Nat) : List V := l.map fun (k : Nat) => V.int (k : Int)
abbrev bv (b : VahypBase.Bytes) : List V := b.map fun c => V.int (c.toNat : Int)
theorem tx_len (b : VahypBase.Bytes) : (tx b).length = b.length := by rw [SX.S_len, List.length_map]
theorem tx_inj {a b : VahypBase.Bytes} (h : tx a = tx b) : a = b := by
  have e := SX.S_inj h
  exact (List.map_inj_right (fun x y h => UInt8.toNat_inj.mp h)).mp e
theorem tx_iff {a b : VahypBase.Bytes} : tx a = tx b ↔ a = b := ⟨tx_inj, fun h => by rw [h]⟩

/-! ### lists of objects -/
theorem pget {α β : Type} {F : α → β → Prop} : ∀ {l : List α} {m : List β} {i : Nat} {a : α}, Paired F l m → l[i]? = some a → ∃ b, m[i]? = some b ∧ F a b
  | _, _, _, _, .nil, h => by simp at h
  | _, _, 0, a, .cons r _, h => by
    have e := Option.some.inj h
    subst e
    exact ⟨_, rfl, r⟩
  | _, _, i + 1, a, .cons _ t, h => pget (i := i) t h
theorem pget2 {α β : Type} {F : α → β → Prop} : ∀ {l : List α} {m : List β} {i : Nat} {b : β}, Paired F l m → m[i]? = some b → ∃ a, l[i]? = some a ∧ F a b
  | _, _, _, _, .nil, h => by simp at h
  | _, _, 0, a, .cons r _, h => by
    have e := Option.some.inj h
    subst e
    exact ⟨_, rfl, r⟩
  | _, _, i + 1, a, .cons _ t, h => pget2 (i := i) t h
theorem psnoc {α β : Type} {F : α → β → Prop} {a : α} {b : β} : ∀ {l : List α} {m : List β}, Paired F l m → F a b → Paired F (l ++ [a]) (m ++ [b])
  | _, _, .nil, h => .cons h .nil
  | _, _, .cons r t, h => .cons r (psnoc t h)
theorem pappend {α β : Type} {F : α → β → Prop} : ∀ {l l' : List α} {m m' : List β}, Paired F l m → Paired F l' m' → Paired F (l ++ l') (m ++ m')
  | _, _, _, _, .nil, h => h
  | _, _, _, _, .cons r t, h => .cons r (pappend t h)
/-- a list of references to objects that are as F says -/
def RefsAt {β : Type} (F : Hp → Addr → β → Prop) (H : Hp) (l : Addr) (xs : List β) : Prop := ∃ as : List Addr, H l = some (.lst (as.map V.ref)) ∧ Paired (F H) as xs
theorem RefsAt.same {β : Type} {F : Hp → Addr → β → Prop} (hF : ∀ H H' a b, Same H H' → F H a b → F H' a b) {H H' : Hp} {l : Addr} {xs : List β} (e : Same H H') (h : RefsAt F H l xs) : RefsAt F H' l xs := by
  obtain ⟨as, h1, h2⟩ := h
  exact ⟨as, e _ _ h1, Paired.mapP h2 fun a b => hF H H' a b e⟩
theorem same_upd {H : Hp} {p : Addr} {o : HO} (h : H p = none) : Same H (upd H p o) := fun b u e => by rw [upd_ne (ne_of_none e h)]; exact e
/-- all that was tracked but at l -/
def But (l : Addr) (H H' : Hp) : Prop := ∀ b o, b ≠ l → H b = some o → H' b = some o
theorem But.refl (l : Addr) (H : Hp) : But l H H := fun _ _ _ h => h
theorem But.trans {l : Addr} {H H1 H2 : Hp} (a : But l H H1) (b : But l H1 H2) : But l H H2 := fun c o n h => b c o n (a c o n h)
theorem But.of {l : Addr} {H H' : Hp} (a : Same H H') : But l H H' := fun c o _ h => a c o h
theorem But.upd {l : Addr} {H : Hp} {o : HO} : But l H (upd H l o) := fun b u n e => by rw [upd_ne n]; exact e
/-- a list made since H -/
theorem But.same {l : Addr} {H H' : Hp} (a : But l H H') (n : H l = none) : Same H H' := fun b o e => a b o (ne_of_none e n) e
theorem iteT' {c : Bool} {A B : Prop} (hc : c = true) (h : A) : if c = true then A else B := by
  rw [if_pos hc]
  exact h
theorem iteF' {c : Bool} {A B : Prop} (hc : c = false) (h : B) : if c = true then A else B := by
  rw [hc, if_neg Bool.false_ne_true]
  exact h
/-- lo <= e <= hi of whole numbers, as a test -/
theorem chain_le {σ : L2.St} {H : Hp} {lo hi v : Int} {tb : TE} {R : Bool → Hp → Prop} (hb : ∀ Q : VK, Q (.int v) H → tb σ H Q) (h : R (decide (lo ≤ v ∧ v ≤ hi)) H) :
    tTest (tChain (rI0 fun i j => .bl (decide (i ≤ j))) (rI0 fun i j => .bl (decide (i ≤ j))) (tC (.int lo)) tb (tC (.int hi))) σ H R := by
  refine hb _ ⟨_, _, rfl, rfl, _, rfl, ?_⟩
  by_cases z : lo ≤ v
  · rw [decide_eq_true z]
    refine iteT ⟨_, _, rfl, rfl, _, rfl, ?_⟩
    rw [show decide (lo ≤ v ∧ v ≤ hi) = decide (v ≤ hi) by simp [z]] at h
    exact h
  · rw [decide_eq_false z]
    refine iteF ⟨_, rfl, ?_⟩
    rw [decide_eq_false (fun q => z q.1)] at h
    exact h
/-- a and b of tests that leave the heap as it is -/
theorem tAnd_val {A B : TT} {σ : L2.St} {H : Hp} {R : Bool → Hp → Prop} {a b : Bool} (hA : ∀ R : Bool → Hp → Prop, R a H → A σ H R) (hB : ∀ R : Bool → Hp → Prop, R b H → B σ H R) (h : R (a && b) H) : tAnd A B σ H R := by
  refine hA _ ?_
  cases a with
  | false => exact iteF h
  | true => exact iteT (hB _ (by rw [Bool.true_and] at h; exact h))
theorem walk_rg {lo lo' : Int} {m n : Nat} (h1 : lo' = lo) (h2 : m = n) : Walk (Itr lo' m) n (fun _ => True) (YFn fun i => V.int (lo + (i : Nat))) := by
  subst h1
  subst h2
  exact walk_range
end WG
set_option Elab.async false
set_option linter.all false
set_option maxRecDepth 100000
set_option maxHeartbeats 2000000
namespace WG
open PySem PySem.Spec PyProof.Rows L2
/-! ### the addresses of what the top has written, and what is true of them -/
structure Ads where
  cW : Addr
  cL : Addr
  cH : Addr
  cF : Addr
  aB : Addr
  aM : Addr
  aA : Addr
  fF : Addr
  kD : Addr
  pD : Addr
  kC : Addr
  pC : Addr
abbrev cst (mg : Str → Option Value) (x : Str) (v : V) : Prop := ∃ u, mg x = some u ∧ RelV v u
structure Txt (K : PySem.W.Frag) (mg : Str → Option Value) (D : Ads) : Prop where
  n_len : mg "len" = none
  n_range : mg "range" = none
  n_enumerate : mg "enumerate" = none
  n_max : mg "max" = none
  n_min : mg "min" = none
  n_int : mg "int" = none
  n_set : mg "set" = none
  n_sorted : mg "sorted" = none
  kW : Cls K D.cW
  kL : Cls K D.cL
  kH : Cls K D.cH
  wL : NoAttr K D.cW "letters"
  wB : NoAttr K D.cW "breaks"
  lL : NoAttr K D.cL "left"
  lR : NoAttr K D.cL "right"
  lW : NoAttr K D.cL "words"
  lP : NoAttr K D.cL "patterns"
  hH : NoAttr K D.cH "held"
  c_BLANKS : cst mg "BLANKS" (.ref D.aB)
  t_BLANKS : ∀ H, SqT K H D.aB [.int 32, .int 9, .int 10]
  c_LINE_END : cst mg "LINE_END" (.int 10)
  c_REMARK : cst mg "REMARK" (.int 35)
  c_SEMICOLON : cst mg "SEMICOLON" (.int 59)
  c_LETTERS : cst mg "LETTERS" (.str "abcdefghijklmnopqrstuvwxyz")
  c_DIGITS : cst mg "DIGITS" (.str "0123456789")
  c_MOST_CHUNK_BYTES : cst mg "MOST_CHUNK_BYTES" (.int 40)
  c_MOST_BYTES : cst mg "MOST_BYTES" (.int 4096)
  c_MOST_WORDS : cst mg "MOST_WORDS" (.int 24)
  c_MOST_PATTERNS : cst mg "MOST_PATTERNS" (.int 40)
  c_MARGINS : cst mg "MARGINS" (.ref D.aM)
  t_MARGINS : ∀ H, SqT K H D.aM [.str "0", .str "1", .str "2", .str "3", .str "4", .str "5"]
  c_LOAD : cst mg "LOAD" (.int 0)
  c_CONFLICTS : cst mg "CONFLICTS" (.int 1)
  c_LEFTOUT : cst mg "LEFTOUT" (.int 2)
  c_MOST_WORDS_TO_LEAVE_OUT : cst mg "MOST_WORDS_TO_LEAVE_OUT" (.int 10)
  xF : OexC K D.cF
  xX : XfC K D.cF
  xc : PySem.W.findIn K (.ref D.cF) "code" = some none
  xp : PySem.W.findIn K (.ref D.cF) "place" = some none
  xi : PySem.W.findIn K (.ref D.cF) "__init__" = some (some (.ref D.fF))
  xt : PySem.W.typeIn K (.ref D.fF) = some (.type "function")
  gF : mg "ListFault" = some (.ref D.cF)
  te : PySem.W.exmOne K (.ref D.cF) (.ref D.cF) = some true
  n_all : mg "all" = none
  n_any : mg "any" = none
  n_tuple : mg "tuple" = none
  n_list : mg "list" = none
  n_zip : mg "zip" = none
  c_EVIDENCE : cst mg "EVIDENCE" (.int 3)
  c_DOUBTS : cst mg "DOUBTS" (.int 4)
  c_KEPTOUT : cst mg "KEPTOUT" (.int 5)
  c_MOST_WORDS_TO_DOUBT : cst mg "MOST_WORDS_TO_DOUBT" (.int 10)
  c_MOST_WORDS_TO_CROSS : cst mg "MOST_WORDS_TO_CROSS" (.int 6)
  c_MOST_GOALS : cst mg "MOST_GOALS" (.int 9)

/-! ### how the specification's lists lie in the heap -/
def fW (x : VahypBase.Bytes) (bl : Addr) : List (Str × V) := [("letters", .str (tx x)), ("breaks", .ref bl)]
def WordAt (C : Addr) (H : Hp) (a : Addr) (w : Vahypa.Word) : Prop := ∃ dx bl, H a = some (.ins C dx (fW w.x bl)) ∧ H bl = some (.lst (nv w.cuts))
def PatAt (H : Hp) (a : Addr) (p : Vahypa.Pat) : Prop := H a = some (.tup [.str (tx p.x), .bl p.front, .bl p.halt_])
def fL (l r : Nat) (wl pl : Addr) : List (Str × V) := [("left", .int l), ("right", .int r), ("words", .ref wl), ("patterns", .ref pl)]
def ListAt (D : Ads) (H : Hp) (a : Addr) (s : Vahypa.Lst) : Prop := ∃ dx wl pl, H a = some (.ins D.cL dx (fL s.l s.r wl pl)) ∧ RefsAt (WordAt D.cW) H wl s.words ∧ RefsAt PatAt H pl s.pats
theorem WordAt.same {C : Addr} : ∀ (H H' : Hp) (a : Addr) (w : Vahypa.Word), Same H H' → WordAt C H a w → WordAt C H' a w := fun _ _ _ _ e ⟨dx, bl, h1, h2⟩ => ⟨dx, bl, e _ _ h1, e _ _ h2⟩
theorem PatAt.same : ∀ (H H' : Hp) (a : Addr) (p : Vahypa.Pat), Same H H' → PatAt H a p → PatAt H' a p := fun _ _ _ _ e h => e _ _ h
theorem ListAt.same {D : Ads} {H H' : Hp} {a : Addr} {s : Vahypa.Lst} (e : Same H H') (h : ListAt D H a s) : ListAt D H' a s := by
  obtain ⟨dx, wl, pl, h1, h2, h3⟩ := h
  exact ⟨dx, wl, pl, e _ _ h1, h2.same WordAt.same e, h3.same PatAt.same e⟩
/-- a pair of numbers -/
def PairAt (H : Hp) (a : Addr) (p : Nat × Nat) : Prop := H a = some (.tup [.int p.1, .int p.2])
theorem PairAt.same : ∀ (H H' : Hp) (a : Addr) (p : Nat × Nat), Same H H' → PairAt H a p → PairAt H' a p := fun _ _ _ _ e h => e _ _ h
/-- sizes -/
structure Fine (s : Vahypa.Lst) : Prop where
  nw : s.words.length ≤ 24
  np : s.pats.length ≤ 40
  lx : ∀ w ∈ s.words, 2 ≤ w.x.length ∧ w.x.length ≤ 16
  lc : ∀ w ∈ s.words, w.cuts.length ≤ 16
  l5 : s.l ≤ 5
  r5 : s.r ≤ 5

theorem lk_here {k : Str} {v : V} {r : List (Str × V)} : List.lookup k ((k, v) :: r) = some v := by
  have e : (k == k) = true := beq_self_eq_true k
  simp only [List.lookup, e]
theorem lk_past {k g : Str} {v : V} {r : List (Str × V)} (h : (k == g) = false) : List.lookup k ((g, v) :: r) = List.lookup k r := by
  simp only [List.lookup, h]
theorem fW_letters (x : VahypBase.Bytes) (bl : Addr) : (fW x bl).lookup ("letters" : Str) = some (.str (tx x)) := lk_here
theorem fW_breaks (x : VahypBase.Bytes) (bl : Addr) : (fW x bl).lookup ("breaks" : Str) = some (.ref bl) := (lk_past (by decide +kernel)).trans lk_here
theorem fL_left (l r : Nat) (wl pl : Addr) : (fL l r wl pl).lookup ("left" : Str) = some (.int l) := lk_here
theorem fL_right (l r : Nat) (wl pl : Addr) : (fL l r wl pl).lookup ("right" : Str) = some (.int r) := (lk_past (by decide +kernel)).trans lk_here
theorem fL_words (l r : Nat) (wl pl : Addr) : (fL l r wl pl).lookup ("words" : Str) = some (.ref wl) := (lk_past (by decide +kernel)).trans ((lk_past (by decide +kernel)).trans lk_here)
theorem fL_patterns (l r : Nat) (wl pl : Addr) : (fL l r wl pl).lookup ("patterns" : Str) = some (.ref pl) := (lk_past (by decide +kernel)).trans ((lk_past (by decide +kernel)).trans ((lk_past (by decide +kernel)).trans lk_here))

/-! ### find_spots -/
def spotsP (s : Vahypa.Lst) : List (Nat × Nat) := (Vahype.spotsOf s).map fun a => (a.w, a.g)
/-- the gaps of a word of n letters, the first k of them -/
def gapsTo (l r n k : Nat) : List Nat := ((List.range k).map (· + 1)).filter fun g => decide (l ≤ g ∧ g + r ≤ n)
def spotsTo (s : Vahypa.Lst) (i : Nat) : List (Nat × Nat) := (s.words.zipIdx.take i).flatMap fun w => (gapsTo s.l s.r w.1.x.length (w.1.x.length - 1)).map fun g => (w.2, g)
theorem spotsTo_all (s : Vahypa.Lst) : spotsTo s s.words.length = spotsP s := by
  unfold spotsTo spotsP Vahype.spotsOf
  rw [List.take_of_length_le (by rw [List.length_zipIdx] <;> exact Nat.le_refl _), List.map_flatMap]
  refine congrArg (fun f => s.words.zipIdx.flatMap f) (funext fun w => ?_)
  rw [List.map_map]
  rfl
theorem take_more {α : Type} : ∀ {l : List α} {i : Nat} {x : α}, l[i]? = some x → l.take (i + 1) = l.take i ++ [x]
  | [], i, x, h => by simp at h
  | a :: l, 0, x, h => by
    have e : a = x := Option.some.inj h
    subst e
    rfl
  | a :: l, i + 1, x, h => by
    have ih := take_more (l := l) (i := i) (x := x) h
    show a :: l.take (i + 1) = a :: l.take i ++ [x]
    rw [ih]
    rfl
theorem spotsTo_more {s : Vahypa.Lst} {i : Nat} {w : Vahypa.Word} (h : s.words[i]? = some w) : spotsTo s (i + 1) = spotsTo s i ++ (gapsTo s.l s.r w.x.length (w.x.length - 1)).map fun g => (i, g) := by
  unfold spotsTo
  have e : s.words.zipIdx[i]? = some (w, i) := by
    rw [List.getElem?_zipIdx, h]
    simp
  rw [take_more e, List.flatMap_append]
  simp
theorem gapsTo_more (l r n k : Nat) : gapsTo l r n (k + 1) = gapsTo l r n k ++ (if l ≤ k + 1 ∧ k + 1 + r ≤ n then [k + 1] else []) := by
  unfold gapsTo
  rw [List.range_succ, List.map_append, List.filter_append]
  congr 1
  simp only [List.map_cons, List.map_nil, List.filter_cons, List.filter_nil, decide_eq_true_eq]
theorem gapsTo_len (l r n k : Nat) : (gapsTo l r n k).length ≤ k := by
  refine Nat.le_trans (List.length_filter_le _ _) ?_
  rw [List.length_map, List.length_range]
  exact Nat.le_refl _
theorem spotsTo_len {s : Vahypa.Lst} (F : Fine s) : ∀ i, i ≤ s.words.length → (spotsTo s i).length ≤ 15 * i
  | 0, _ => by simp [spotsTo]
  | i + 1, h => by
    have ih := spotsTo_len F i (Nat.le_of_succ_le h)
    have hg : s.words[i]? = some s.words[i] := List.getElem?_eq_getElem h
    rw [spotsTo_more hg, List.length_append, List.length_map]
    have hm := F.lx _ (List.getElem_mem h)
    have hl := gapsTo_len s.l s.r s.words[i].x.length (s.words[i].x.length - 1)
    omega

abbrev s_find_spots : Stmt := top 1
abbrev N_find_spots : List Str := ["wordlist", "spots", "number", "word", "size", "gap"]
theorem sc_find_spots : FnScope N_find_spots ["wordlist"] (defScope s_find_spots) := ⟨rfl, rfl, rfl, by decide +kernel, rfl, by decide +kernel, by decide +kernel⟩
def sp_find_spots (D : Ads) : Sp := fun vs H Q _ => ∃ a s, vs = [.ref a] ∧ ListAt D H a s ∧ Fine s ∧ ∀ H' l, Same H H' → H l = none → RefsAt PairAt H' l (spotsP s) → Q (.ref l) H'
section
variable {P : Program} {w : World} {K : PySem.W.Frag} {mg : Str → Option Value} {base : Heap} {D : Ads}
theorem df_find_spots {f : Addr} {fd : FuncData} (F : At K mg "find_spots" s_find_spots ["wordlist"] f fd) (T : Txt K mg D) : Df P w K mg base CX0 1 "find_spots" ["wordlist"] (sp_find_spots D) := by
  refine df0 (N := N_find_spots) F sc_find_spots (fun vs H Q E h => ?_) (fun cdv A outer s H vs Q E hr h => ⟨_, (pss_cons (ps_set (i := 1) sc_find_spots.nd rfl (Or.inl rfl) (pe_lst pa_nil))
(pss_cons (ps_for PassesOwn.never rfl (pi_enum rfl T.n_enumerate (pa_cons (pe_fld (pv 0) rfl) pa_nil)) (pg_tup rfl (pgs_cons (pg_name (i := 2) sc_find_spots.nd rfl (Or.inl rfl)) (pgs_cons (pg_name (i := 3) sc_find_spots.nd rfl (Or.inl rfl)) pgs_nil)))
(pss_cons (ps_set (i := 4) sc_find_spots.nd rfl (Or.inl rfl) (pe_callB call_len_str (by rfl) T.n_len (by decide +kernel) (pa_cons (pe_fld (pv 3) rfl) pa_nil)))
(pss_one (ps_for PassesOwn.never rfl (pi_range2 rfl T.n_range (pa_cons pe_int (pa_cons (pv 4) pa_nil))) (pg_name (i := 5) sc_find_spots.nd rfl (Or.inl rfl))
(pss_one (ps_if (PW.pt (pw_and (pt_cmpR op_ge (pv 5) (pe_fld (pv 0) rfl) (nomark _)) (pw_and1 (pt_cmpR op_ge (pe_op op_sub (pv 4) (pv 5)) (pe_fld (pv 0) rfl) (nomark _)))))
(pss_one (ps_expr (pe_bm PySem.F.plainAttrs_list PySem.F.slot_list_append PySem.F.type_list_append mt_append (pv 1) (pa_cons (pe_tup (pa_cons (pv 2) (pa_cons (pv 5) pa_nil))) pa_nil))))
pss_nil))))))
(pss_one (ps_ret (pv 1))))), ?_⟩)
  · obtain ⟨a, s, rfl, _⟩ := h
    rfl
  · obtain ⟨a, s, rfl, hL, hF, k⟩ := h
    -- spots = []
    refine ⟨by show 0 ≤ sizeLine; exact Nat.zero_le _, fun l hl => ?_⟩
    obtain ⟨dx, wl, pl, h1, ⟨ws, h2, h2p⟩, h3⟩ := id hL
    have e0 : Same H (upd H l (.lst [])) := same_upd hl
    -- for number, word in enumerate(wordlist.words)
    refine ⟨_, rfl, a, D.cL, dx, _, _, rfl, e0 _ _ h1, T.kL, T.lW, fL_words _ _ _ _, wl, _, rfl, SqL.of (e0 _ _ h2), ?_⟩
    refine for_it (walk_enum (K := K) (a := wl) (xs := ws.map V.ref)) (fun i σ H' => ∃ v2 v3 v4 v5, σ = [some (.ref a), some (.ref l), v2, v3, v4, v5] ∧ Same H H' ∧ RefsAt PairAt H' l (spotsTo s i)) ?_ ?_ ?_ ?_
    · exact ⟨none, none, none, none, rfl, e0, [], upd_same, .nil⟩
    · rintro i σ H' _ ⟨_, _, _, _, _, e, _⟩
      exact SqL.of (e _ _ h2)
    · rintro i x σ H' H'' hi ⟨v2, v3, v4, v5, rfl, e, as, hs, hp⟩ ⟨T0, x0, y0, rfl, nT, rfl, ex, ey⟩
      cases ex
      have ey : (ws.map V.ref)[i]? = some y0 := ey
      rw [List.getElem?_map] at ey
      obtain ⟨wa, hwa, rfl⟩ : ∃ wa, ws[i]? = some wa ∧ y0 = V.ref wa := by
        cases q : ws[i]? with
        | none => rw [q] at ey; cases ey
        | some z => rw [q] at ey; exact ⟨z, rfl, (Option.some.inj ey).symm⟩
      obtain ⟨wd, hwd, dw, bl, hw1, hw2⟩ := pget h2p hwa
      have hfx := hF.lx wd (List.mem_of_getElem? hwd)
      have ilt : i < s.words.length := (List.getElem?_eq_some_iff.mp hwd).1
      have e1 : Same H (upd H' T0 (.tup [.int (i : Nat), .ref wa])) := e.trans (same_upd nT)
      have e2 : Same H' (upd H' T0 (.tup [.int (i : Nat), .ref wa])) := same_upd nT
      refine ⟨T0, _, rfl, SqT.of upd_same, rfl, _, _, rfl, _, _, rfl, rfl, ?_⟩
      -- size = len(word.letters)
      refine ⟨_, rfl, wa, D.cW, dw, _, _, rfl, e1 _ _ hw1, T.kW, T.wL, fW_letters _ _, _, rfl, ?_, ?_⟩
      · rw [tx_len]; exact Nat.le_trans hfx.2 (by decide)
      -- for gap in range(1, size)
      refine ⟨_, rfl, 1, _, rfl, ⟨by decide, by decide, ?_, ?_⟩, ?_⟩
      · rw [tx_len]; omega
      · rw [tx_len]; omega
      have en : ((((tx wd.x).length : Nat) : Int) - 1).toNat = wd.x.length - 1 := by
        rw [tx_len]; omega
      rw [en]
      refine for_it (walk_range (lo := 1) (n := wd.x.length - 1)) (fun j σ H' => ∃ v5, σ = [some (.ref a), some (.ref l), some (.int (i : Nat)), some (.ref wa), some (.int ((tx wd.x).length : Nat)), v5] ∧ Same H H' ∧ RefsAt PairAt H' l (spotsTo s i ++ (gapsTo s.l s.r wd.x.length j).map fun g => (i, g))) ?_ ?_ ?_ ?_
      · exact ⟨v5, rfl, e1, as, e2 _ _ hs, by simpa [gapsTo] using Paired.mapP hp fun a b h => PairAt.same _ _ a b e2 h⟩
      · intro _ _ _ _ _; trivial
      · rintro j x σ H3 H4 hj ⟨v5, rfl, e3, as3, hs3, hp3⟩ ⟨rfl, rfl⟩
        -- gap >= wordlist.left and size - gap >= wordlist.right
        refine ⟨_, rfl, _, rfl, a, D.cL, dx, _, _, rfl, e3 _ _ h1, T.kL, T.lL, fL_left _ _ _ _, _, _, rfl, rfl, _, rfl, ?_⟩
        have room : (spotsTo s i ++ (gapsTo s.l s.r wd.x.length j).map fun g => (i, g)).length ≤ 1000 := by
          have z := spotsTo_len hF i (Nat.le_of_lt ilt)
          have z2 := gapsTo_len s.l s.r wd.x.length j
          have z3 := hF.nw
          rw [List.length_append, List.length_map]
          omega
        have skip : ¬ (s.l ≤ j + 1 ∧ j + 1 + s.r ≤ wd.x.length) → ∃ v5, [some (V.ref a), some (.ref l), some (.int (i : Nat)), some (.ref wa), some (.int ((tx wd.x).length : Nat)), some (.int (1 + (j : Int)))] = [some (.ref a), some (.ref l), some (.int (i : Nat)), some (.ref wa), some (.int ((tx wd.x).length : Nat)), v5] ∧ Same H H4 ∧ RefsAt PairAt H4 l (spotsTo s i ++ (gapsTo s.l s.r wd.x.length (j + 1)).map fun g => (i, g)) := fun hc => by
          refine ⟨_, rfl, e3, as3, hs3, ?_⟩
          rw [gapsTo_more, if_neg hc, List.append_nil]
          exact hp3
        refine ite2 (fun c1 => ?_) (fun c1 => iteF (skip ?_))
        · refine ⟨_, rfl, _, rfl, _, _, rfl, rfl, _, rfl, a, D.cL, dx, _, _, rfl, e3 _ _ h1, T.kL, T.lR, fL_right _ _ _ _, _, _, rfl, rfl, _, rfl, ?_⟩
          have c1' := of_decide_eq_true c1
          refine ite2 (fun c2 => ?_) (fun c2 => skip ?_)
          · -- spots.append((number, gap))
            have c2' := of_decide_eq_true c2
            rw [tx_len] at c2'
            refine ⟨_, rfl, .inl ⟨rfl, _, SqL.of hs3⟩, _, rfl, _, rfl, (by show 2 ≤ sizeLine; decide), fun t ht => ?_⟩
            have tl : l ≠ t := ne_of_none hs3 ht
            refine ⟨l, _, _, rfl, rfl, (upd_ne tl).trans hs3, ?_, ?_⟩
            · rw [List.length_map, hp3.length]
              exact Nat.lt_of_le_of_lt room (by decide)
            · have sm : Same H4 (upd H4 t (.tup [.int (i : Nat), .int (1 + (j : Int))])) := same_upd ht
              have bt : But l H4 (upd (upd H4 t (.tup [.int (i : Nat), .int (1 + (j : Int))])) l (.lst (as3.map V.ref ++ [.ref t]))) := (But.of sm).trans But.upd
              refine ⟨_, rfl, fun b o hb => ?_, as3 ++ [t], ?_, ?_⟩
              · exact bt b o (ne_of_none hb hl) (e3 b o hb)
              · rw [upd_same, List.map_append]
                rfl
              · rw [gapsTo_more, if_pos (by omega), List.map_append, ← List.append_assoc]
                refine psnoc (Paired.mapP hp3 fun b p h => ?_) ?_
                · have hb : b ≠ l := ne_of h hs3 (by intro z; cases z)
                  exact bt b _ hb h
                · show (upd (upd H4 t _) l _) t = _
                  rw [upd_ne (Ne.symm tl), upd_same]
                  have ej : (1 + (j : Int)) = ((j + 1 : Nat) : Int) := by omega
                  show some (HO.tup [V.int (i : Nat), V.int (1 + (j : Int))]) = some (HO.tup [V.int (i : Nat), V.int ((j + 1 : Nat) : Int)])
                  rw [ej]
          · have c2' : ¬ ((s.r : Int) ≤ ((tx wd.x).length : Int) - (1 + (j : Int))) := fun z => c2 (decide_eq_true z)
            rw [tx_len] at c2'
            omega
        · have c1' : ¬ ((s.l : Int) ≤ 1 + (j : Int)) := fun z => c1 (decide_eq_true z)
          omega
      · rintro σ H5 ⟨v5', rfl, e5, r5⟩
        refine ⟨_, _, _, _, rfl, e5, ?_⟩
        rw [spotsTo_more hwd]
        exact r5
    · rintro σ H' ⟨v2, v3, v4, v5, rfl, e, r⟩
      refine ⟨_, rfl, k H' l e hl ?_⟩
      rw [List.length_map, h2p.length, spotsTo_all] at r
      exact r
end
end WG
set_option Elab.async false
set_option linter.all false
set_option maxRecDepth 100000
set_option maxHeartbeats 2000000
namespace WG
open PySem PySem.Spec PyProof.Rows L2
/-! ### small facts -/
theorem refs_get {ws : List Addr} {i : Nat} {y : V} (h : (ws.map V.ref)[i]? = some y) : ∃ wa, ws[i]? = some wa ∧ y = V.ref wa := by
  rw [List.getElem?_map] at h
  cases q : ws[i]? with
  | none => rw [q] at h; cases h
  | some z => rw [q] at h; exact ⟨z, rfl, (Option.some.inj h).symm⟩
theorem nv_get {l : List Nat} {i : Nat} {y : V} (h : (nv l)[i]? = some y) : ∃ n, l[i]? = some n ∧ y = V.int (n : Int) := by
  unfold nv at h
  rw [List.getElem?_map] at h
  cases q : l[i]? with
  | none => rw [q] at h; cases h
  | some z => rw [q] at h; exact ⟨z, rfl, (Option.some.inj h).symm⟩
theorem flat_nv (l : List Nat) : (nv l).all flatV = true := by
  rw [List.all_eq_true]
  intro x hx
  obtain ⟨n, _, rfl⟩ := List.mem_map.mp hx
  rfl
theorem in_nv (g : Nat) : ∀ l : List Nat, inV (.int (g : Int)) (nv l) = l.contains g
  | [] => rfl
  | a :: r => by
    have ih := in_nv g r
    show (eqV (.int (a : Int)) (.int (g : Int)) || inV (.int (g : Int)) (nv r)) = (a :: r).contains g
    rw [ih, List.contains_cons]
    congr 1
    show ((a : Int) == (g : Int)) = (g == a)
    rw [Bool.eq_iff_iff]
    simp only [beq_iff_eq]
    omega
theorem cut_tx (x : VahypBase.Bytes) (o e : Nat) : cutS (tx x) (some (o : Int)) (some (e : Int)) = tx ((x.drop o).take (e - o)) := by
  unfold cutS
  rw [HT.sIx_nat, HT.sIx_nat, tx_len]
  show SX.S (((x.map UInt8.toNat).drop (min o x.length)).take (min e x.length - min o x.length)) = _
  unfold tx
  congr 1
  rw [List.map_take, List.map_drop]
  by_cases h : o ≤ x.length
  · rw [Nat.min_eq_left h]
    by_cases h2 : e ≤ x.length
    · rw [Nat.min_eq_left h2]
    · rw [Nat.min_eq_right (by omega), List.take_of_length_le (by rw [List.length_drop, List.length_map] <;> exact Nat.le_refl _), List.take_of_length_le (by rw [List.length_drop, List.length_map] <;> omega)]
  · rw [List.drop_eq_nil_of_le (by rw [List.length_map] <;> omega), List.drop_eq_nil_of_le (by rw [List.length_map] <;> omega), List.take_nil, List.take_nil]
theorem str_iff {a b : VahypBase.Bytes} : (V.str (tx a) = V.str (tx b)) ↔ a = b := ⟨fun h => tx_inj (V.str.inj h), fun h => by rw [h]⟩
theorem int_iff {a b : Int} : (V.int a = V.int b) ↔ a = b := ⟨V.int.inj, fun h => by rw [h]⟩

/-! ### may_part -/
abbrev s_may_part : Stmt := top 2
abbrev N_may_part : List Str := ["wordlist", "spot", "number", "gap"]
theorem sc_may_part : FnScope N_may_part ["wordlist", "spot"] (defScope s_may_part) := ⟨rfl, rfl, rfl, by decide +kernel, rfl, by decide +kernel, by decide +kernel⟩
def sp_may_part (D : Ads) : Sp := fun vs H Q _ => ∃ a p s i g wd, vs = [.ref a, .ref p] ∧ ListAt D H a s ∧ PairAt H p (i, g) ∧ s.words[i]? = some wd ∧ Q (.bl (wd.cuts.contains g)) H
section
variable {P : Program} {w : World} {K : PySem.W.Frag} {mg : Str → Option Value} {base : Heap} {D : Ads}
theorem df_may_part {f : Addr} {fd : FuncData} (F : At K mg "may_part" s_may_part ["wordlist", "spot"] f fd) (T : Txt K mg D) : Df P w K mg base CX0 1 "may_part" ["wordlist", "spot"] (sp_may_part D) := by
  refine df0 (N := N_may_part) F sc_may_part (fun vs H Q E h => ?_) (fun cdv A outer s H vs Q E hr h => ⟨_, (pss_cons (ps_asg (pv 1) (pg_tup rfl (pgs_cons (pg_name (i := 2) sc_may_part.nd rfl (Or.inl rfl)) (pgs_cons (pg_name (i := 3) sc_may_part.nd rfl (Or.inl rfl)) pgs_nil))))
(pss_one (ps_ret (pe_cmpR op_in_seq (pv 3) (pe_fld (pe_ix ix_list (pe_fld (pv 0) rfl) (pv 2) (fun _ _ => rfl)) rfl) (by rfl))))), ?_⟩)
  · obtain ⟨a, p, s, i, g, wd, rfl, _⟩ := h
    rfl
  · obtain ⟨a, p, s, i, g, wd, rfl, ⟨dx, wl, pl, h1, ⟨ws, h2, h2p⟩, h3⟩, hp, hw, k⟩ := h
    obtain ⟨wa, hwa, dw, bl, hw1, hw2⟩ := pget2 h2p hw
    refine ⟨_, rfl, p, _, rfl, SqT.of hp, rfl, _, _, rfl, _, _, rfl, rfl, ?_⟩
    refine ⟨_, rfl, _, rfl, a, D.cL, dx, _, _, rfl, h1, T.kL, T.lW, fL_words _ _ _ _, _, rfl, wl, _, _, .ref wa, rfl, rfl, SqL.of h2, atI_nat (by rw [List.getElem?_map, hwa] <;> rfl), ?_⟩
    refine ⟨wa, D.cW, dw, _, _, rfl, hw1, T.kW, T.wB, fW_breaks _ _, bl, _, rfl, .inl (SqL.of hw2), rfl, flat_nv _, ?_⟩
    rw [in_nv]
    exact k

/-! ### look_around -/
end
/-- what a gap looks like -/
abbrev Look := VahypBase.Bytes × Bool × VahypBase.Bytes × Bool
def look (x : VahypBase.Bytes) (n g : Nat) : Look := ((x.drop (g - n)).take (g - (g - n)), decide (g ≤ n), (x.drop g).take n, decide (x.length - g ≤ n))
def lookV (k : Look) : List V := [.str (tx k.1), .bl k.2.1, .str (tx k.2.2.1), .bl k.2.2.2]
abbrev s_look_around : Stmt := top 5
abbrev N_look_around : List Str := ["letters", "gap", "length", "before", "behind"]
theorem sc_look_around : FnScope N_look_around ["letters", "gap", "length"] (defScope s_look_around) := ⟨rfl, rfl, rfl, by decide +kernel, rfl, by decide +kernel, by decide +kernel⟩
def sp_look_around : Sp := fun vs H Q _ => ∃ (x : VahypBase.Bytes) (g n : Nat), vs = [.str (tx x), .int g, .int n] ∧ x.length ≤ 1000 ∧ g ≤ x.length ∧ ∀ p, H p = none → Q (.ref p) (upd H p (.tup (lookV (look x n g))))
section
variable {P : Program} {w : World} {K : PySem.W.Frag} {mg : Str → Option Value} {base : Heap} {D : Ads}
theorem df_look_around {f : Addr} {fd : FuncData} (F : At K mg "look_around" s_look_around ["letters", "gap", "length"] f fd) (T : Txt K mg D) : Df P w K mg base CX0 1 "look_around" ["letters", "gap", "length"] sp_look_around := by
  refine df0 (N := N_look_around) F sc_look_around (fun vs H Q E h => ?_) (fun cdv A outer s H vs Q E hr h => ⟨_, (pss_cons (ps_set (i := 3) sc_look_around.nd rfl (Or.inl rfl) (pe_slice sl_str (pv 0) (po_some (pe_callB (call_max2 rfl) (by rfl) T.n_max (by decide +kernel) (pa_cons pe_int (pa_cons (pe_op op_sub (pv 1) (pv 2)) pa_nil)))) (po_some (pv 1))))
(pss_cons (ps_set (i := 4) sc_look_around.nd rfl (Or.inl rfl) (pe_slice sl_str (pv 0) (po_some (pv 1)) (po_some (pe_op op_add (pv 1) (pv 2)))))
(pss_one (ps_ret (pe_tup (pa_cons (pv 3) (pa_cons (pe_cmpR op_le (pv 1) (pv 2) (nomark _)) (pa_cons (pv 4) (pa_cons (pe_cmpR op_le (pe_op op_sub (pe_callB call_len_str (by rfl) T.n_len (by decide +kernel) (pa_cons (pv 0) pa_nil)) (pv 1)) (pv 2) (nomark _)) pa_nil))))))))), ?_⟩)
  · obtain ⟨x, g, n, rfl, _⟩ := h
    rfl
  · obtain ⟨x, g, n, rfl, hx, hg, k⟩ := h
    have hz : (tx x).length ≤ sizeLine := by rw [tx_len]; exact Nat.le_trans hx (by decide)
    have em : (if ((g : Int) - (n : Int)) > 0 then (g : Int) - (n : Int) else 0) = ((g - n : Nat) : Int) := by
      split <;> omega
    refine ⟨_, rfl, _, rfl, _, rfl, _, _, rfl, rfl, 0, _, rfl, _, rfl, _, rfl, _, rfl, _, rfl, hz, ?_⟩
    rw [em, cut_tx]
    refine ⟨_, rfl, _, rfl, _, rfl, _, rfl, _, rfl, _, _, rfl, rfl, _, rfl, _, rfl, hz, ?_⟩
    have ea : ((g : Int) + (n : Int)) = ((g + n : Nat) : Int) := by omega
    rw [ea, cut_tx, Nat.add_sub_cancel_left]
    refine ⟨_, rfl, _, rfl, _, rfl, _, _, rfl, rfl, _, rfl, _, rfl, _, rfl, hz, _, rfl, _, _, rfl, rfl, _, rfl, _, _, rfl, rfl, by show 4 ≤ sizeLine; decide, fun p hp => ?_⟩
    have e1 : decide ((g : Int) ≤ (n : Int)) = decide (g ≤ n) := by
      rw [Bool.eq_iff_iff]; simp
    have e2 : decide ((((tx x).length : Nat) : Int) - (g : Int) ≤ (n : Int)) = decide (x.length - g ≤ n) := by
      rw [tx_len, Bool.eq_iff_iff]
      simp only [decide_eq_true_eq]
      omega
    have e := k p hp
    unfold lookV look at e
    rw [← e1, ← e2] at e
    exact e

/-! ### touches_all -/
abbrev s_touches_all : Stmt := top 9
abbrev N_touches_all : List Str := ["chosen", "pairs", "first", "second"]
theorem sc_touches_all : FnScope N_touches_all ["chosen", "pairs"] (defScope s_touches_all) := ⟨rfl, rfl, rfl, by decide +kernel, rfl, by decide +kernel, by decide +kernel⟩
def sp_touches_all (K : PySem.W.Frag) : Sp := fun vs H Q _ => ∃ c l cs ps, vs = [.ref c, .ref l] ∧ SqL K H c (nv cs) ∧ RefsAt PairAt H l ps ∧ Q (.bl (ps.all fun p => cs.contains p.1 || cs.contains p.2)) H
theorem df_touches_all {f : Addr} {fd : FuncData} (F : At K mg "touches_all" s_touches_all ["chosen", "pairs"] f fd) : Df P w K mg base CX0 1 "touches_all" ["chosen", "pairs"] (sp_touches_all K) := by
  refine df0 (N := N_touches_all) F sc_touches_all (fun vs H Q E h => ?_) (fun cdv A outer s H vs Q E hr h => ⟨_, (pss_cons (ps_for PassesOwn.never rfl (pi_list (pv 1)) (pg_tup rfl (pgs_cons (pg_name (i := 2) sc_touches_all.nd rfl (Or.inl rfl)) (pgs_cons (pg_name (i := 3) sc_touches_all.nd rfl (Or.inl rfl)) pgs_nil)))
(pss_one (ps_if (PW.pt (pw_and (pt_cmpR op_notIn_seq (pv 2) (pv 0) (by rfl)) (pw_and1 (pt_cmpR op_notIn_seq (pv 3) (pv 0) (by rfl)))))
(pss_one (ps_ret pe_bl))
pss_nil)))
(pss_one (ps_ret pe_bl))), ?_⟩)
  · obtain ⟨c, l, cs, ps, rfl, _⟩ := h
    rfl
  · obtain ⟨c, l, cs, ps, rfl, hc, ⟨as, hl, hp⟩, k⟩ := h
    refine ⟨_, rfl, l, rfl, ⟨_, SqL.of hl⟩, ?_⟩
    refine for_it (walk_list (K := K) (a := l) (xs := as.map V.ref)) (fun i σ H' => ∃ v2 v3, σ = [some (.ref c), some (.ref l), v2, v3] ∧ H' = H ∧ ((ps.take i).all fun p => cs.contains p.1 || cs.contains p.2) = true) ⟨none, none, rfl, rfl, rfl⟩ ?_ ?_ ?_
    · rintro i σ H' _ ⟨_, _, _, rfl, _⟩
      exact SqL.of hl
    · rintro i x σ H1 H2 hi ⟨v2, v3, rfl, rfl, ha⟩ ⟨rfl, hx⟩
      obtain ⟨t, ht, rfl⟩ := refs_get hx
      obtain ⟨⟨u, v⟩, hpu, hpa⟩ := pget hp ht
      refine ⟨t, _, rfl, SqT.of hpa, rfl, _, _, rfl, _, _, rfl, rfl, ?_⟩
      refine ⟨_, rfl, _, rfl, c, _, rfl, .inl hc, rfl, flat_nv _, _, rfl, ?_⟩
      have stop : cs.contains u = false → cs.contains v = false → (ps.all fun p => cs.contains p.1 || cs.contains p.2) = false := fun h1 h2 => by
        rw [List.all_eq_false]
        exact ⟨(u, v), List.mem_of_getElem? hpu, by simp only [h1, h2]; decide⟩
      have go : (cs.contains u || cs.contains v) = true → ∃ v2 v3, [some (V.ref c), some (.ref l), some (.int (u : Int)), some (.int (v : Int))] = [some (.ref c), some (.ref l), v2, v3] ∧ H2 = H2 ∧ ((ps.take (i + 1)).all fun p => cs.contains p.1 || cs.contains p.2) = true := fun h => by
        refine ⟨_, _, rfl, rfl, ?_⟩
        rw [take_more hpu, List.all_append, ha]
        simp only [List.all_cons, List.all_nil, h]
        rfl
      rw [in_nv]
      cases h1 : cs.contains u with
      | true => exact iteF (go (by rw [h1]; rfl))
      | false =>
        refine iteT ⟨_, rfl, _, rfl, c, _, rfl, .inl hc, rfl, flat_nv _, _, rfl, ?_⟩
        rw [in_nv]
        cases h2 : cs.contains v with
        | true => exact iteF (go (by rw [h2, Bool.or_true]))
        | false =>
          refine iteT ?_
          rw [stop h1 h2] at k
          exact k
    · rintro σ H' ⟨v2, v3, rfl, rfl, ha⟩
      rw [List.length_map, hp.length, List.take_length] at ha
      rw [ha] at k
      exact k
end
end WG
set_option Elab.async false
set_option linter.all false
set_option maxRecDepth 100000
set_option maxHeartbeats 2000000
namespace WG
open PySem PySem.Spec PyProof.Rows L2
/-! ### list_word_sets -/
def NvAt (H : Hp) (a : Addr) (cs : List Nat) : Prop := H a = some (.lst (nv cs))
theorem NvAt.same : ∀ (H H' : Hp) (a : Addr) (p : List Nat), Same H H' → NvAt H a p → NvAt H' a p := fun _ _ _ _ e h => e _ _ h
theorem rows_len2 (n : Nat) : ∀ l : List (List Nat), (l.flatMap fun r => [r, r ++ [n]]).length = 2 * l.length
  | [] => rfl
  | a :: r => by
    have ih := rows_len2 n r
    rw [List.flatMap_cons, List.length_append, ih, List.length_cons]
    show 2 + 2 * r.length = 2 * (r.length + 1)
    omega
theorem rowsBy_len : ∀ n, (Vahype.rowsBy n).length = 2 ^ n
  | 0 => rfl
  | n + 1 => by
    show ((Vahype.rowsBy n).flatMap fun r => [r, r ++ [n]]).length = 2 ^ (n + 1)
    rw [rows_len2, rowsBy_len n, Nat.pow_succ, Nat.mul_comm]
theorem rowsBy_mem : ∀ (n : Nat) (r : List Nat), r ∈ Vahype.rowsBy n → r.length ≤ n
  | 0, r, h => by
    have e : r = [] := by simpa [Vahype.rowsBy] using h
    rw [e]
    exact Nat.le_refl _
  | n + 1, r, h => by
    obtain ⟨q, hq, hr⟩ := List.mem_flatMap.mp (show r ∈ (Vahype.rowsBy n).flatMap fun r => [r, r ++ [n]] from h)
    have ih := rowsBy_mem n q hq
    rcases List.mem_cons.mp hr with e | e
    · rw [e]; omega
    · have e2 : r = q ++ [n] := by simpa using e
      rw [e2, List.length_append, List.length_singleton]
      omega
theorem pow_le10 {n : Nat} (h : n ≤ 10) : 2 ^ n ≤ 1024 := by
  have := Nat.pow_le_pow_right (by decide : 1 ≤ 2) h
  exact this
abbrev s_list_word_sets : Stmt := top 8
abbrev N_list_word_sets : List Str := ["count", "found", "number", "longer", "chosen"]
theorem sc_list_word_sets : FnScope N_list_word_sets ["count"] (defScope s_list_word_sets) := ⟨rfl, rfl, rfl, by decide +kernel, rfl, by decide +kernel, by decide +kernel⟩
def sp_list_word_sets : Sp := fun vs H Q _ => ∃ n : Nat, vs = [.int n] ∧ n ≤ 10 ∧ ∀ H' l, Same H H' → H l = none → RefsAt NvAt H' l (Vahype.rowsBy n) → Q (.ref l) H'
section
variable {P : Program} {w : World} {K : PySem.W.Frag} {mg : Str → Option Value} {base : Heap} {D : Ads}
theorem df_list_word_sets {f : Addr} {fd : FuncData} (F : At K mg "list_word_sets" s_list_word_sets ["count"] f fd) (T : Txt K mg D) : Df P w K mg base CX0 1 "list_word_sets" ["count"] sp_list_word_sets := by
  refine df0 (N := N_list_word_sets) F sc_list_word_sets (fun vs H Q E h => ?_) (fun cdv A outer s H vs Q E hr h => ⟨_, (pss_cons (ps_set (i := 1) sc_list_word_sets.nd rfl (Or.inl rfl) (pe_lst (pa_cons (pe_lst pa_nil) pa_nil)))
(pss_cons (ps_for PassesOwn.never rfl (pi_range1 rfl T.n_range (pa_cons (pv 0) pa_nil)) (pg_name (i := 2) sc_list_word_sets.nd rfl (Or.inl rfl))
(pss_cons (ps_set (i := 3) sc_list_word_sets.nd rfl (Or.inl rfl) (pe_lst pa_nil))
(pss_cons (ps_for PassesOwn.never rfl (pi_list (pv 1)) (pg_name (i := 4) sc_list_word_sets.nd rfl (Or.inl rfl))
(pss_cons (ps_expr (pe_bm PySem.F.plainAttrs_list PySem.F.slot_list_append PySem.F.type_list_append mt_append (pv 3) (pa_cons (pv 4) pa_nil)))
(pss_one (ps_expr (pe_bm PySem.F.plainAttrs_list PySem.F.slot_list_append PySem.F.type_list_append mt_append (pv 3) (pa_cons (pe_op op_cat (pv 4) (pe_lst (pa_cons (pv 2) pa_nil))) pa_nil))))))
(pss_one (ps_set (i := 1) sc_list_word_sets.nd rfl (Or.inl rfl) (pv 3))))))
(pss_one (ps_ret (pv 1))))), ?_⟩)
  · obtain ⟨n, rfl, _⟩ := h
    rfl
  · obtain ⟨n, rfl, hn, k⟩ := h
    -- found = [[]]
    refine ⟨by show 0 ≤ sizeLine; exact Nat.zero_le _, fun l0 hl0 => ⟨by show 1 ≤ sizeLine; decide, fun l1 hl1 => ?_⟩⟩
    have ne01 : l0 ≠ l1 := fun e => by rw [← e, upd_same] at hl1; cases hl1
    have nl1 : H l1 = none := by rw [upd_ne (Ne.symm ne01)] at hl1; exact hl1
    have e0 : Same H (upd (upd H l0 (.lst [])) l1 (.lst [.ref l0])) := (same_upd hl0).trans (same_upd hl1)
    refine ⟨_, rfl, _, rfl, by omega, by omega, ?_⟩
    rw [Int.toNat_natCast]
    refine for_it (walk_range (lo := 0) (n := n)) (fun i σ H' => ∃ fl v2 v3 v4, σ = [some (.int (n : Nat)), some (.ref fl), v2, v3, v4] ∧ Same H H' ∧ H fl = none ∧ RefsAt NvAt H' fl (Vahype.rowsBy i)) ?_ ?_ ?_ ?_
    · refine ⟨l1, none, none, none, rfl, e0, nl1, [l0], upd_same, .cons ?_ .nil⟩
      show upd (upd H l0 (.lst [])) l1 (.lst [.ref l0]) l0 = _
      rw [upd_ne ne01, upd_same]
      rfl
    · intro _ _ _ _ _; trivial
    · rintro i x σ H1 H2 hi ⟨fl, v2, v3, v4, rfl, e1, nf, as, hf, hp⟩ ⟨rfl, rfl⟩
      have hrl : as.length = 2 ^ i := by rw [hp.length, rowsBy_len]
      have h1024 : 2 ^ i ≤ 1024 := pow_le10 (by omega)
      have ei : (0 + (i : Int)) = (i : Int) := Int.zero_add _
      -- longer = []
      refine ⟨by show 0 ≤ sizeLine; exact Nat.zero_le _, fun lg hlg => ?_⟩
      have nfl : fl ≠ lg := ne_of_none hf hlg
      have nlgH : H lg = none := e1.free hlg
      have e2 : Same H2 (upd H2 lg (.lst [])) := same_upd hlg
      refine ⟨_, rfl, fl, rfl, ⟨_, SqL.of (e2 _ _ hf)⟩, ?_⟩
      refine for_it (walk_list (K := K) (a := fl) (xs := as.map V.ref)) (fun j σ H' => ∃ v4, σ = [some (.int (n : Nat)), some (.ref fl), some (.int (0 + (i : Int))), some (.ref lg), v4] ∧ Same H2 H' ∧ RefsAt (fun H a r => NvAt H a r ∧ a ≠ lg) H' lg (((Vahype.rowsBy i).take j).flatMap fun r => [r, r ++ [i]])) ⟨v4, rfl, e2, [], upd_same, .nil⟩ ?_ ?_ ?_
      · rintro j σ H' _ ⟨_, _, e, _⟩
        exact SqL.of (e _ _ hf)
      · rintro j x σ H3 H4 hj ⟨v4, rfl, e3, bs, hb, hbp⟩ ⟨rfl, hx⟩
        obtain ⟨c, hc, rfl⟩ := refs_get hx
        obtain ⟨cs, hcs, hca⟩ := pget hp hc
        have hbl : bs.length = 2 * j := by
          rw [hbp.length, rows_len2, List.length_take]
          have : (Vahype.rowsBy i).length = 2 ^ i := rowsBy_len i
          rw [List.length_map] at hj
          omega
        have hc4 : H4 c = some (.lst (nv cs)) := e3 _ _ hca
        have nclg : c ≠ lg := ne_of_none hca hlg
        rw [List.length_map] at hj
        -- longer.append(chosen)
        refine ⟨_, rfl, .inl ⟨rfl, _, SqL.of hb⟩, _, rfl, lg, _, _, rfl, rfl, hb, ?_, ?_⟩
        · rw [List.length_map, hbl]
          exact Nat.lt_of_le_of_lt (by omega : 2 * j ≤ 2048) (by decide)
        -- longer.append(chosen + [number])
        refine ⟨_, rfl, .inl ⟨rfl, _, SqL.of upd_same⟩, _, rfl, _, rfl, by show 1 ≤ sizeLine; decide, fun t1 ht1 => ?_⟩
        have nt1 : lg ≠ t1 := fun e => by rw [← e, upd_same] at ht1; cases ht1
        have ht1' : H4 t1 = none := by rw [upd_ne (Ne.symm nt1)] at ht1; exact ht1
        have hlen := rowsBy_mem i cs (List.mem_of_getElem? hcs)
        refine ⟨c, t1, nv cs, [.int (0 + (i : Int))], rfl, rfl, ?_, upd_same, ?_, fun t2 ht2 => ?_⟩
        · exact (upd_ne (ne_of_none hc4 ht1')).trans ((upd_ne nclg).trans hc4)
        · unfold nv
          rw [List.length_map, List.length_singleton]
          exact Nat.le_trans (by omega : cs.length + 1 ≤ 100) (by decide)
        · have nt2 : lg ≠ t2 := fun e => by rw [← e, upd_ne nt1, upd_same] at ht2; cases ht2
          have nt12 : t1 ≠ t2 := fun e => by rw [← e, upd_same] at ht2; cases ht2
          have ht2' : H4 t2 = none := by rw [upd_ne (Ne.symm nt12), upd_ne (Ne.symm nt2)] at ht2; exact ht2
          refine ⟨lg, _, _, rfl, rfl, (upd_ne nt2).trans ((upd_ne nt1).trans upd_same), ?_, ?_⟩
          · rw [List.length_append, List.length_map, hbl, List.length_singleton]
            exact Nat.lt_of_le_of_lt (by omega : 2 * j + 1 ≤ 2049) (by decide)
          · refine ⟨_, rfl, ?_, bs ++ [c] ++ [t2], ?_, ?_⟩
            · intro b o hb0
              have n1 : b ≠ lg := ne_of_none hb0 hlg
              have q := e3 b o hb0
              rw [upd_ne n1, upd_ne (ne_of_none q ht2'), upd_ne (ne_of_none q ht1'), upd_ne n1]
              exact q
            · rw [upd_same, List.map_append, List.map_append]
              rfl
            · have bt : But lg H4 (upd (upd (upd (upd H4 lg (.lst (bs.map V.ref ++ [.ref c]))) t1 (.lst [.int (0 + (i : Int))])) t2 (.lst (nv cs ++ [.int (0 + (i : Int))]))) lg (.lst (bs.map V.ref ++ [.ref c] ++ [.ref t2]))) := fun b o n1 q => by
                rw [upd_ne n1, upd_ne (ne_of_none q ht2'), upd_ne (ne_of_none q ht1'), upd_ne n1]
                exact q
              have er : ((Vahype.rowsBy i).take (j + 1)).flatMap (fun r => [r, r ++ [i]]) = ((Vahype.rowsBy i).take j).flatMap (fun r => [r, r ++ [i]]) ++ [cs] ++ [cs ++ [i]] := by
                rw [take_more hcs, List.flatMap_append]
                simp
              rw [er]
              refine psnoc (psnoc (Paired.mapP hbp fun b r hbr => ?_) ?_) ?_
              · exact ⟨bt b _ hbr.2 hbr.1, hbr.2⟩
              · exact ⟨bt c _ nclg hc4, nclg⟩
              · refine ⟨?_, Ne.symm nt2⟩
                show upd _ _ _ t2 = _
                rw [upd_ne (Ne.symm nt2), upd_same, ei]
                unfold nv
                rw [List.map_append]
                rfl
      · rintro σ H5 ⟨v4', rfl, e5, bs, hb, hbp⟩
        refine ⟨_, rfl, lg, _, _, _, rfl, e1.trans e5, nlgH, bs, hb, ?_⟩
        have e6 : (as.map V.ref).length = (Vahype.rowsBy i).length := by rw [List.length_map, hp.length]
        rw [e6, List.take_length] at hbp
        exact Paired.mapP hbp fun _ _ h => h.1
    · rintro σ H' ⟨fl, v2, v3, v4, rfl, e, nf, r⟩
      exact ⟨_, rfl, k H' fl e nf r⟩
end
end WG
set_option Elab.async false
set_option linter.all false
set_option maxRecDepth 100000
set_option maxHeartbeats 2000000
namespace WG
open PySem PySem.Spec PyProof.Rows L2
/-! ### lists of new tuples, one after another -/
/-- l lists objects whose contents are f of xs -/
def ObjsAt {β : Type} (f : β → HO) (H : Hp) (l : Addr) (as : List Addr) (xs : List β) : Prop := H l = some (.lst (as.map V.ref)) ∧ Paired (fun a b => H a = some (f b) ∧ a ≠ l) as xs
theorem ObjsAt.start {β : Type} {f : β → HO} {H : Hp} {l : Addr} : ObjsAt f (upd H l (.lst [])) l [] [] := ⟨upd_same, .nil⟩
theorem ObjsAt.same {β : Type} {f : β → HO} {H H' : Hp} {l : Addr} {as : List Addr} {xs : List β} (h : ObjsAt f H l as xs) (e : Same H H') : ObjsAt f H' l as xs :=
  ⟨e _ _ h.1, Paired.mapP h.2 fun a b q => ⟨e _ _ q.1, q.2⟩⟩
theorem ObjsAt.push {β : Type} {f : β → HO} {H : Hp} {l t : Addr} {as : List Addr} {xs : List β} {b : β} (h : ObjsAt f H l as xs) (ht : H t = none) : ObjsAt f (upd (upd H t (f b)) l (.lst (as.map V.ref ++ [.ref t]))) l (as ++ [t]) (xs ++ [b]) := by
  have nt : l ≠ t := ne_of_none h.1 ht
  refine ⟨?_, psnoc (Paired.mapP h.2 fun a b q => ⟨?_, q.2⟩) ⟨?_, Ne.symm nt⟩⟩
  · rw [upd_same, List.map_append]
    rfl
  · rw [upd_ne q.2, upd_ne (ne_of_none q.1 ht)]
    exact q.1
  · rw [upd_ne (Ne.symm nt), upd_same]
theorem push_but {H : Hp} {l t : Addr} {o u : HO} (ht : H t = none) : But l H (upd (upd H t o) l u) := (But.of (same_upd ht)).trans But.upd
theorem ObjsAt.refs {β : Type} {f : β → HO} {H : Hp} {l : Addr} {as : List Addr} {xs : List β} (h : ObjsAt f H l as xs) : RefsAt (fun H a b => H a = some (f b)) H l xs := ⟨as, h.1, Paired.mapP h.2 fun _ _ q => q.1⟩
theorem ObjsAt.len {β : Type} {f : β → HO} {H : Hp} {l : Addr} {as : List Addr} {xs : List β} (h : ObjsAt f H l as xs) : as.length = xs.length := h.2.length

/-! ### pieces -/
abbrev Pc := VahypBase.Bytes × Nat × Bool × Bool
def pcO (p : Pc) : HO := .tup [.str (tx p.1), .int p.2.1, .bl p.2.2.1, .bl p.2.2.2]
def PcAt (H : Hp) (a : Addr) (p : Pc) : Prop := H a = some (pcO p)
theorem PcAt.same : ∀ (H H' : Hp) (a : Addr) (p : Pc), Same H H' → PcAt H a p → PcAt H' a p := fun _ _ _ _ e h => e _ _ h
def ptPieces (x : VahypBase.Bytes) (g o e : Nat) : List Pc := [((x.drop o).take (e - o), g - o, false, false)] ++ (if o = 0 then [((x.drop o).take (e - o), g - o, true, false)] else []) ++ (if e = x.length then [((x.drop o).take (e - o), g - o, false, true)] else []) ++ (if o = 0 ∧ e = x.length then [((x.drop o).take (e - o), g - o, true, true)] else [])
theorem ptPieces_len (x : VahypBase.Bytes) (g o e : Nat) : (ptPieces x g o e).length ≤ 4 := by
  unfold ptPieces
  simp only [List.length_append, List.length_singleton]
  split <;> split <;> split <;> simp
abbrev s_point_pieces : Stmt := top 12
abbrev N_point_pieces : List Str := ["letters", "gap", "place", "end", "part", "before", "pieces"]
theorem sc_point_pieces : FnScope N_point_pieces ["letters", "gap", "place", "end"] (defScope s_point_pieces) := ⟨rfl, rfl, rfl, by decide +kernel, rfl, by decide +kernel, by decide +kernel⟩
def sp_point_pieces : Sp := fun vs H Q _ => ∃ (x : VahypBase.Bytes) (g o e : Nat), vs = [.str (tx x), .int g, .int o, .int e] ∧ x.length ≤ 1000 ∧ o ≤ g ∧ ∀ H' l, Same H H' → H l = none → RefsAt PcAt H' l (ptPieces x g o e) → Q (.ref l) H'
section
variable {P : Program} {w : World} {K : PySem.W.Frag} {mg : Str → Option Value} {base : Heap} {D : Ads}
theorem df_point_pieces {f : Addr} {fd : FuncData} (F : At K mg "point_pieces" s_point_pieces ["letters", "gap", "place", "end"] f fd) (T : Txt K mg D) : Df P w K mg base CX0 1 "point_pieces" ["letters", "gap", "place", "end"] sp_point_pieces := by
  refine df0 (N := N_point_pieces) F sc_point_pieces (fun vs H Q E h => ?_) (fun cdv A outer s H vs Q E hr h => ⟨_, (pss_cons (ps_set (i := 4) sc_point_pieces.nd rfl (Or.inl rfl) (pe_slice sl_str (pv 0) (po_some (pv 2)) (po_some (pv 3))))
(pss_cons (ps_set (i := 5) sc_point_pieces.nd rfl (Or.inl rfl) (pe_op op_sub (pv 1) (pv 2)))
(pss_cons (ps_set (i := 6) sc_point_pieces.nd rfl (Or.inl rfl) (pe_lst (pa_cons (pe_tup (pa_cons (pv 4) (pa_cons (pv 5) (pa_cons pe_bl (pa_cons pe_bl pa_nil))))) pa_nil)))
(C8.pss_cut (ps_if (pt_cmpR op_eq (pv 2) pe_int (nomark _))
(pss_one (ps_expr (pe_bm PySem.F.plainAttrs_list PySem.F.slot_list_append PySem.F.type_list_append mt_append (pv 6) (pa_cons (pe_tup (pa_cons (pv 4) (pa_cons (pv 5) (pa_cons pe_bl (pa_cons pe_bl pa_nil))))) pa_nil))))
pss_nil)
(C8.pss_cut (ps_if (pt_cmpR op_eq (pv 3) (pe_callB call_len_str (by rfl) T.n_len (by decide +kernel) (pa_cons (pv 0) pa_nil)) (nomark _))
(pss_one (ps_expr (pe_bm PySem.F.plainAttrs_list PySem.F.slot_list_append PySem.F.type_list_append mt_append (pv 6) (pa_cons (pe_tup (pa_cons (pv 4) (pa_cons (pv 5) (pa_cons pe_bl (pa_cons pe_bl pa_nil))))) pa_nil))))
pss_nil)
(C8.pss_cut (ps_if (PW.pt (pw_and (pt_cmpR op_eq (pv 2) pe_int (nomark _)) (pw_and1 (pt_cmpR op_eq (pv 3) (pe_callB call_len_str (by rfl) T.n_len (by decide +kernel) (pa_cons (pv 0) pa_nil)) (nomark _)))))
(pss_one (ps_expr (pe_bm PySem.F.plainAttrs_list PySem.F.slot_list_append PySem.F.type_list_append mt_append (pv 6) (pa_cons (pe_tup (pa_cons (pv 4) (pa_cons (pv 5) (pa_cons pe_bl (pa_cons pe_bl pa_nil))))) pa_nil))))
pss_nil)
(pss_one (ps_ret (pv 6))))))))), ?_⟩)
  · obtain ⟨x, g, o, e, rfl, _⟩ := h
    rfl
  · obtain ⟨x, g, o, e, rfl, hx, hg, k⟩ := h
    have hz : (tx x).length ≤ sizeLine := by rw [tx_len]; exact Nat.le_trans hx (by decide)
    refine ⟨_, rfl, _, rfl, _, rfl, _, rfl, _, rfl, _, rfl, hz, ?_⟩
    rw [cut_tx]
    refine ⟨_, rfl, _, rfl, _, _, rfl, rfl, ?_⟩
    have eb : ((g : Int) - (o : Int)) = ((g - o : Nat) : Int) := by omega
    dsimp only
    rw [eb]
    refine ⟨_, rfl, _, rfl, by show 4 ≤ sizeLine; decide, fun t0 ht0 => ⟨by show 1 ≤ sizeLine; decide, fun l hl => ?_⟩⟩
    have nt0 : t0 ≠ l := fun z => by rw [← z, upd_same] at hl; cases hl
    have hlH : H l = none := by rw [upd_ne (Ne.symm nt0)] at hl; exact hl
    have e0 : Same H (upd (upd H t0 (pcO ((x.drop o).take (e - o), g - o, false, false))) l (.lst [.ref t0])) := (same_upd ht0).trans (same_upd hl)
    have b0 : ObjsAt pcO (upd (upd H t0 (pcO ((x.drop o).take (e - o), g - o, false, false))) l (.lst [.ref t0])) l [t0] [((x.drop o).take (e - o), g - o, false, false)] :=
      ⟨upd_same, .cons ⟨by rw [upd_ne nt0, upd_same], nt0⟩ .nil⟩
    -- one test and what it adds
    let M : List Pc → L2.St → Hp → Prop := fun xs σ H1 => ∃ as, σ = [some (V.str (tx x)), some (.int (g : Int)), some (.int (o : Int)), some (.int (e : Int)), some (.str (tx ((x.drop o).take (e - o)))), some (.int ((g - o : Nat) : Int)), some (.ref l)] ∧ Same H H1 ∧ ObjsAt pcO H1 l as xs
    have more : ∀ {as : List Addr} {xs : List Pc} {H1 : Hp} {t : Addr} {b : Pc}, Same H H1 → ObjsAt pcO H1 l as xs → H1 t = none → M (xs ++ [b]) [some (V.str (tx x)), some (.int (g : Int)), some (.int (o : Int)), some (.int (e : Int)), some (.str (tx ((x.drop o).take (e - o)))), some (.int ((g - o : Nat) : Int)), some (.ref l)] (upd (upd H1 t (pcO b)) l (.lst (as.map V.ref ++ [.ref t]))) := fun {as xs H1 t b} e1 ob ht =>
      ⟨as ++ [t], rfl, fun c q hc => push_but ht c q (ne_of_none hc hlH) (e1 c q hc), ob.push ht⟩
    have room : ∀ {as : List Addr} {xs : List Pc} {H1 : Hp}, ObjsAt pcO H1 l as xs → xs.length ≤ 3 → (as.map V.ref).length < sizeLine := fun ob h => by
      rw [List.length_map, ob.len]
      exact Nat.lt_of_le_of_lt h (by decide)
    -- place == 0
    refine ⟨M ([((x.drop o).take (e - o), g - o, false, false)] ++ (if o = 0 then [((x.drop o).take (e - o), g - o, true, false)] else [])), ?_, ?_⟩
    · refine ⟨_, rfl, rfl, _, rfl, ite2 (fun c => ?_) (fun c => ?_)⟩
      · have c' : o = 0 := by have := V.int.inj (of_decide_eq_true c); omega
        rw [if_pos c']
        refine ⟨_, rfl, .inl ⟨rfl, _, SqL.of b0.1⟩, _, rfl, _, rfl, by show 4 ≤ sizeLine; decide, fun t ht => ?_⟩
        exact ⟨l, _, _, rfl, rfl, (upd_ne (ne_of_none b0.1 ht)).trans b0.1, room b0 (by simp), more (b := ((x.drop o).take (e - o), g - o, true, false)) e0 b0 ht⟩
      · have c' : ¬ o = 0 := fun z => c (decide_eq_true (by rw [z]; rfl))
        rw [if_neg c', List.append_nil]
        exact ⟨_, rfl, e0, b0⟩
    rintro σ H1 ⟨as, rfl, e1, b1⟩
    have l1 : ([((x.drop o).take (e - o), g - o, false, false)] ++ (if o = 0 then [((x.drop o).take (e - o), g - o, true, false)] else [])).length ≤ 2 := by
      split <;> simp
    -- end == len(letters)
    refine ⟨M ([((x.drop o).take (e - o), g - o, false, false)] ++ (if o = 0 then [((x.drop o).take (e - o), g - o, true, false)] else []) ++ (if e = x.length then [((x.drop o).take (e - o), g - o, false, true)] else [])), ?_, ?_⟩
    · refine ⟨_, rfl, _, rfl, _, rfl, hz, rfl, _, rfl, ite2 (fun c => ?_) (fun c => ?_)⟩
      · have c' : e = x.length := by have := V.int.inj (of_decide_eq_true c); rw [tx_len] at this; omega
        rw [if_pos c']
        refine ⟨_, rfl, .inl ⟨rfl, _, SqL.of b1.1⟩, _, rfl, _, rfl, by show 4 ≤ sizeLine; decide, fun t ht => ?_⟩
        exact ⟨l, _, _, rfl, rfl, (upd_ne (ne_of_none b1.1 ht)).trans b1.1, room b1 (Nat.le_trans l1 (by decide)), more (b := ((x.drop o).take (e - o), g - o, false, true)) e1 b1 ht⟩
      · have c' : ¬ e = x.length := fun z => c (decide_eq_true (by rw [z, tx_len]))
        rw [if_neg c', List.append_nil]
        exact ⟨_, rfl, e1, b1⟩
    rintro σ H2 ⟨as2, rfl, e2, b2⟩
    have l2 : ([((x.drop o).take (e - o), g - o, false, false)] ++ (if o = 0 then [((x.drop o).take (e - o), g - o, true, false)] else []) ++ (if e = x.length then [((x.drop o).take (e - o), g - o, false, true)] else [])).length ≤ 3 := by
      split <;> split <;> simp
    -- place == 0 and end == len(letters)
    refine ⟨M (ptPieces x g o e), ?_, ?_⟩
    · unfold ptPieces
      refine ⟨_, rfl, rfl, _, rfl, ite2 (fun c => ?_) (fun c => ?_)⟩
      · have c' : o = 0 := by have := V.int.inj (of_decide_eq_true c); omega
        refine ⟨_, rfl, _, rfl, _, rfl, hz, rfl, _, rfl, ite2 (fun d => ?_) (fun d => ?_)⟩
        · have d' : e = x.length := by have := V.int.inj (of_decide_eq_true d); rw [tx_len] at this; omega
          rw [if_pos (show o = 0 ∧ e = x.length from ⟨c', d'⟩)]
          refine ⟨_, rfl, .inl ⟨rfl, _, SqL.of b2.1⟩, _, rfl, _, rfl, by show 4 ≤ sizeLine; decide, fun t ht => ?_⟩
          exact ⟨l, _, _, rfl, rfl, (upd_ne (ne_of_none b2.1 ht)).trans b2.1, room b2 l2, more (b := ((x.drop o).take (e - o), g - o, true, true)) e2 b2 ht⟩
        · have d' : ¬ e = x.length := fun z => d (decide_eq_true (by rw [z, tx_len]))
          rw [if_neg (show ¬ (o = 0 ∧ e = x.length) from fun z => d' z.2), List.append_nil]
          exact ⟨_, rfl, e2, b2⟩
      · have c' : ¬ o = 0 := fun z => c (decide_eq_true (by rw [z]; rfl))
        rw [if_neg (show ¬ (o = 0 ∧ e = x.length) from fun z => c' z.1), List.append_nil]
        exact iteF ⟨_, rfl, e2, b2⟩
    rintro σ H3 ⟨as3, rfl, e3, b3⟩
    exact ⟨_, rfl, k H3 l e3 hlH b3.refs⟩
end
end WG
set_option Elab.async false
set_option linter.all false
set_option maxRecDepth 100000
set_option maxHeartbeats 2000000
namespace WG
open PySem PySem.Spec PyProof.Rows L2
/-! ### find_pieces_around -/
def cnt (x : VahypBase.Bytes) (g n : Nat) : Nat := if n ≤ x.length then min g (x.length - n) + 1 - (g - n) else 0
def pcsTo (x : VahypBase.Bytes) (g n i : Nat) : List Pc := (List.range i).flatMap fun i => ptPieces x g (g - n + i) (g - n + i + n)
def pcs (x : VahypBase.Bytes) (g m : Nat) : List Pc := (List.range m).flatMap fun k => pcsTo x g (k + 1) (cnt x g (k + 1))
theorem range_flat {α : Type} (f : Nat → List α) (n : Nat) : (List.range (n + 1)).flatMap f = (List.range n).flatMap f ++ f n := by
  rw [List.range_succ, List.flatMap_append]
  simp
theorem flat_len {α : Type} (f : Nat → List α) (b : Nat) (h : ∀ i, (f i).length ≤ b) : ∀ n, ((List.range n).flatMap f).length ≤ b * n
  | 0 => by simp
  | n + 1 => by
    have ih := flat_len f b h n
    have hn := h n
    rw [range_flat, List.length_append, Nat.mul_succ]
    omega
theorem pcsTo_len (x : VahypBase.Bytes) (g n i : Nat) : (pcsTo x g n i).length ≤ 4 * i := flat_len _ 4 (fun _ => ptPieces_len _ _ _ _) i
theorem cnt_le (x : VahypBase.Bytes) (g n : Nat) : cnt x g n ≤ x.length + 1 := by
  unfold cnt
  split <;> omega
theorem pcs_len (x : VahypBase.Bytes) (g m : Nat) : (pcs x g m).length ≤ 4 * (x.length + 1) * m := flat_len _ _ (fun k => Nat.le_trans (pcsTo_len _ _ _ _) (Nat.mul_le_mul_left 4 (cnt_le x g (k + 1)))) m
abbrev s_find_pieces_around : Stmt := top 11
abbrev N_find_pieces_around : List Str := ["letters", "gap", "length", "pieces", "size", "last_place", "place"]
theorem sc_find_pieces_around : FnScope N_find_pieces_around ["letters", "gap", "length"] (defScope s_find_pieces_around) := ⟨rfl, rfl, rfl, by decide +kernel, rfl, by decide +kernel, by decide +kernel⟩
def sp_find_pieces_around : Sp := fun vs H Q _ => ∃ (x : VahypBase.Bytes) (g m : Nat), vs = [.str (tx x), .int g, .int m] ∧ x.length ≤ 16 ∧ m ≤ 10 ∧ g ≤ x.length ∧ ∀ H' l, Same H H' → H l = none → RefsAt PcAt H' l (pcs x g m) → Q (.ref l) H'
section
variable {P : Program} {w : World} {K : PySem.W.Frag} {mg : Str → Option Value} {base : Heap} {D : Ads}
theorem df_find_pieces_around {f : Addr} {fd : FuncData} (F : At K mg "find_pieces_around" s_find_pieces_around ["letters", "gap", "length"] f fd) (T : Txt K mg D)
    (c_point_pieces : Df P w K mg base CX0 1 "point_pieces" ["letters", "gap", "place", "end"] sp_point_pieces) : Df P w K mg base CX0 2 "find_pieces_around" ["letters", "gap", "length"] sp_find_pieces_around := by
  refine df0 (N := N_find_pieces_around) F sc_find_pieces_around (fun vs H Q E h => ?_) (fun cdv A outer s H vs Q E hr h => ⟨_, (pss_cons (ps_set (i := 3) sc_find_pieces_around.nd rfl (Or.inl rfl) (pe_lst pa_nil))
(pss_cons (ps_for PassesOwn.never rfl (pi_range2 rfl T.n_range (pa_cons pe_int (pa_cons (pe_op op_add (pv 2) pe_int) pa_nil))) (pg_name (i := 4) sc_find_pieces_around.nd rfl (Or.inl rfl))
(pss_cons (ps_set (i := 5) sc_find_pieces_around.nd rfl (Or.inl rfl) (pe_callB (call_min2 rfl) (by rfl) T.n_min (by decide +kernel) (pa_cons (pv 1) (pa_cons (pe_op op_sub (pe_callB call_len_str (by rfl) T.n_len (by decide +kernel) (pa_cons (pv 0) pa_nil)) (pv 4)) pa_nil))))
(pss_one (ps_for PassesOwn.never rfl (pi_range2 rfl T.n_range (pa_cons (pe_callB (call_max2 rfl) (by rfl) T.n_max (by decide +kernel) (pa_cons pe_int (pa_cons (pe_op op_sub (pv 1) (pv 4)) pa_nil))) (pa_cons (pe_op op_add (pv 5) pe_int) pa_nil))) (pg_name (i := 6) sc_find_pieces_around.nd rfl (Or.inl rfl))
(pss_one (ps_expr (pe_bm PySem.F.plainAttrs_list PySem.F.slot_list_extend PySem.F.type_list_extend mt_extend (pv 3) (pa_cons (pe_d0 c_point_pieces hr (by decide) rfl (pa_cons (pv 0) (pa_cons (pv 1) (pa_cons (pv 6) (pa_cons (pe_op op_add (pv 6) (pv 4)) pa_nil))))) pa_nil))))))))
(pss_one (ps_ret (pv 3))))), ?_⟩)
  · obtain ⟨x, g, m, rfl, _⟩ := h
    rfl
  · obtain ⟨x, g, m, rfl, hx, hm, hg, k⟩ := h
    have hz : (tx x).length ≤ sizeLine := by rw [tx_len]; exact Nat.le_trans hx (by decide)
    refine ⟨by show 0 ≤ sizeLine; exact Nat.zero_le _, fun l hl => ?_⟩
    have e0 : Same H (upd H l (.lst [])) := same_upd hl
    refine ⟨_, rfl, _, _, rfl, rfl, 1, _, rfl, ⟨by decide, by decide, by omega, by omega⟩, ?_⟩
    have en : ((m : Int) + 1 - 1).toNat = m := by omega
    refine for_it (walk_rg (lo := 1) (n := m) rfl en) (fun i σ H' => ∃ v4 v5 v6, σ = [some (.str (tx x)), some (.int g), some (.int m), some (.ref l), v4, v5, v6] ∧ Same H H' ∧ RefsAt PcAt H' l (pcs x g i)) ?_ ?_ ?_ ?_
    · exact ⟨none, none, none, rfl, e0, [], upd_same, .nil⟩
    · intro _ _ _ _ _; trivial
    · rintro i y σ H1 H2 hi ⟨v4, v5, v6, rfl, e1, as, hs, hp⟩ ⟨rfl, rfl⟩
      -- last_place = min(gap, len(letters) - size)
      refine ⟨_, rfl, _, rfl, _, rfl, hz, _, rfl, _, _, rfl, rfl, _, _, rfl, ?_⟩
      have e4 : (1 + (i : Int)) = ((i + 1 : Nat) : Int) := by omega
      -- for place in range(max(0, gap - size), last_place + 1)
      refine ⟨_, rfl, _, rfl, _, _, rfl, rfl, _, _, rfl, _, rfl, _, _, rfl, rfl, _, _, rfl, ⟨?_, ?_, ?_, ?_⟩, ?_⟩
      · split <;> omega
      · split <;> omega
      · rw [tx_len]; split <;> omega
      · rw [tx_len]; split <;> omega
      have elo : (if (g : Int) - (1 + (i : Int)) > 0 then (g : Int) - (1 + (i : Int)) else 0) = ((g - (i + 1) : Nat) : Int) := by split <;> omega
      have ecn : ((if (((tx x).length : Nat) : Int) - (1 + (i : Int)) < (g : Int) then (((tx x).length : Nat) : Int) - (1 + (i : Int)) else (g : Int)) + 1 - ((g - (i + 1) : Nat) : Int)).toNat = cnt x g (i + 1) := by
        rw [tx_len]
        unfold cnt
        split <;> split <;> omega
      rw [← elo] at ecn
      refine for_it (walk_rg (lo := ((g - (i + 1) : Nat) : Int)) (n := cnt x g (i + 1)) elo ecn) (fun j σ H' => ∃ v5 v6, σ = [some (.str (tx x)), some (.int g), some (.int m), some (.ref l), some (.int (1 + (i : Int))), v5, v6] ∧ Same H H' ∧ RefsAt PcAt H' l (pcs x g i ++ pcsTo x g (i + 1) j)) ?_ ?_ ?_ ?_
      · refine ⟨_, v6, rfl, e1, as, hs, ?_⟩
        have ez : pcs x g i ++ pcsTo x g (i + 1) 0 = pcs x g i := by simp [pcsTo]
        rw [ez]
        exact hp
      · intro _ _ _ _ _; trivial
      · rintro j y σ H3 H4 hj ⟨v5', v6', rfl, e3, bs, hb, hbp⟩ ⟨rfl, rfl⟩
        have hog : g - (i + 1) + j ≤ g := by
          unfold cnt at hj
          split at hj <;> omega
        refine ⟨_, rfl, .inl ⟨rfl, _, SqL.of hb⟩, _, rfl, _, rfl, _, rfl, _, rfl, _, rfl, _, _, rfl, rfl, ?_⟩
        have eo : ((((g - (i + 1) : Nat) : Int)) + (j : Int)) = ((g - (i + 1) + j : Nat) : Int) := by omega
        have ee : ((((g - (i + 1) : Nat) : Int)) + (j : Int) + (1 + (i : Int))) = ((g - (i + 1) + j + (i + 1) : Nat) : Int) := by omega
        refine ⟨x, g, g - (i + 1) + j, g - (i + 1) + j + (i + 1), ?_, by omega, hog, fun H5 l5 e5 n5 r5 => ?_⟩
        · show [V.str (tx x), V.int (g : Int), V.int (((g - (i + 1) : Nat) : Int) + (j : Int)), V.int (((g - (i + 1) : Nat) : Int) + (j : Int) + (1 + (i : Int)))] = _
          rw [ee, eo]
        · obtain ⟨cs, hc, hcp⟩ := r5
          have hb5 := e5 _ _ hb
          have ll := pcs_len x g i
          have l2 := pcsTo_len x g (i + 1) j
          have l3 := cnt_le x g (i + 1)
          have hbl : bs.length ≤ 4 * (x.length + 1) * i + 4 * j := by
            rw [hbp.length, List.length_append]
            omega
          have hcl : cs.length ≤ 4 := by rw [hcp.length]; exact ptPieces_len _ _ _ _
          refine ⟨l, l5, _, _, rfl, rfl, hb5, hc, ?_, ?_⟩
          · rw [List.length_map, List.length_map]
            have q1 : 4 * (x.length + 1) * i ≤ 4 * 17 * 10 := Nat.mul_le_mul (by omega) (by omega)
            exact Nat.le_trans (by omega : bs.length + cs.length ≤ 10000) (by decide)
          · refine ⟨_, _, rfl, fun b o hb0 => ?_, bs ++ cs, ?_, ?_⟩
            · rw [upd_ne (ne_of_none hb0 hl)]
              exact e5 _ _ (e3 _ _ hb0)
            · rw [upd_same, List.map_append]
            · have er : pcs x g i ++ pcsTo x g (i + 1) (j + 1) = (pcs x g i ++ pcsTo x g (i + 1) j) ++ ptPieces x g (g - (i + 1) + j) (g - (i + 1) + j + (i + 1)) := by
                rw [List.append_assoc]
                congr 1
                exact range_flat _ _
              have up : ∀ a p, PcAt H5 a p → PcAt (upd H5 l (.lst (bs.map V.ref ++ cs.map V.ref))) a p := fun a p h => by
                show upd _ _ _ a = _
                rw [upd_ne (ne_of h hb5 (by intro z; cases z))]
                exact h
              rw [er]
              exact pappend (Paired.mapP hbp fun a p h => up a p (e5 _ _ h)) (Paired.mapP hcp fun a p h => up a p h)
      · rintro σ H5 ⟨v5', v6', rfl, e5, r5⟩
        refine ⟨_, _, _, rfl, e5, ?_⟩
        have er : pcs x g (i + 1) = pcs x g i ++ pcsTo x g (i + 1) (cnt x g (i + 1)) := range_flat _ _
        rw [er]
        exact r5
    · rintro σ H' ⟨v4, v5, v6, rfl, e, r⟩
      exact ⟨_, rfl, k H' l e hl r⟩
end
end WG
set_option Elab.async false
set_option linter.all false
set_option maxRecDepth 100000
set_option maxHeartbeats 2000000
namespace WG
open PySem PySem.Spec PyProof.Rows L2
/-! ### fits_at -/
def fitsP (p : Pc) (x : VahypBase.Bytes) (g : Nat) : Bool := decide (p.2.1 ≤ g) && (decide ((x.drop (g - p.2.1)).take p.1.length = p.1) && ((!p.2.2.1 || decide (g - p.2.1 = 0)) && (!p.2.2.2 || decide (g - p.2.1 + p.1.length = x.length))))
end WG
set_option Elab.async false
set_option linter.all false
set_option maxRecDepth 100000
set_option maxHeartbeats 2000000
namespace WG
open PySem PySem.Spec PyProof.Rows L2
/-! ### weigh_evidence -/
def yesP (s : Vahypa.Lst) (o : Nat × Nat) : Bool := match s.words[o.1]? with
  | some w => w.cuts.contains o.2
  | none => false
def othersP (s : Vahypa.Lst) (i : Nat) : List (Nat × Nat) := (spotsP s).filter fun o => !decide (o.1 = i)
def forN (s : Vahypa.Lst) (os : List (Nat × Nat)) (p : Pc) : Nat := (os.filter fun o => fitsP p (Vahypc.wordAt s o.1) o.2 && yesP s o).length
def agN (s : Vahypa.Lst) (os : List (Nat × Nat)) (p : Pc) : Nat := (os.filter fun o => fitsP p (Vahypc.wordAt s o.1) o.2 && !yesP s o).length
def forT (s : Vahypa.Lst) (os : List (Nat × Nat)) (ps : List Pc) : Nat := (ps.map (forN s os)).sum
def agT (s : Vahypa.Lst) (os : List (Nat × Nat)) (ps : List Pc) : Nat := (ps.map (agN s os)).sum
theorem wordAt_of {s : Vahypa.Lst} {i : Nat} {w : Vahypa.Word} (h : s.words[i]? = some w) : Vahypc.wordAt s i = w.x := by
  unfold Vahypc.wordAt
  rw [h]
  rfl
theorem spots_in {s : Vahypa.Lst} {o : Nat × Nat} (h : o ∈ spotsP s) : ∃ w, s.words[o.1]? = some w ∧ 1 ≤ o.2 ∧ o.2 < w.x.length ∧ w ∈ s.words := by
  obtain ⟨a, ha, rfl⟩ := List.mem_map.mp h
  obtain ⟨⟨w, i⟩, hw, hb⟩ := List.mem_flatMap.mp ha
  obtain ⟨g, hg, rfl⟩ := List.mem_map.mp hb
  have hi := List.mem_zipIdx' hw
  have hg' := (List.mem_filter.mp hg).1
  obtain ⟨k, hk, rfl⟩ := List.mem_map.mp hg'
  have hk' : k < w.x.length - 1 := List.mem_range.mp hk
  refine ⟨w, ?_, by show 1 ≤ k + 1; omega, by show k + 1 < w.x.length; omega, ?_⟩
  · exact (List.getElem?_eq_getElem hi.1).trans (congrArg some hi.2.symm)
  · rw [hi.2]
    exact List.getElem_mem _
theorem pcs_mem_len {x : VahypBase.Bytes} {g m : Nat} {p : Pc} (h : p ∈ pcs x g m) : p.1.length ≤ x.length := by
  obtain ⟨k, _, h⟩ := List.mem_flatMap.mp h
  obtain ⟨i, _, h⟩ := List.mem_flatMap.mp h
  have e : p.1 = (x.drop (g - (k + 1) + i)).take (g - (k + 1) + i + (k + 1) - (g - (k + 1) + i)) := by
    unfold ptPieces at h
    simp only [List.mem_append, List.mem_singleton] at h
    rcases h with ((h | h) | h) | h
    · rw [h]
    · split at h
      · have h := List.mem_singleton.mp h; rw [h]
      · cases h
    · split at h
      · have h := List.mem_singleton.mp h; rw [h]
      · cases h
    · split at h
      · have h := List.mem_singleton.mp h; rw [h]
      · cases h
  rw [e, List.length_take, List.length_drop]
  omega
end WG
set_option Elab.async false
set_option linter.all false
set_option maxRecDepth 100000
set_option maxHeartbeats 2000000
namespace WG
open PySem PySem.Spec PyProof.Rows L2
open VahypBase (Bytes)
/-! ### bytes of a text -/
theorem bv_len (b : Bytes) : (bv b).length = b.length := List.length_map ..
theorem bv_get {b : Bytes} {p : Nat} {c : UInt8} (h : b[p]? = some c) : (bv b)[p]? = some (.int (c.toNat : Int)) := by
  unfold bv
  rw [List.getElem?_map, h]
  rfl
theorem drop_cons {α : Type} {b : List α} {p : Nat} (h : p < b.length) : ∃ c, b[p]? = some c ∧ b.drop p = c :: b.drop (p + 1) :=
  ⟨b[p], List.getElem?_eq_getElem h, List.drop_eq_getElem_cons h⟩
theorem drop_nil {α : Type} {b : List α} {p : Nat} (h : ¬ p < b.length) : b.drop p = [] := List.drop_eq_nil_of_le (by omega)
theorem byte_iff {c : UInt8} {k : Nat} (hk : k < 256) : (V.int (c.toNat : Int) = V.int (k : Int)) ↔ c = UInt8.ofNat k := by
  rw [int_iff]
  constructor
  · intro h
    have e : c.toNat = k := by omega
    rw [← e]
    exact (UInt8.ofNat_toNat).symm
  · intro h
    rw [h, UInt8.toNat_ofNat_of_lt' hk]
section
variable {P : Program} {w : World} {K : PySem.W.Frag} {mg : Str → Option Value} {base : Heap} {D : Ads}

/-! ### find_remark_end -/
abbrev s_find_remark_end : Stmt := top 36
abbrev N_find_remark_end : List Str := ["text", "place"]
theorem sc_find_remark_end : FnScope N_find_remark_end ["text", "place"] (defScope s_find_remark_end) := ⟨rfl, rfl, rfl, by decide +kernel, rfl, by decide +kernel, by decide +kernel⟩
def sp_find_remark_end (K : PySem.W.Frag) : Sp := fun vs H Q _ => ∃ (a : Addr) (b : Bytes) (p : Nat), vs = [.ref a, .int p] ∧ SqL K H a (bv b) ∧ Q (.int (p + WM.remEnd (b.drop p) : Nat)) H
theorem df_find_remark_end {f : Addr} {fd : FuncData} (F : At K mg "find_remark_end" s_find_remark_end ["text", "place"] f fd) (T : Txt K mg D) : Df P w K mg base CX0 1 "find_remark_end" ["text", "place"] (sp_find_remark_end K) := by
  refine df0 (N := N_find_remark_end) F sc_find_remark_end (fun vs H Q E h => ?_) (fun cdv A outer s H vs Q E hr h => ⟨_, (pss_cons (ps_while PassesOwn.never (PW.pt (pw_and (pt_cmpR op_lt (pv 1) (pe_callB call_len_seq (by rfl) T.n_len (by decide +kernel) (pa_cons (pv 0) pa_nil)) (nomark _)) (pw_and1 (pt_cmpR op_ne (pe_ix ix_list (pv 0) (pv 1) (fun _ _ => rfl)) (C8.pe_gc rfl T.c_LINE_END) (nomark _)))))
(pss_one (ps_aug (i := 1) sc_find_remark_end.nd rfl (Or.inl rfl) pe_int ip_add)))
(pss_one (ps_ret (pv 1)))), ?_⟩)
  · obtain ⟨a, b, p, rfl, _⟩ := h
    rfl
  · obtain ⟨a, b, p, rfl, hb, k⟩ := h
    refine ⟨fun m σ H' => ∃ q : Nat, m = b.length - q ∧ σ = [some (.ref a), some (.int q)] ∧ H' = H ∧ q + WM.remEnd (b.drop q) = p + WM.remEnd (b.drop p), ⟨_, p, rfl, rfl, rfl, rfl⟩, ?_⟩
    rintro m σ H' ⟨q, rfl, rfl, rfl, e⟩
    refine ⟨_, rfl, _, rfl, a, _, rfl, .inl hb, _, _, rfl, rfl, _, rfl, ?_⟩
    rw [bv_len]
    by_cases c : q < b.length
    · obtain ⟨y, hy, hd⟩ := drop_cons c
      refine iteT' (by simpa using c) ?_
      refine ⟨_, rfl, _, rfl, a, _, _, _, rfl, rfl, hb, atI_nat (bv_get hy), rfl, _, rfl, ?_⟩
      by_cases z : y = 10
      · have zz : V.int (y.toNat : Int) = V.int (10 : Int) := (byte_iff (k := 10) (by decide)).mpr z
        rw [decide_eq_true zz]
        refine iteF ⟨_, rfl, ?_⟩
        have e2 : WM.remEnd (b.drop q) = 0 := by
          rw [hd, z]
          rfl
        rw [e2, Nat.add_zero] at e
        rw [← e] at k
        exact k
      · have zz : ¬ V.int (y.toNat : Int) = V.int (10 : Int) := fun h => z ((byte_iff (k := 10) (by decide)).mp h)
        rw [decide_eq_false zz]
        refine iteT ⟨_, fun σ' H' h => h, _, rfl, _, _, rfl, rfl, b.length - (q + 1), by omega, q + 1, rfl, rfl, rfl, ?_⟩
        rw [← e, hd]
        have e2 : WM.remEnd (y :: b.drop (q + 1)) = 1 + WM.remEnd (b.drop (q + 1)) := by
          unfold WM.remEnd
          rw [List.takeWhile_cons, if_pos (by simpa using z), List.length_cons, Nat.add_comm]
        rw [e2]
        omega
    · refine iteF' (by simpa using c) ?_
      refine iteF ⟨_, rfl, ?_⟩
      rw [drop_nil c] at e
      have e2 : WM.remEnd [] = 0 := rfl
      rw [e2, Nat.add_zero] at e
      rw [← e] at k
      exact k
end
end WG
set_option Elab.async false
set_option linter.all false
set_option maxRecDepth 100000
set_option maxHeartbeats 2000000
namespace WG
open PySem PySem.Spec PyProof.Rows L2
open VahypBase (Bytes)
section
variable {P : Program} {w : World} {K : PySem.W.Frag} {mg : Str → Option Value} {base : Heap} {D : Ads}
theorem blank_in (c : UInt8) : inV (.int (c.toNat : Int)) [.int 32, .int 9, .int 10] = VahypBase.isBlank c := by
  show ((((32 : Int) == (c.toNat : Int))) || (((9 : Int) == (c.toNat : Int)) || (((10 : Int) == (c.toNat : Int)) || false))) = (c == 32 || (c == 9 || c == 10))
  have e : ∀ k : Nat, k < 256 → (((k : Int) == (c.toNat : Int)) = (c == UInt8.ofNat k)) := fun k hk => by
    rw [Bool.eq_iff_iff, beq_iff_eq, beq_iff_eq]
    constructor
    · intro h
      have q : c.toNat = k := by omega
      rw [← q]
      exact (UInt8.ofNat_toNat).symm
    · intro h
      rw [h, UInt8.toNat_ofNat_of_lt' hk]
  have e32 := e 32 (by decide)
  have e9 := e 9 (by decide)
  have e10 := e 10 (by decide)
  rw [show ((32 : Int) == (c.toNat : Int)) = (c == 32) from e32, show ((9 : Int) == (c.toNat : Int)) = (c == 9) from e9, show ((10 : Int) == (c.toNat : Int)) = (c == 10) from e10, Bool.or_false]
/-! ### skip_blanks -/
abbrev s_skip_blanks : Stmt := top 35
abbrev N_skip_blanks : List Str := ["text", "place"]
theorem sc_skip_blanks : FnScope N_skip_blanks ["text", "place"] (defScope s_skip_blanks) := ⟨rfl, rfl, rfl, by decide +kernel, rfl, by decide +kernel, by decide +kernel⟩
def sp_skip_blanks (K : PySem.W.Frag) : Sp := fun vs H Q _ => ∃ (a : Addr) (b : Bytes) (p : Nat), vs = [.ref a, .int p] ∧ SqL K H a (bv b) ∧ Q (.int (p + WM.skip (b.drop p) : Nat)) H
theorem df_skip_blanks {f : Addr} {fd : FuncData} (F : At K mg "skip_blanks" s_skip_blanks ["text", "place"] f fd) (T : Txt K mg D)
    (c_find_remark_end : Df P w K mg base CX0 1 "find_remark_end" ["text", "place"] (sp_find_remark_end K)) : Df P w K mg base CX0 2 "skip_blanks" ["text", "place"] (sp_skip_blanks K) := by
  refine df0 (N := N_skip_blanks) F sc_skip_blanks (fun vs H Q E h => ?_) (fun cdv A outer s H vs Q E hr h => ⟨_, (pss_cons (ps_while PassesOwn.never (PW.pt (pw_and (pt_cmpR op_lt (pv 1) (pe_callB call_len_seq (by rfl) T.n_len (by decide +kernel) (pa_cons (pv 0) pa_nil)) (nomark _)) (pw_and1 (PW.pt (pw_or (pt_cmpR op_in_seq (pe_ix ix_list (pv 0) (pv 1) (fun _ _ => rfl)) (C8.pe_gc rfl T.c_BLANKS) (by rfl)) (pw_or1 (pt_cmpR op_eq (pe_ix ix_list (pv 0) (pv 1) (fun _ _ => rfl)) (C8.pe_gc rfl T.c_REMARK) (nomark _))))))))
(pss_one (ps_if (pt_cmpR op_eq (pe_ix ix_list (pv 0) (pv 1) (fun _ _ => rfl)) (C8.pe_gc rfl T.c_REMARK) (nomark _))
(pss_one (ps_set (i := 1) sc_skip_blanks.nd rfl (Or.inl rfl) (pe_d0 c_find_remark_end hr (by decide) rfl (pa_cons (pv 0) (pa_cons (pv 1) pa_nil)))))
(pss_one (ps_aug (i := 1) sc_skip_blanks.nd rfl (Or.inl rfl) pe_int ip_add)))))
(pss_one (ps_ret (pv 1)))), ?_⟩)
  · obtain ⟨a, b, p, rfl, _⟩ := h
    rfl
  · obtain ⟨a, b, p, rfl, hb, k⟩ := h
    refine ⟨fun m σ H' => ∃ q : Nat, m = b.length - q ∧ σ = [some (.ref a), some (.int q)] ∧ H' = H ∧ q + WM.skip (b.drop q) = p + WM.skip (b.drop p), ⟨_, p, rfl, rfl, rfl, rfl⟩, ?_⟩
    rintro m σ H' ⟨q, rfl, rfl, rfl, e⟩
    refine ⟨_, rfl, _, rfl, a, _, rfl, .inl hb, _, _, rfl, rfl, _, rfl, ?_⟩
    rw [bv_len]
    have stop : WM.skip (b.drop q) = 0 → Q (.int (q : Int)) H' := fun z => by
      rw [z, Nat.add_zero] at e
      rw [← e] at k
      exact k
    by_cases c : q < b.length
    · obtain ⟨y, hy, hd⟩ := drop_cons c
      refine iteT' (by simpa using c) ?_
      refine ⟨_, rfl, _, rfl, a, _, _, _, rfl, rfl, hb, atI_nat (bv_get hy), D.aB, _, rfl, .inr (T.t_BLANKS _), rfl, rfl, _, rfl, ?_⟩
      rw [blank_in]
      have body : VahypBase.isBlank y = true ∨ y = 35 → ∃ N : L2.St → Hp → Prop, (∀ σ' H'', N σ' H'' → ∃ m', m' < b.length - q ∧ ∃ q : Nat, m' = b.length - q ∧ σ' = [some (.ref a), some (.int q)] ∧ H'' = H' ∧ q + WM.skip (b.drop q) = p + WM.skip (b.drop p)) ∧
          (tIfS (tTest (tOp rEq (tOp (rIxL K) (tVar 0) (tVar 1)) (tC (.int 35)))) (tAsg (tCall (sp_find_remark_end K) [] E0 (tCons (tVar 0) (tCons (tVar 1) tNil))) (gName 1)) (tAug 1 (tC (.int 1)) (fun x y H Q => ∃ i j, x = .int i ∧ y = .int j ∧ Q (.int (i + j)) H))) { nx := N, rt := Q, ct := N, bk := tRet (tVar 1) { nx := fun x H' => Q .non H', rt := Q } } [some (.ref a), some (.int q)] H' := fun hor => by
        refine ⟨_, fun σ' H' h => h, ?_⟩
        refine ⟨_, rfl, _, rfl, a, _, _, _, rfl, rfl, hb, atI_nat (bv_get hy), rfl, _, rfl, ?_⟩
        by_cases z : y = 35
        · have zz : V.int (y.toNat : Int) = V.int (35 : Int) := (byte_iff (k := 35) (by decide)).mpr z
          rw [decide_eq_true zz]
          refine iteT ⟨_, rfl, _, rfl, a, b, q, rfl, hb, b.length - (q + WM.remEnd (b.drop q)), ?_, _, rfl, rfl, rfl, ?_⟩
          · have e2 : WM.remEnd (b.drop q) = 1 + WM.remEnd (b.drop (q + 1)) := by
              rw [hd, z]
              unfold WM.remEnd
              rw [List.takeWhile_cons, if_pos (by decide), List.length_cons, Nat.add_comm]
            have e3 : WM.remEnd (b.drop q) ≤ (b.drop q).length := WM.tw_le _
            rw [List.length_drop] at e3
            omega
          · rw [← e]
            have hnb : VahypBase.isBlank y = false := by rw [z]; decide
            have h35 : (y == 35) = true := by rw [z]; decide
            rw [hd, WM.skip_rem hnb h35]
            have e2 : WM.remEnd (y :: b.drop (q + 1)) = 1 + ((b.drop (q + 1)).takeWhile (· != 10)).length := by
              unfold WM.remEnd
              rw [z, List.takeWhile_cons, if_pos (by decide), List.length_cons, Nat.add_comm]
            rw [e2]
            have e4 : b.drop (q + (1 + ((b.drop (q + 1)).takeWhile (· != 10)).length)) = (b.drop (q + 1)).dropWhile (· != 10) := by
              rw [← WM.drop_tw, List.drop_drop, Nat.add_assoc]
            rw [e4]
            omega
        · have zz : ¬ V.int (y.toNat : Int) = V.int (35 : Int) := fun h => z ((byte_iff (k := 35) (by decide)).mp h)
          rw [decide_eq_false zz]
          have hbl : VahypBase.isBlank y = true := hor.resolve_right z
          refine iteF ⟨_, rfl, _, _, rfl, rfl, b.length - (q + 1), by omega, q + 1, rfl, rfl, rfl, ?_⟩
          rw [← e, hd, WM.skip_blank hbl]
          omega
      cases hbl : VahypBase.isBlank y with
      | true => exact iteT (iteT (body (.inl hbl)))
      | false =>
        refine iteF ⟨_, rfl, _, rfl, a, _, _, _, rfl, rfl, hb, atI_nat (bv_get hy), rfl, _, rfl, ?_⟩
        by_cases z : y = 35
        · have zz : V.int (y.toNat : Int) = V.int (35 : Int) := (byte_iff (k := 35) (by decide)).mpr z
          rw [decide_eq_true zz]
          exact iteT (body (.inr z))
        · have zz : ¬ V.int (y.toNat : Int) = V.int (35 : Int) := fun h => z ((byte_iff (k := 35) (by decide)).mp h)
          rw [decide_eq_false zz]
          refine iteF ⟨_, rfl, stop ?_⟩
          rw [hd]
          exact WM.skip_none hbl (by simpa using z)
    · refine iteF' (by simpa using c) ?_
      refine iteF ⟨_, rfl, stop ?_⟩
      rw [drop_nil c]
      rfl

/-! ### find_chunk_sign -/
abbrev s_find_chunk_sign : Stmt := top 39
abbrev N_find_chunk_sign : List Str := ["byte"]
theorem sc_find_chunk_sign : FnScope N_find_chunk_sign ["byte"] (defScope s_find_chunk_sign) := ⟨rfl, rfl, rfl, by decide +kernel, rfl, by decide +kernel, by decide +kernel⟩
def signB (c : UInt8) : Bytes := if VahypBase.inChunk c = true then [c] else []
def sp_find_chunk_sign : Sp := fun vs H Q _ => ∃ (c : UInt8), vs = [.int (c.toNat : Int)] ∧ Q (.str (tx (signB c))) H
theorem letter_at (n : Nat) (h : n < 26) : ("abcdefghijklmnopqrstuvwxyz" : Str).cps.toList[n]? = some (97 + n) := by
  have z : ∀ n : Fin 26, ("abcdefghijklmnopqrstuvwxyz" : Str).cps.toList[n.val]? = some (97 + n.val) := by decide +kernel
  exact z ⟨n, h⟩
theorem digit_at (n : Nat) (h : n < 10) : ("0123456789" : Str).cps.toList[n]? = some (48 + n) := by
  have z : ∀ n : Fin 10, ("0123456789" : Str).cps.toList[n.val]? = some (48 + n.val) := by decide +kernel
  exact z ⟨n, h⟩
theorem df_find_chunk_sign {f : Addr} {fd : FuncData} (F : At K mg "find_chunk_sign" s_find_chunk_sign ["byte"] f fd) (T : Txt K mg D) : Df P w K mg base CX0 1 "find_chunk_sign" ["byte"] sp_find_chunk_sign := by
  refine df0 (N := N_find_chunk_sign) F sc_find_chunk_sign (fun vs H Q E h => ?_) (fun cdv A outer s H vs Q E hr h => ⟨_, (pss_cons (ps_if (pt_chain op_le op_le pe_int (pv 0) pe_int)
(pss_one (ps_ret (pe_ix ix_str (C8.pe_gc rfl T.c_LETTERS) (pe_op op_sub (pv 0) pe_int) (fun _ _ => rfl))))
pss_nil)
(pss_cons (ps_if (pt_chain op_le op_le pe_int (pv 0) pe_int)
(pss_one (ps_ret (pe_ix ix_str (C8.pe_gc rfl T.c_DIGITS) (pe_op op_sub (pv 0) pe_int) (fun _ _ => rfl))))
pss_nil)
(pss_cons (ps_if (pt_cmpR op_eq (pv 0) pe_int (nomark _))
(pss_one (ps_ret pe_str))
pss_nil)
(pss_cons (ps_if (pt_cmpR op_eq (pv 0) pe_int (nomark _))
(pss_one (ps_ret pe_str))
pss_nil)
(pss_one (ps_ret pe_str)))))), ?_⟩)
  · obtain ⟨c, rfl, _⟩ := h
    rfl
  · obtain ⟨c, rfl, k⟩ := h
    have one : ∀ (n : Nat), c.toNat = n → tx [c] = ⟨#[n]⟩ := fun n e => by rw [← e]; rfl
    by_cases h1 : 97 ≤ c.toNat ∧ c.toNat ≤ 122
    · have es : signB c = [c] := by
        unfold signB
        rw [if_pos]
        unfold VahypBase.inChunk VahypBase.isLetter
        rw [decide_eq_true h1, Bool.true_or]
      rw [es] at k
      try dsimp only [tNext]
      show tTest (tChain _ _ _ _ _) _ _ _
      refine chain_le (fun _ h => ⟨_, rfl, h⟩) (iteT' (decide_eq_true (by omega)) ?_)
      have ei : (c.toNat : Int) - 97 = ((c.toNat - 97 : Nat) : Int) := by omega
      refine ⟨_, rfl, _, _, rfl, rfl, _, _, 97 + (c.toNat - 97), rfl, rfl, by decide +kernel, ?_, ?_⟩
      · rw [ei]
        exact atI_nat (letter_at _ (by omega))
      · rw [one (97 + (c.toNat - 97)) (by omega)] at k
        exact k
    try dsimp only [tNext]
    show tTest (tChain _ _ _ _ _) _ _ _
    refine chain_le (fun _ h => ⟨_, rfl, h⟩) (iteF' (decide_eq_false (by omega)) ?_)
    have nl : VahypBase.isLetter c = false := decide_eq_false h1
    by_cases h2 : 48 ≤ c.toNat ∧ c.toNat ≤ 57
    · have es : signB c = [c] := by
        unfold signB
        rw [if_pos]
        unfold VahypBase.inChunk VahypBase.isDigit
        rw [decide_eq_true h2, Bool.true_or, Bool.or_true]
      rw [es] at k
      try dsimp only [tNext]
      show tTest (tChain _ _ _ _ _) _ _ _
      refine chain_le (fun _ h => ⟨_, rfl, h⟩) (iteT' (decide_eq_true (by omega)) ?_)
      have ei : (c.toNat : Int) - 48 = ((c.toNat - 48 : Nat) : Int) := by omega
      refine ⟨_, rfl, _, _, rfl, rfl, _, _, 48 + (c.toNat - 48), rfl, rfl, by decide +kernel, ?_, ?_⟩
      · rw [ei]
        exact atI_nat (digit_at _ (by omega))
      · rw [one (48 + (c.toNat - 48)) (by omega)] at k
        exact k
    try dsimp only [tNext]
    show tTest (tChain _ _ _ _ _) _ _ _
    refine chain_le (fun _ h => ⟨_, rfl, h⟩) (iteF' (decide_eq_false (by omega)) ?_)
    have nd : VahypBase.isDigit c = false := decide_eq_false h2
    refine ⟨_, rfl, rfl, _, rfl, ?_⟩
    by_cases h3 : c = 45
    · subst h3
      exact iteT' (by decide) k
    · have zz : ¬ V.int (c.toNat : Int) = V.int (45 : Int) := fun h => h3 ((byte_iff (k := 45) (by decide)).mp h)
      refine iteF' (decide_eq_false zz) ⟨_, rfl, rfl, _, rfl, ?_⟩
      by_cases h4 : c = 46
      · subst h4
        exact iteT' (by decide) k
      · have z4 : ¬ V.int (c.toNat : Int) = V.int (46 : Int) := fun h => h4 ((byte_iff (k := 46) (by decide)).mp h)
        have es : signB c = [] := by
          unfold signB
          rw [if_neg]
          unfold VahypBase.inChunk
          simp only [nl, nd, Bool.false_or, Bool.or_eq_true, beq_iff_eq]
          rintro (q | q)
          · exact h3 q
          · exact h4 q
        rw [es] at k
        exact iteF' (decide_eq_false z4) k
end
end WG
set_option Elab.async false
set_option linter.all false
set_option maxRecDepth 100000
set_option maxHeartbeats 2000000
namespace WG
open PySem PySem.Spec PyProof.Rows L2
open VahypBase (Bytes)
section
variable {P : Program} {w : World} {K : PySem.W.Frag} {mg : Str → Option Value} {base : Heap} {D : Ads}
/-! ### joining texts -/
theorem joinL_nil : ∀ l : List (List Nat), TL.joinL [] l = l.flatten
  | [] => rfl
  | [p] => by simp [TL.joinL]
  | p :: q :: r => by
    have ih := joinL_nil (q :: r)
    show p ++ ([] ++ TL.joinL [] (q :: r)) = p ++ (q :: r).flatten
    rw [ih, List.nil_append]
theorem join_tx (l : List Bytes) : Txt.join (SX.S []) (l.map tx) = tx l.flatten := by
  have e : l.map tx = (l.map fun b => b.map UInt8.toNat).map SX.S := by rw [List.map_map]; rfl
  rw [e, SX.join_S, joinL_nil]
  unfold tx
  rw [List.map_flatten]
theorem empty_tx : ("" : Str) = tx [] := by decide +kernel
theorem len_sum (l : List Bytes) : ((l.map tx).map (·.length)).sum = l.flatten.length := by
  induction l with
  | nil => rfl
  | cons a r ih =>
    rw [List.map_cons, List.map_cons, List.sum_cons, ih, List.flatten_cons, List.length_append, tx_len]
/-! ### read_chunk -/
abbrev s_read_chunk : Stmt := top 38
abbrev N_read_chunk : List Str := ["text", "place", "signs", "sign"]
theorem sc_read_chunk : FnScope N_read_chunk ["text", "place"] (defScope s_read_chunk) := ⟨rfl, rfl, rfl, by decide +kernel, rfl, by decide +kernel, by decide +kernel⟩
def sp_read_chunk (K : PySem.W.Frag) : Sp := fun vs H Q _ => ∃ (a : Addr) (b : Bytes) (p : Nat), vs = [.ref a, .int p] ∧ SqL K H a (bv b) ∧ b.length ≤ 5000 ∧ ∀ H', Same H H' → Q (.str (tx ((b.drop p).takeWhile VahypBase.inChunk))) H'
theorem df_read_chunk {f : Addr} {fd : FuncData} (F : At K mg "read_chunk" s_read_chunk ["text", "place"] f fd) (T : Txt K mg D)
    (c_find_chunk_sign : Df P w K mg base CX0 1 "find_chunk_sign" ["byte"] sp_find_chunk_sign) : Df P w K mg base CX0 2 "read_chunk" ["text", "place"] (sp_read_chunk K) := by
  refine df0 (N := N_read_chunk) F sc_read_chunk (fun vs H Q E h => ?_) (fun cdv A outer s H vs Q E hr h => ⟨_, (pss_cons (ps_set (i := 2) sc_read_chunk.nd rfl (Or.inl rfl) (pe_lst pa_nil))
(pss_cons (ps_while PassesOwn.never (pt_cmpR op_lt (pv 1) (pe_callB call_len_seq (by rfl) T.n_len (by decide +kernel) (pa_cons (pv 0) pa_nil)) (nomark _))
(pss_cons (ps_set (i := 3) sc_read_chunk.nd rfl (Or.inl rfl) (pe_d0 c_find_chunk_sign hr (by decide) rfl (pa_cons (pe_ix ix_list (pv 0) (pv 1) (fun _ _ => rfl)) pa_nil)))
(pss_cons (ps_if (pt_cmpR op_eq (pv 3) pe_str (nomark _))
(pss_one ps_break)
pss_nil)
(pss_cons (ps_expr (pe_bm PySem.F.plainAttrs_list PySem.F.slot_list_append PySem.F.type_list_append mt_append (pv 2) (pa_cons (pv 3) pa_nil)))
(pss_one (ps_aug (i := 1) sc_read_chunk.nd rfl (Or.inl rfl) pe_int ip_add))))))
(pss_one (ps_ret (pe_join pe_str (pv 2)))))), ?_⟩)
  · obtain ⟨a, b, p, rfl, _⟩ := h
    rfl
  · obtain ⟨a, b, p, rfl, hb, hbl, k⟩ := h
    refine ⟨by show 0 ≤ sizeLine; exact Nat.zero_le _, fun l hl => ?_⟩
    have e0 : Same H (upd H l (.lst [])) := same_upd hl
    refine ⟨fun m σ H' => ∃ q : Nat, ∃ v3, ∃ cs : Bytes, m = b.length - q ∧ σ = [some (.ref a), some (.int q), some (.ref l), v3] ∧ Same H H' ∧ H' l = some (.lst (cs.map fun c => V.str (tx [c]))) ∧ cs.length ≤ q ∧ cs ++ (b.drop q).takeWhile VahypBase.inChunk = (b.drop p).takeWhile VahypBase.inChunk, ⟨_, p, none, [], rfl, rfl, e0, upd_same, Nat.zero_le _, List.nil_append _⟩, ?_⟩
    rintro m σ H' ⟨q, v3, cs, rfl, rfl, e, hs, hcl, ecs⟩
    have fin : ∀ v3, (b.drop q).takeWhile VahypBase.inChunk = [] → tRet (tM1 (fun x xs H Q => ∃ a p, ∃ ys : List Str, x = .str a ∧ xs = [.ref p] ∧ (SqL K H p (ys.map V.str) ∨ SqT K H p (ys.map V.str)) ∧
        (ys.map (·.length)).sum + ys.length * a.length ≤ 16777216 ∧ Q (.str (Txt.join a ys)) H) (tC (.str "")) (tVar 2)) { nx := fun _ H' => Q .non H', rt := Q } [some (.ref a), some (.int q), some (.ref l), v3] H' := fun v3 z => by
      rw [z, List.append_nil] at ecs
      have el : cs.map (fun c => V.str (tx [c])) = ((cs.map fun c => [c]).map tx).map V.str := by simp [List.map_map]
      have ef : (cs.map fun c => [c]).flatten = cs := by
        clear ecs el hs hcl
        induction cs with
        | nil => rfl
        | cons x r ih => rw [List.map_cons, List.flatten_cons, ih]; rfl
      refine ⟨⟨_, rfl⟩, _, rfl, _, l, (cs.map fun c => [c]).map tx, rfl, rfl, .inl (SqL.of (by rw [hs, el])), ?_, ?_⟩
      · have z1 : cs.length ≤ 5000 := by
          have z2 : cs.length ≤ (b.drop p).length := by rw [ecs]; exact WM.tw_le _
          rw [List.length_drop] at z2
          omega
        have z3 : ("" : Str).length = 0 := rfl
        rw [len_sum, ef, z3, Nat.mul_zero]
        omega
      · have q := k H' e
        rw [← ecs] at q
        rw [show Txt.join ("" : Str) ((cs.map fun c => [c]).map tx) = tx cs from (join_tx _).trans (by rw [ef])]
        exact q
    refine ⟨_, rfl, _, rfl, a, _, rfl, .inl (e.seq hb), _, _, rfl, rfl, _, rfl, ?_⟩
    rw [bv_len]
    by_cases c : q < b.length
    · obtain ⟨y, hy, hd⟩ := drop_cons c
      refine iteT' (by simpa using c) ⟨_, fun σ' H' h => h, ?_⟩
      refine ⟨_, rfl, _, rfl, a, _, _, _, rfl, rfl, e.seq hb, atI_nat (bv_get hy), y, rfl, ?_⟩
      refine ⟨_, rfl, rfl, _, rfl, ?_⟩
      cases hin : VahypBase.inChunk y with
      | true =>
        have es : signB y = [y] := by unfold signB; rw [hin, if_pos rfl]
        have nz : ¬ V.str (tx (signB y)) = V.str ("" : Str) := fun h => by
          rw [es, empty_tx] at h
          have := str_iff.mp h
          cases this
        refine iteF' (decide_eq_false nz) ?_
        have hcl' : cs.length ≤ 5000 := by omega
        refine ⟨_, rfl, .inl ⟨rfl, _, SqL.of hs⟩, _, rfl, l, _, _, rfl, rfl, hs, ?_, ?_⟩
        · rw [List.length_map]
          exact Nat.lt_of_le_of_lt hcl' (by decide)
        refine ⟨_, rfl, _, _, rfl, rfl, b.length - (q + 1), by omega, q + 1, _, cs ++ [y], rfl, rfl, fun b' o hb' => ?_, ?_, ?_, ?_⟩
        · rw [upd_ne (ne_of_none hb' hl)]
          exact e _ _ hb'
        · rw [upd_same, List.map_append, es]
          rfl
        · rw [List.length_append, List.length_singleton]
          omega
        · rw [← ecs, hd, List.takeWhile_cons, if_pos hin, List.append_assoc]
          rfl
      | false =>
        have es : signB y = [] := by unfold signB; rw [hin, if_neg Bool.false_ne_true]
        have nz : V.str (tx (signB y)) = V.str ("" : Str) := by rw [es, empty_tx]
        refine iteT' (decide_eq_true nz) (fin _ ?_)
        rw [hd, List.takeWhile_cons, if_neg (by rw [hin]; exact Bool.false_ne_true)]
    · refine iteF' (by simpa using c) (fin _ ?_)
      rw [drop_nil c]
      rfl
end
end WG
set_option Elab.async false
set_option linter.all false
set_option maxRecDepth 100000
set_option maxHeartbeats 2000000
namespace WG
open PySem PySem.Spec PyProof.Rows L2
open VahypBase (Bytes PTok Toks Fault)
/-! ### the fault -/
def fX (c p : Int) : List (Str × V) := [("place", .int p), ("code", .int c)]
def FaultE (C : Addr) (H : Hp) (E : XK) (f : Fault) : Prop := ∀ d H', Same H H' → H d = none → H' d = some (.xd (fX f.code f.place)) → E (.ref C) (some d) H'
theorem FaultE.mono {C : Addr} {H H1 : Hp} {E : XK} {f : Fault} (h : FaultE C H E f) (e : Same H H1) : FaultE C H1 E f := fun d H' e2 hd h2 => h d H' (e.trans e2) (e.free hd) h2
theorem FaultE.now {C : Addr} {H H1 : Hp} {E : XK} {f : Fault} (h : FaultE C H E f) (e : Same H H1) : ∀ d, H1 d = none → E (.ref C) (some d) (upd H1 d (.xd (fX f.code f.place))) := fun d hd => h d _ (e.trans (same_upd hd)) (e.free hd) upd_same
abbrev s_ListFault_init : Stmt := inClass (top 33) 0
abbrev N_ListFault_init : List Str := ["self", "code", "place"]
theorem sc_ListFault_init : FnScope N_ListFault_init ["self", "code", "place"] (defScope s_ListFault_init) := ⟨rfl, rfl, rfl, by decide +kernel, rfl, by decide +kernel, by decide +kernel⟩
def sp_fault_init (C : Addr) : Sp := fun vs H Q _ => ∃ (a : Addr) (c p : Int), vs = [.ref a, .int c, .int p] ∧ H a = some (exo a C none) ∧
  ∀ dx, H dx = none → dx ≠ a → Q .non (upd (upd (upd H dx (exd dx [("code", .int c)])) a (exo a C (some dx))) dx (exd dx (fX c p)))
section
variable {P : Program} {w : World} {K : PySem.W.Frag} {mg : Str → Option Value} {base : Heap} {D : Ads}
theorem ok_fault_init {f : Addr} {fd : FuncData} (F : Fun K "__init__" "ListFault.__init__" s_ListFault_init f fd) (T : Txt K mg D) : FnOk P w K mg base CX0 1 f fd ["self", "code", "place"] (sp_fault_init D.cF) := by
  refine F.ok sc_ListFault_init (fun vs H Q E h => ?_) (fun cdv A outer s H vs Q E hr h => ⟨_, (pss_cons (ps_ost (pv 0) (pv 1)) (pss_one (ps_ost (pv 0) (pv 2)))), ?_⟩)
  · obtain ⟨a, c, p, rfl, _⟩ := h
    rfl
  · obtain ⟨a, c, p, rfl, ha, k⟩ := h
    refine ⟨_, rfl, _, rfl, a, D.cF, rfl, T.xF, T.xc, .inl ⟨ha, fun dx hdx hne => ?_⟩⟩
    refine ⟨_, rfl, _, rfl, a, D.cF, rfl, T.xF, T.xp, .inr ⟨dx, _, upd_same, (upd_ne hne).trans upd_same, by show 1 ≤ 900; decide, k dx hdx hne⟩⟩
theorem fault_end {C : Addr} {H1 : Hp} {c p : Int} {Q : XK} (h : ∀ d, H1 d = none → Q (.ref C) (some d) (upd H1 d (.xd (fX c p)))) :
    ([V.int c, V.int p] : List V).length ≤ 1000 ∧ ∀ a, H1 a = none → sp_fault_init C (.ref a :: ([V.int c, V.int p] ++ [])) (upd H1 a (exo a C none)) (fun v H2 => v = .non ∧ ∃ (d : Addr) (fs : List (Str × V)), H2 a = some (exo a C (some d)) ∧ H2 d = some (exd d fs) ∧ H1 d = none ∧ Q (.ref C) (some d) (upd (del H2 a) d (.xd fs))) (fun _ _ _ => False) := by
  refine ⟨by show 2 ≤ 1000; decide, fun a ha => ⟨a, c, p, rfl, upd_same, fun dx hdx hne => ⟨rfl, dx, fX c p, ?_, upd_same, ?_, ?_⟩⟩⟩
  · rw [upd_ne (Ne.symm hne), upd_same]
  · rw [upd_ne hne] at hdx
    exact hdx
  · have hdx' : H1 dx = none := by rw [upd_ne hne] at hdx; exact hdx
    have e : upd (del (upd (upd (upd (upd H1 a (exo a C none)) dx (exd dx [("code", .int c)])) a (exo a C (some dx))) dx (exd dx (fX c p))) a) dx (.xd (fX c p)) = upd H1 dx (.xd (fX c p)) := by
      funext b
      by_cases h1 : b = dx
      · rw [h1, upd_same, upd_same]
      · rw [upd_ne h1, upd_ne h1]
        by_cases h2 : b = a
        · rw [h2, del_same, ha]
        · rw [del_ne h2, upd_ne h1, upd_ne h2, upd_ne h1, upd_ne h2]
    rw [e]
    exact h dx hdx'
/-- what ListFault(..) wants of the top -/
structure FaultOk (P : Program) (w : World) (K : PySem.W.Frag) (mg : Str → Option Value) (base : Heap) (D : Ads) : Prop where
  ex : ∃ fd : FuncData, FnOk P w K mg base CX0 1 D.fF fd ["self", "code", "place"] (sp_fault_init D.cF) ∧ Binds K fd ["self", "code", "place"] []
theorem pmk_fault {X : Cx} {D : Ads} {e : Expr} {es : List Expr} {ta : TA} {p pos : Pos} {j : Nat} (T : Txt X.K X.mg D) (FO : FaultOk X.prog X.w X.K X.mg X.base D) (hr : Room j X.A) (hk : 2 ≤ j) (hg : Gl X "ListFault") (ha : PA X (e :: es) ta)
    (he : starEach (e :: es) X.env = (false, eval e X.env) :: starEach es X.env := by rfl) (hpl : (backTo pos (starEach es X.env)).any (·.1) = false := by rfl) :
    PMk X (.Call (.Name "ListFault" p) (e :: es) [] pos) (tMkO D.cF (sp_fault_init D.cF) [] ta) := by
  obtain ⟨fd, F, b⟩ := FO.ex
  exact pmk_oex T.xF T.xi T.xt F (hr.mono hk) b .nil pass0 hg T.gF ha (by decide) he hpl

/-! ### tokens -/
def sgn : VahypBase.Tok → Bytes
  | .chunk b => b
  | .sign _ => [59]
  | .last => []
def tokO (t : PTok) : HO := .tup [.int t.place, .str (tx (sgn t.tok))]
def TokAt (H : Hp) (a : Addr) (t : PTok) : Prop := H a = some (tokO t)
theorem TokAt.same : ∀ (H H' : Hp) (a : Addr) (t : PTok), Same H H' → TokAt H a t → TokAt H' a t := fun _ _ _ _ e h => e _ _ h
theorem token_len {l : Bytes} {x : VahypBase.Tok × Nat} (h : VahypBase.token l = some x) : x.2 = (sgn x.1).length ∧ x.2 ≤ l.length := by
  cases l with
  | nil => cases h
  | cons b r =>
    unfold VahypBase.token at h
    dsimp only at h
    split at h
    · split at h
      · cases h
      · cases h
        exact ⟨rfl, WM.tw_le _⟩
    · split at h
      · cases h
        exact ⟨rfl, by show 1 ≤ (b :: r).length; simp⟩
      · cases h
abbrev s_read_token : Stmt := top 37
abbrev N_read_token : List Str := ["text", "place", "chunk"]
theorem sc_read_token : FnScope N_read_token ["text", "place"] (defScope s_read_token) := ⟨rfl, rfl, rfl, by decide +kernel, rfl, by decide +kernel, by decide +kernel⟩
def sp_read_token (K : PySem.W.Frag) (C : Addr) : Sp := fun vs H Q E => ∃ (a : Addr) (b : Bytes) (p : Nat), vs = [.ref a, .int p] ∧ SqL K H a (bv b) ∧ b.length ≤ 5000 ∧ p < b.length ∧
  (∀ x, VahypBase.token (b.drop p) = some x → ∀ H', Same H H' → Q (.str (tx (sgn x.1))) H') ∧ (VahypBase.token (b.drop p) = none → FaultE C H E ⟨2, p⟩)
theorem df_read_token {f : Addr} {fd : FuncData} (F : At K mg "read_token" s_read_token ["text", "place"] f fd) (T : Txt K mg D) (FO : FaultOk P w K mg base D)
    (c_read_chunk : Df P w K mg base CX0 2 "read_chunk" ["text", "place"] (sp_read_chunk K)) : Df P w K mg base (L2.CX P w) 3 "read_token" ["text", "place"] (sp_read_token K D.cF) := by
  refine dfX (N := N_read_token) F sc_read_token (fun vs H Q E h => ?_) (fun cdv A outer s H vs Q E hr h => ⟨_, (pss_cons (ps_if (pt_cmpR op_eq (pe_ix ix_list (pv 0) (pv 1) (fun _ _ => rfl)) (C8.pe_gc rfl T.c_SEMICOLON) (nomark _))
(pss_one (ps_ret pe_str))
pss_nil)
(pss_cons (ps_set (i := 2) sc_read_token.nd rfl (Or.inl rfl) (pe_d0 c_read_chunk hr (by decide) rfl (pa_cons (pv 0) (pa_cons (pv 1) pa_nil))))
(pss_cons (ps_if (pt_not (pt_chain op_le op_le pe_int (pe_callB call_len_str (by rfl) T.n_len (by decide +kernel) (pa_cons (pv 2) pa_nil)) (C8.pe_gc rfl T.c_MOST_CHUNK_BYTES)))
(pss_one (ps_raise rfl (takes_of rfl rfl rfl rfl) (pmk_fault T FO hr (by decide) rfl (pa_cons pe_int (pa_cons (pv 1) pa_nil)))))
pss_nil)
(pss_one (ps_ret (pv 2)))))), ?_⟩)
  · obtain ⟨a, b, p, rfl, _⟩ := h
    rfl
  · obtain ⟨a, b, p, rfl, hb, hl, hp, kS, kE⟩ := h
    obtain ⟨y, hy, hd⟩ := drop_cons hp
    refine ⟨_, rfl, _, rfl, a, _, _, _, rfl, rfl, hb, atI_nat (bv_get hy), rfl, _, rfl, ?_⟩
    by_cases z : y = 59
    · have zz : V.int (y.toNat : Int) = V.int (59 : Int) := (byte_iff (k := 59) (by decide)).mpr z
      refine iteT' (decide_eq_true zz) ?_
      refine kS (.sign 59, 1) ?_ H (Same.refl H)
      rw [hd, z]
      rfl
    · have zz : ¬ V.int (y.toNat : Int) = V.int (59 : Int) := fun h => z ((byte_iff (k := 59) (by decide)).mp h)
      refine iteF' (decide_eq_false zz) ?_
      refine ⟨_, rfl, _, rfl, a, b, p, rfl, hb, hl, fun H1 e1 => ?_⟩
      have hz : (tx ((b.drop p).takeWhile VahypBase.inChunk)).length ≤ sizeLine := by
        rw [tx_len]
        have z1 : ((b.drop p).takeWhile VahypBase.inChunk).length ≤ (b.drop p).length := WM.tw_le _
        rw [List.length_drop] at z1
        exact Nat.le_trans (by omega : _ ≤ 5000) (by decide)
      dsimp only [gName, tSeq, tIfS, tNot]
      refine chain_le (v := (((tx ((b.drop p).takeWhile VahypBase.inChunk)).length : Nat) : Int)) (fun _ h => ⟨_, rfl, _, rfl, hz, h⟩) ?_
      rw [tx_len]
      cases hin : VahypBase.inChunk y with
      | true =>
        have e1' : 1 ≤ ((b.drop p).takeWhile VahypBase.inChunk).length := by
          rw [hd, List.takeWhile_cons, if_pos hin, List.length_cons]
          omega
        have et : VahypBase.token (b.drop p) = if VahypBase.CHUNK < ((b.drop p).takeWhile VahypBase.inChunk).length then none else some (.chunk ((b.drop p).takeWhile VahypBase.inChunk), ((b.drop p).takeWhile VahypBase.inChunk).length) := by
          rw [hd]
          unfold VahypBase.token
          dsimp only
          rw [if_pos hin]
        by_cases h40 : ((b.drop p).takeWhile VahypBase.inChunk).length ≤ 40
        · refine iteF' (by rw [decide_eq_true (by omega)]; rfl) ?_
          rw [if_neg (by unfold VahypBase.CHUNK; omega)] at et
          exact ⟨_, rfl, kS _ et H1 e1⟩
        · refine iteT' (by rw [decide_eq_false (by omega)]; rfl) ?_
          rw [if_pos (by unfold VahypBase.CHUNK; omega)] at et
          exact ⟨_, rfl, fault_end ((kE et).now e1)⟩
      | false =>
        have e0 : ((b.drop p).takeWhile VahypBase.inChunk).length = 0 := by
          rw [hd, List.takeWhile_cons, if_neg (by rw [hin]; exact Bool.false_ne_true)]
          rfl
        have et : VahypBase.token (b.drop p) = none := by
          rw [hd]
          unfold VahypBase.token
          dsimp only
          rw [if_neg (by rw [hin]; exact Bool.false_ne_true), if_neg (by simpa using z)]
        refine iteT' (by rw [decide_eq_false (by omega)]; rfl) ?_
        exact ⟨_, rfl, fault_end ((kE et).now e1)⟩
end
end WG
set_option Elab.async false
set_option linter.all false
set_option maxRecDepth 100000
set_option maxHeartbeats 2000000
namespace WG
open PySem PySem.Spec PyProof.Rows L2
open VahypBase (Bytes PTok Toks Fault)
section
variable {P : Program} {w : World} {K : PySem.W.Frag} {mg : Str → Option Value} {base : Heap} {D : Ads}
theorem map_append (acc : Toks) (x : PTok) (r : Except Fault Toks) : (r.map fun l => x :: l).map (fun l => acc ++ l) = r.map (fun l => acc ++ [x] ++ l) := by
  cases r with
  | error f => rfl
  | ok l =>
    show Except.ok (acc ++ x :: l) = Except.ok (acc ++ [x] ++ l)
    rw [List.append_assoc]
    rfl
theorem map_nil (r : Except Fault Toks) : r.map (fun l => [] ++ l) = r := by
  cases r <;> rfl
abbrev s_read_tokens : Stmt := top 34
abbrev N_read_tokens : List Str := ["text", "tokens", "place", "signs"]
theorem sc_read_tokens : FnScope N_read_tokens ["text"] (defScope s_read_tokens) := ⟨rfl, rfl, rfl, by decide +kernel, rfl, by decide +kernel, by decide +kernel⟩
def sp_read_tokens (K : PySem.W.Frag) (C : Addr) : Sp := fun vs H Q E => ∃ (a : Addr) (b : Bytes), vs = [.ref a] ∧ SqL K H a (bv b) ∧ b.length ≤ 5000 ∧
  (∀ l, WM.lexA 0 b = .ok l → l.length ≤ 6000 → ∀ H' p, Same H H' → H p = none → RefsAt TokAt H' p l → Q (.ref p) H') ∧ (∀ f, WM.lexA 0 b = .error f → FaultE C H E f)
theorem df_read_tokens {f : Addr} {fd : FuncData} (F : At K mg "read_tokens" s_read_tokens ["text"] f fd) (T : Txt K mg D)
    (c_skip_blanks : Df P w K mg base CX0 2 "skip_blanks" ["text", "place"] (sp_skip_blanks K)) (c_read_token : Df P w K mg base (L2.CX P w) 3 "read_token" ["text", "place"] (sp_read_token K D.cF)) :
    Df P w K mg base (L2.CX P w) 4 "read_tokens" ["text"] (sp_read_tokens K D.cF) := by
  refine dfX (N := N_read_tokens) F sc_read_tokens (fun vs H Q E h => ?_) (fun cdv A outer s H vs Q E hr h => ⟨_, (pss_cons (ps_set (i := 1) sc_read_tokens.nd rfl (Or.inl rfl) (pe_lst pa_nil))
(pss_cons (ps_set (i := 2) sc_read_tokens.nd rfl (Or.inl rfl) (pe_d0 c_skip_blanks hr (by decide) rfl (pa_cons (pv 0) (pa_cons pe_int pa_nil))))
(pss_cons (ps_while (passes_of rfl) (pt_cmpR op_lt (pv 2) (pe_callB call_len_seq (by rfl) T.n_len (by decide +kernel) (pa_cons (pv 0) pa_nil)) (nomark _))
(pss_cons (ps_set (i := 3) sc_read_tokens.nd rfl (Or.inl rfl) (pe_dX c_read_token hr (by decide) rfl (takes_of rfl rfl rfl rfl) (pa_cons (pv 0) (pa_cons (pv 2) pa_nil))))
(pss_cons (ps_expr (pe_bm PySem.F.plainAttrs_list PySem.F.slot_list_append PySem.F.type_list_append mt_append (pv 1) (pa_cons (pe_tup (pa_cons (pv 2) (pa_cons (pv 3) pa_nil))) pa_nil)))
(pss_one (ps_set (i := 2) sc_read_tokens.nd rfl (Or.inl rfl) (pe_d0 c_skip_blanks hr (by decide) rfl (pa_cons (pv 0) (pa_cons (pe_op op_add (pv 2) (pe_callB call_len_str (by rfl) T.n_len (by decide +kernel) (pa_cons (pv 3) pa_nil))) pa_nil))))))))
(pss_cons (ps_expr (pe_bm PySem.F.plainAttrs_list PySem.F.slot_list_append PySem.F.type_list_append mt_append (pv 1) (pa_cons (pe_tup (pa_cons (pv 2) (pa_cons pe_str pa_nil))) pa_nil)))
(pss_one (ps_ret (pv 1))))))), ?_⟩)
  · obtain ⟨a, b, rfl, _⟩ := h
    rfl
  · obtain ⟨a, b, rfl, hb, hbl, kS, kE⟩ := h
    refine ⟨by show 0 ≤ sizeLine; exact Nat.zero_le _, fun l hl => ?_⟩
    have e0 : Same H (upd H l (.lst [])) := same_upd hl
    refine ⟨_, rfl, a, b, 0, rfl, e0.seq hb, ?_⟩
    have skip_bd : ∀ q, q ≤ b.length → q + WM.skip (b.drop q) ≤ b.length := fun q hq => by
      have z : WM.skip (b.drop q) ≤ (b.drop q).length := WM.skip_le _ _
      rw [List.length_drop] at z
      omega
    refine ⟨fun m σ H' => ∃ q : Nat, ∃ v3, ∃ as acc, m = b.length - q ∧ σ = [some (.ref a), some (.ref l), some (.int q), v3] ∧ Same H H' ∧ ObjsAt tokO H' l as acc ∧ WM.Front (b.drop q) ∧ q ≤ b.length ∧ acc.length ≤ q ∧ WM.lexA 0 b = (WM.lexA q (b.drop q)).map (fun l => acc ++ l),
      ⟨_, 0 + WM.skip (b.drop 0), none, [], [], rfl, rfl, e0, ObjsAt.start, ?_, skip_bd 0 (Nat.zero_le _), Nat.zero_le _, ?_⟩, ?_⟩
    · rw [Nat.zero_add, List.drop_zero]
      exact WM.front_sk b
    · rw [map_nil, List.drop_zero, Nat.zero_add]
      have z := WM.lexA_sk 0 b
      rw [Nat.zero_add] at z
      exact z
    rintro m σ H' ⟨q, v3, as, acc, rfl, rfl, e, ob, fr, hq, hacc, elex⟩
    refine ⟨_, rfl, _, rfl, a, _, rfl, .inl (e.seq hb), _, _, rfl, rfl, _, rfl, ?_⟩
    rw [bv_len]
    by_cases c : q < b.length
    · obtain ⟨y, hy, hd⟩ := drop_cons c
      refine iteT' (by simpa using c) ⟨_, fun σ' H' h => h, ?_⟩
      rw [hd] at fr
      have et : WM.lexA q (b.drop q) = match VahypBase.token (b.drop q) with
          | none => .error ⟨2, q⟩
          | some x => (WM.lexA (q + x.2) ((b.drop q).drop x.2)).map fun l => ⟨q, x.1⟩ :: l := by
        rw [hd]
        exact WM.lexA_tok fr.1 fr.2
      refine ⟨_, rfl, _, rfl, a, b, q, rfl, e.seq hb, hbl, c, fun x hx H1 e1 => ?_, fun hn => ?_⟩
      · rw [hx] at et
        have ob1 := ob.same e1
        have hx2 := token_len hx
        have hx1 := WM.token_pos hx
        rw [List.length_drop] at hx2
        have hz : (tx (sgn x.1)).length ≤ sizeLine := by
          rw [tx_len]
          exact Nat.le_trans (by omega : _ ≤ 5000) (by decide)
        refine ⟨_, rfl, .inl ⟨rfl, _, SqL.of ob1.1⟩, _, rfl, _, rfl, by show 2 ≤ sizeLine; decide, fun t ht => ?_⟩
        refine ⟨l, _, _, rfl, rfl, (upd_ne (ne_of_none ob1.1 ht)).trans ob1.1, ?_, ?_⟩
        · rw [List.length_map, ob.len]
          exact Nat.lt_of_le_of_lt (by omega : acc.length ≤ 5000) (by decide)
        have ob2 : ObjsAt tokO (upd (upd H1 t (tokO ⟨q, x.1⟩)) l (.lst (as.map V.ref ++ [.ref t]))) l (as ++ [t]) (acc ++ [⟨q, x.1⟩]) := ob1.push ht
        have e2 : Same H (upd (upd H1 t (tokO ⟨q, x.1⟩)) l (.lst (as.map V.ref ++ [.ref t]))) := fun b' o hb' => push_but ht b' o (ne_of_none hb' hl) (e1 _ _ (e _ _ hb'))
        refine ⟨_, rfl, _, rfl, _, rfl, _, rfl, hz, _, _, rfl, rfl, ?_⟩
        have en : ((q : Int) + (((tx (sgn x.1)).length : Nat) : Int)) = ((q + x.2 : Nat) : Int) := by rw [tx_len, ← hx2.1]; omega
        refine ⟨a, b, q + x.2, by show [V.ref a, V.int ((q : Int) + (((tx (sgn x.1)).length : Nat) : Int))] = _; rw [en], e2.seq hb, ?_⟩
        have hq2 : q + x.2 ≤ b.length := by omega
        refine ⟨b.length - (q + x.2 + WM.skip (b.drop (q + x.2))), by omega, q + x.2 + WM.skip (b.drop (q + x.2)), _, as ++ [t], acc ++ [(⟨q, x.1⟩ : PTok)], rfl, rfl, e2, ob2, ?_, skip_bd _ hq2, ?_, ?_⟩
        · rw [← List.drop_drop]
          exact WM.front_sk _
        · rw [List.length_append, List.length_singleton]
          omega
        · rw [elex, et, map_append, List.drop_drop, WM.lexA_sk (q + x.2) (b.drop (q + x.2)), List.drop_drop]
      · rw [hn] at et
        rw [et] at elex
        exact (kE _ elex).mono e
    · refine iteF' (by simpa using c) ?_
      have hqe : b.drop q = [] := drop_nil c
      rw [hqe] at elex
      have eok : WM.lexA 0 b = .ok (acc ++ [⟨q, .last⟩]) := elex
      refine ⟨_, rfl, .inl ⟨rfl, _, SqL.of ob.1⟩, _, rfl, by show 2 ≤ sizeLine; decide, fun t ht => ?_⟩
      have e' : HO.tup [V.int (q : Int), V.str ("" : Str)] = tokO ⟨q, .last⟩ := by rw [empty_tx]; rfl
      rw [e']
      refine ⟨l, _, _, rfl, rfl, (upd_ne (ne_of_none ob.1 ht)).trans ob.1, ?_, ?_⟩
      · rw [List.length_map, ob.len]
        exact Nat.lt_of_le_of_lt (by omega : acc.length ≤ 5000) (by decide)
      have ob2 : ObjsAt tokO (upd (upd H' t (tokO ⟨q, .last⟩)) l (.lst (as.map V.ref ++ [.ref t]))) l (as ++ [t]) (acc ++ [⟨q, .last⟩]) := ob.push ht
      refine ⟨_, rfl, kS _ eok ?_ _ l (fun b' o hb' => push_but ht b' o (ne_of_none hb' hl) (e _ _ hb')) hl ob2.refs⟩
      rw [List.length_append, List.length_singleton]
      omega
end
end WG
set_option Elab.async false
set_option linter.all false
set_option maxRecDepth 100000
set_option maxHeartbeats 2000000
namespace WG
open PySem PySem.Spec PyProof.Rows L2
open VahypBase (Bytes PTok Toks Fault)
def WfTok (t : PTok) : Prop := match t.tok with
  | .chunk b => b ≠ [] ∧ b.all VahypBase.inChunk = true ∧ b.length ≤ 40
  | .sign c => c = 59
  | .last => True
section
variable {P : Program} {w : World} {K : PySem.W.Frag} {mg : Str → Option Value} {base : Heap} {D : Ads}
/-! ### need_signs -/
abbrev s_need_signs : Stmt := top 48
abbrev N_need_signs : List Str := ["tokens", "at", "signs"]
theorem sc_need_signs : FnScope N_need_signs ["tokens", "at", "signs"] (defScope s_need_signs) := ⟨rfl, rfl, rfl, by decide +kernel, rfl, by decide +kernel, by decide +kernel⟩
def sp_need_signs (C : Addr) : Sp := fun vs H Q E => ∃ (a : Addr) (i : Nat) (z : Bytes) (toks : Toks) (t : PTok), vs = [.ref a, .int i, .str (tx z)] ∧ RefsAt TokAt H a toks ∧ toks[i]? = some t ∧
  (sgn t.tok = z → Q .non H) ∧ (¬ sgn t.tok = z → FaultE C H E ⟨3, t.place⟩)
theorem df_need_signs {f : Addr} {fd : FuncData} (F : At K mg "need_signs" s_need_signs ["tokens", "at", "signs"] f fd) (T : Txt K mg D) (FO : FaultOk P w K mg base D) : Df P w K mg base (L2.CX P w) 3 "need_signs" ["tokens", "at", "signs"] (sp_need_signs D.cF) := by
  refine dfX (N := N_need_signs) F sc_need_signs (fun vs H Q E h => ?_) (fun cdv A outer s H vs Q E hr h => ⟨_, (pss_one (ps_if (pt_cmpR op_ne (pe_ix ix_tup (pe_ix ix_list (pv 0) (pv 1) (fun _ _ => rfl)) pe_int (fun _ _ => rfl)) (pv 2) (nomark _))
(pss_one (ps_raise rfl (takes_of rfl rfl rfl rfl) (pmk_fault T FO hr (by decide) rfl (pa_cons pe_int (pa_cons (pe_ix ix_tup (pe_ix ix_list (pv 0) (pv 1) (fun _ _ => rfl)) pe_int (fun _ _ => rfl)) pa_nil)))))
pss_nil)), ?_⟩)
  · obtain ⟨a, i, z, toks, t, rfl, _⟩ := h
    rfl
  · obtain ⟨a, i, z, toks, t, rfl, ⟨as, ha, hp⟩, ht, kS, kE⟩ := h
    obtain ⟨c, hc, hca⟩ := pget2 hp ht
    have hga : (as.map V.ref)[i]? = some (.ref c) := by rw [List.getElem?_map, hc] <;> rfl
    refine ⟨_, rfl, _, rfl, a, _, _, .ref c, rfl, rfl, SqL.of ha, atI_nat hga, c, _, 1, _, rfl, rfl, SqT.of hca, rfl, _, rfl, rfl, _, rfl, ?_⟩
    have ei : (V.str (tx (sgn t.tok)) = V.str (tx z)) ↔ sgn t.tok = z := str_iff
    by_cases d : sgn t.tok = z
    · rw [decide_eq_true (ei.mpr d)]
      exact iteF (kS d)
    · rw [decide_eq_false (fun q => d (ei.mp q))]
      exact iteT ⟨_, rfl, _, rfl, a, _, _, .ref c, rfl, rfl, SqL.of ha, atI_nat hga, c, _, 0, _, rfl, rfl, SqT.of hca, rfl, fault_end ((kE d).now (Same.refl H))⟩

/-! ### need_chunk -/
abbrev s_need_chunk : Stmt := top 49
abbrev N_need_chunk : List Str := ["tokens", "at", "place", "signs"]
theorem sc_need_chunk : FnScope N_need_chunk ["tokens", "at"] (defScope s_need_chunk) := ⟨rfl, rfl, rfl, by decide +kernel, rfl, by decide +kernel, by decide +kernel⟩
def isChunk (t : PTok) : Prop := ∃ b, t.tok = .chunk b
def sp_need_chunk (C : Addr) : Sp := fun vs H Q E => ∃ (a : Addr) (i : Nat) (toks : Toks) (t : PTok), vs = [.ref a, .int i] ∧ RefsAt TokAt H a toks ∧ toks[i]? = some t ∧ WfTok t ∧
  (isChunk t → ∀ H' p, Same H H' → TokAt H' p t → Q (.ref p) H') ∧ (¬ isChunk t → FaultE C H E ⟨3, t.place⟩)
theorem semi_tx : (";" : Str) = tx [59] := by decide +kernel
theorem not_chunk_in {t : PTok} (h : WfTok t) : inV (.str (tx (sgn t.tok))) [.str "", .str ";"] = true ↔ ¬ isChunk t := by
  have e : inV (.str (tx (sgn t.tok))) [.str "", .str ";"] = (decide (sgn t.tok = []) || decide (sgn t.tok = [59])) := by
    show (((("" : Str) == tx (sgn t.tok))) || (((";" : Str) == tx (sgn t.tok)) || false)) = _
    have q : ∀ z : Bytes, (tx z == tx (sgn t.tok)) = decide (sgn t.tok = z) := fun z => by
      rw [SX.S_beq_eq, Bool.eq_iff_iff, decide_eq_true_eq, decide_eq_true_eq]
      constructor
      · intro h
        exact ((List.map_inj_right (fun x y h => UInt8.toNat_inj.mp h)).mp h).symm
      · intro h
        rw [h]
    rw [empty_tx, semi_tx, q, q, Bool.or_false]
  rw [e, Bool.or_eq_true, decide_eq_true_eq, decide_eq_true_eq]
  unfold WfTok at h
  cases ht : t.tok with
  | chunk b =>
    rw [ht] at h
    constructor
    · rintro (z | z)
      · exact absurd z h.1
      · have z' : b = [59] := z
        rw [z'] at h
        exact absurd h.2.1 (by decide)
    · intro z
      exact absurd ⟨b, ht⟩ z
  | sign c =>
    refine ⟨fun _ q => ?_, fun _ => .inr rfl⟩
    obtain ⟨b, hb⟩ := q
    rw [ht] at hb
    cases hb
  | last =>
    refine ⟨fun _ q => ?_, fun _ => .inl rfl⟩
    obtain ⟨b, hb⟩ := q
    rw [ht] at hb
    cases hb
theorem df_need_chunk {f : Addr} {fd : FuncData} (F : At K mg "need_chunk" s_need_chunk ["tokens", "at"] f fd) (T : Txt K mg D) (FO : FaultOk P w K mg base D) : Df P w K mg base (L2.CX P w) 3 "need_chunk" ["tokens", "at"] (sp_need_chunk D.cF) := by
  refine dfX (N := N_need_chunk) F sc_need_chunk (fun vs H Q E h => ?_) (fun cdv A outer s H vs Q E hr h => ⟨_, (pss_cons (ps_asg (pe_ix ix_list (pv 0) (pv 1) (fun _ _ => rfl)) (pg_tup rfl (pgs_cons (pg_name (i := 2) sc_need_chunk.nd rfl (Or.inl rfl)) (pgs_cons (pg_name (i := 3) sc_need_chunk.nd rfl (Or.inl rfl)) pgs_nil))))
(pss_cons (ps_if (pt_cmpR op_in_seq (pv 3) (pe_tup (pa_cons pe_str (pa_cons pe_str pa_nil))) (by rfl))
(pss_one (ps_raise rfl (takes_of rfl rfl rfl rfl) (pmk_fault T FO hr (by decide) rfl (pa_cons pe_int (pa_cons (pv 2) pa_nil)))))
pss_nil)
(pss_one (ps_ret (pe_tup (pa_cons (pv 2) (pa_cons (pv 3) pa_nil))))))), ?_⟩)
  · obtain ⟨a, i, toks, t, rfl, _⟩ := h
    rfl
  · obtain ⟨a, i, toks, t, rfl, ⟨as, ha, hp⟩, ht, hwf, kS, kE⟩ := h
    obtain ⟨c, hc, hca⟩ := pget2 hp ht
    have hga : (as.map V.ref)[i]? = some (.ref c) := by rw [List.getElem?_map, hc] <;> rfl
    refine ⟨_, rfl, _, rfl, a, _, _, .ref c, rfl, rfl, SqL.of ha, atI_nat hga, c, _, rfl, SqT.of hca, rfl, _, _, rfl, _, _, rfl, rfl, ?_⟩
    refine ⟨_, rfl, by show 2 ≤ sizeLine; decide, fun u hu => ⟨u, _, rfl, .inr (SqT.of upd_same), rfl, rfl, _, rfl, ?_⟩⟩
    by_cases d : isChunk t
    · refine iteF' (Bool.eq_false_iff.mpr fun q => (not_chunk_in hwf).mp q d) ?_
      exact ⟨_, rfl, _, rfl, by show 2 ≤ sizeLine; decide, fun p hp => kS d _ p ((same_upd hu).trans (same_upd hp)) upd_same⟩
    · refine iteT' ((not_chunk_in hwf).mpr d) ?_
      exact ⟨_, rfl, fault_end ((kE d).now (same_upd hu))⟩

/-! ### read_margin -/
abbrev s_read_margin : Stmt := top 50
abbrev N_read_margin : List Str := ["tokens", "at", "place", "chunk"]
theorem sc_read_margin : FnScope N_read_margin ["tokens", "at"] (defScope s_read_margin) := ⟨rfl, rfl, rfl, by decide +kernel, rfl, by decide +kernel, by decide +kernel⟩
def marginOf (t : PTok) : Except Fault Nat := match t.tok with
  | .chunk [b] => if VahypBase.isDigit b = true ∧ b.toNat - 48 ≤ 5 then .ok (b.toNat - 48) else .error ⟨7, t.place⟩
  | .chunk _ => .error ⟨7, t.place⟩
  | _ => .error ⟨3, t.place⟩
def sp_read_margin (C : Addr) : Sp := fun vs H Q E => ∃ (a : Addr) (i : Nat) (toks : Toks) (t : PTok), vs = [.ref a, .int i] ∧ RefsAt TokAt H a toks ∧ toks[i]? = some t ∧ WfTok t ∧
  (∀ m, marginOf t = .ok m → ∀ H', Same H H' → Q (.int (m : Nat)) H') ∧ (∀ f, marginOf t = .error f → FaultE C H E f)
theorem digits_tx : [("0" : Str), "1", "2", "3", "4", "5"] = [tx [48], tx [49], tx [50], tx [51], tx [52], tx [53]] := by decide +kernel
theorem margin_in (b : Bytes) : inV (.str (tx b)) [.str "0", .str "1", .str "2", .str "3", .str "4", .str "5"] = decide (b ∈ ([[48], [49], [50], [51], [52], [53]] : List Bytes)) := by
  have e : inV (.str (tx b)) [.str "0", .str "1", .str "2", .str "3", .str "4", .str "5"] = [("0" : Str), "1", "2", "3", "4", "5"].any fun z => z == tx b := rfl
  rw [e, digits_tx, Bool.eq_iff_iff, decide_eq_true_eq]
  have q : ∀ z : Bytes, (tx z == tx b) = decide (b = z) := fun z => by
    rw [SX.S_beq_eq, Bool.eq_iff_iff, decide_eq_true_eq, decide_eq_true_eq]
    constructor
    · intro h
      exact ((List.map_inj_right (fun x y h => UInt8.toNat_inj.mp h)).mp h).symm
    · intro h
      rw [h]
  simp only [List.any_cons, List.any_nil, q, Bool.or_eq_true, decide_eq_true_eq, List.mem_cons, List.not_mem_nil, Bool.false_eq_true]
theorem margin_is {b : Bytes} (p : Nat) (h : b ∈ ([[48], [49], [50], [51], [52], [53]] : List Bytes)) : ∃ m : Nat, marginOf ⟨p, .chunk b⟩ = .ok m ∧ PySem.intText? (tx b) = some (m : Int) := by
  simp only [List.mem_cons, List.not_mem_nil, or_false] at h
  rcases h with rfl | rfl | rfl | rfl | rfl | rfl
  · exact ⟨0, rfl, by decide +kernel⟩
  · exact ⟨1, rfl, by decide +kernel⟩
  · exact ⟨2, rfl, by decide +kernel⟩
  · exact ⟨3, rfl, by decide +kernel⟩
  · exact ⟨4, rfl, by decide +kernel⟩
  · exact ⟨5, rfl, by decide +kernel⟩
theorem margin_not {b : Bytes} (p : Nat) (h : ¬ b ∈ ([[48], [49], [50], [51], [52], [53]] : List Bytes)) : marginOf ⟨p, .chunk b⟩ = .error ⟨7, p⟩ := by
  match b, h with
  | [], _ => rfl
  | [c], h =>
    show (if VahypBase.isDigit c = true ∧ c.toNat - 48 ≤ 5 then _ else _) = _
    rw [if_neg]
    rintro ⟨h1, h2⟩
    have h3 := of_decide_eq_true h1
    apply h
    have e : c = UInt8.ofNat c.toNat := (UInt8.ofNat_toNat).symm
    have h5 : c.toNat = 48 ∨ c.toNat = 49 ∨ c.toNat = 50 ∨ c.toNat = 51 ∨ c.toNat = 52 ∨ c.toNat = 53 := by omega
    rcases h5 with z | z | z | z | z | z <;> (rw [e, z]; decide)
  | c :: d :: r, _ => rfl
theorem df_read_margin {f : Addr} {fd : FuncData} (F : At K mg "read_margin" s_read_margin ["tokens", "at"] f fd) (T : Txt K mg D) (FO : FaultOk P w K mg base D)
    (c_need_chunk : Df P w K mg base (L2.CX P w) 3 "need_chunk" ["tokens", "at"] (sp_need_chunk D.cF)) : Df P w K mg base (L2.CX P w) 4 "read_margin" ["tokens", "at"] (sp_read_margin D.cF) := by
  refine dfX (N := N_read_margin) F sc_read_margin (fun vs H Q E h => ?_) (fun cdv A outer s H vs Q E hr h => ⟨_, (pss_cons (ps_asg (pe_dX c_need_chunk hr (by decide) rfl (takes_of rfl rfl rfl rfl) (pa_cons (pv 0) (pa_cons (pv 1) pa_nil))) (pg_tup rfl (pgs_cons (pg_name (i := 2) sc_read_margin.nd rfl (Or.inl rfl)) (pgs_cons (pg_name (i := 3) sc_read_margin.nd rfl (Or.inl rfl)) pgs_nil))))
(pss_cons (ps_if (pt_cmpR op_notIn_seq (pv 3) (C8.pe_gc rfl T.c_MARGINS) (by rfl))
(pss_one (ps_raise rfl (takes_of rfl rfl rfl rfl) (pmk_fault T FO hr (by decide) rfl (pa_cons pe_int (pa_cons (pv 2) pa_nil)))))
pss_nil)
(pss_one (ps_ret (pe_callTy call_int_str (by rfl) T.n_int (by decide +kernel) (pa_cons (pv 3) pa_nil)))))), ?_⟩)
  · obtain ⟨a, i, toks, t, rfl, _⟩ := h
    rfl
  · obtain ⟨a, i, toks, ⟨p, k⟩, rfl, hT, ht, hwf, kS, kE⟩ := h
    refine ⟨_, rfl, _, rfl, a, i, toks, ⟨p, k⟩, rfl, hT, ht, hwf, fun hc H1 c e1 hc1 => ?_, fun hc => ?_⟩
    · obtain ⟨b, hb⟩ := hc
      have hb : k = .chunk b := hb
      subst hb
      refine ⟨c, _, rfl, SqT.of hc1, rfl, _, _, rfl, _, _, rfl, rfl, ?_⟩
      refine ⟨_, rfl, D.aM, _, rfl, .inr (T.t_MARGINS _), rfl, rfl, _, rfl, ?_⟩
      show (if (!inV (V.str (tx b)) [.str "0", .str "1", .str "2", .str "3", .str "4", .str "5"]) = true then _ else _)
      rw [margin_in]
      by_cases d : b ∈ ([[48], [49], [50], [51], [52], [53]] : List Bytes)
      · rw [decide_eq_true d]
        obtain ⟨m, h1, h2⟩ := margin_is p d
        refine iteF ⟨_, rfl, _, _, rfl, h2, ?_, kS m h1 H1 e1⟩
        rw [tx_len]
        have z : b.length ≤ 40 := hwf.2.2
        exact Nat.le_trans z (by decide)
      · rw [decide_eq_false d]
        refine iteT ⟨_, rfl, fault_end ((kE _ (margin_not p d)).now e1)⟩
    · refine kE ⟨3, p⟩ ?_
      cases k with
      | chunk b => exact absurd ⟨b, rfl⟩ hc
      | sign c => rfl
      | last => rfl
end
end WG
set_option Elab.async false
set_option linter.all false
set_option maxRecDepth 100000
set_option maxHeartbeats 2000000
namespace WG
open PySem PySem.Spec PyProof.Rows L2
open VahypBase (Bytes PTok Toks Fault)
/-! ### texts -/
theorem dash_tx : ("-" : Str) = SX.S [45] := by decide +kernel
theorem spl_B : ∀ (b : Bytes) (acc : List Nat) (p : Bytes) (ps : List Bytes), WM.splitB b = p :: ps → TL.spl [45] 0 acc (b.map UInt8.toNat) = (acc ++ p.map UInt8.toNat) :: ps.map fun q => q.map UInt8.toNat
  | [], acc, p, ps, h => by
    cases h
    rw [List.map_nil, TL.spl_nil]
    simp
  | c :: r, acc, p, ps, h => by
    unfold WM.splitB at h
    rw [List.map_cons]
    by_cases hc : (c == 45) = true
    · rw [if_pos hc] at h
      injection h with h1 h2
      subst h1
      subst h2
      have e : c = 45 := by simpa using hc
      have hp : TL.pre [45] (c.toNat :: r.map UInt8.toNat) = true := by rw [e]; rfl
      rw [TL.spl_hit hp]
      cases hs : WM.splitB r with
      | nil => exact absurd hs (WM.splitB_ne _)
      | cons p' ps' =>
        have ih := spl_B r [] p' ps' hs
        show (acc :: TL.spl [45] 0 [] (r.map UInt8.toNat)) = _
        rw [ih]
        simp
    · rw [if_neg hc] at h
      cases hs : WM.splitB r with
      | nil => exact absurd hs (WM.splitB_ne _)
      | cons p' ps' =>
        rw [hs] at h
        injection h with h1 h2
        subst h1
        subst h2
        have hn : ¬ c = 45 := by simpa using hc
        have hp : TL.pre [45] (c.toNat :: r.map UInt8.toNat) = false := by
          rw [Bool.eq_false_iff]
          intro z
          have z' : ([c.toNat] == [45]) = true := z
          have z2 : c.toNat = 45 := by simpa using z'
          exact hn (UInt8.toNat_inj.mp z2)
        rw [TL.spl_miss hp, spl_B r (acc ++ [c.toNat]) p' ps' hs]
        simp
theorem split_tx (b : Bytes) : Txt.split (tx b) ("-" : Str) = (WM.splitB b).map tx := by
  rw [dash_tx, SX.split_S (by simp) (by decide)]
  cases hs : WM.splitB b with
  | nil => exact absurd hs (WM.splitB_ne _)
  | cons p ps =>
    rw [spl_B b [] p ps hs, List.nil_append, List.map_cons, List.map_cons, List.map_map]
    rfl
theorem chunk_alpha (c : UInt8) (h : VahypBase.inChunk c = true) : Unicode.isAlpha c.toNat = VahypBase.isLetter c := by
  have z : ∀ n : Fin 256, VahypBase.inChunk (UInt8.ofNat n.val) = true → Unicode.isAlpha n.val = VahypBase.isLetter (UInt8.ofNat n.val) := by decide +kernel
  have q := z ⟨c.toNat, c.toNat_lt⟩
  rw [show UInt8.ofNat (⟨c.toNat, c.toNat_lt⟩ : Fin 256).val = c from UInt8.ofNat_toNat] at q
  exact q h
theorem chunk_digit (c : UInt8) (h : VahypBase.inChunk c = true) : Unicode.isDigit c.toNat = VahypBase.isDigit c := by
  have z : ∀ n : Fin 256, VahypBase.inChunk (UInt8.ofNat n.val) = true → Unicode.isDigit n.val = VahypBase.isDigit (UInt8.ofNat n.val) := by decide +kernel
  have q := z ⟨c.toNat, c.toNat_lt⟩
  rw [show UInt8.ofNat (⟨c.toNat, c.toNat_lt⟩ : Fin 256).val = c from UInt8.ofNat_toNat] at q
  exact q h
theorem all_congr {α : Type} {f g : α → Bool} : ∀ {l : List α}, (∀ x ∈ l, f x = g x) → l.all f = l.all g
  | [], _ => rfl
  | a :: r, h => by
    rw [List.all_cons, List.all_cons, h a List.mem_cons_self, all_congr fun x hx => h x (List.mem_cons_of_mem _ hx)]
theorem cps_all (b : Bytes) (f : Nat → Bool) : (tx b).cps.all f = b.all fun c => f c.toNat := by
  show ((b.map UInt8.toNat).toArray).all f = _
  rw [← Array.all_toList, List.toList_toArray, List.all_map]
  rfl
theorem isalpha_tx {p : Bytes} (h : ∀ c ∈ p, VahypBase.inChunk c = true) : Txt.isalpha (tx p) = WM.alphaB p := by
  unfold Txt.isalpha WM.alphaB
  rw [tx_len, cps_all, all_congr fun c hc => chunk_alpha c (h c hc)]
  congr 1
  cases p with
  | nil => rfl
  | cons a r => simp
theorem split_mem : ∀ (b p : Bytes), p ∈ WM.splitB b → ∀ c ∈ p, c ∈ b
  | [], p, hp, c, hc => by
    have e : p = [] := by simpa [WM.splitB] using hp
    rw [e] at hc
    cases hc
  | a :: r, p, hp, c, hc => by
    unfold WM.splitB at hp
    by_cases ha : (a == 45) = true
    · rw [if_pos ha] at hp
      rcases List.mem_cons.mp hp with z | z
      · rw [z] at hc; cases hc
      · exact List.mem_cons_of_mem _ (split_mem r p z c hc)
    · rw [if_neg ha] at hp
      cases hs : WM.splitB r with
      | nil => exact absurd hs (WM.splitB_ne _)
      | cons p' ps' =>
        rw [hs] at hp
        rcases List.mem_cons.mp hp with z | z
        · rw [z] at hc
          rcases List.mem_cons.mp hc with y | y
          · rw [y]; exact List.mem_cons_self
          · exact List.mem_cons_of_mem _ (split_mem r p' (by rw [hs]; exact List.mem_cons_self) c y)
        · exact List.mem_cons_of_mem _ (split_mem r p (by rw [hs]; exact List.mem_cons_of_mem _ z) c hc)
theorem split_count : ∀ b : Bytes, (WM.splitB b).length ≤ b.length + 1
  | [] => by simp [WM.splitB]
  | a :: r => by
    have ih := split_count r
    unfold WM.splitB
    split
    · rw [List.length_cons, List.length_cons]; omega
    · split
      · rename_i p ps hs
        rw [hs, List.length_cons] at ih
        rw [List.length_cons, List.length_cons]
        omega
      · simp
theorem split_flat : ∀ b : Bytes, (WM.splitB b).flatten.length ≤ b.length
  | [] => by simp [WM.splitB]
  | a :: r => by
    have ih := split_flat r
    unfold WM.splitB
    split
    · rw [List.flatten_cons, List.nil_append, List.length_cons]; omega
    · split
      · rename_i p ps hs
        rw [hs, List.flatten_cons, List.length_append] at ih
        rw [List.flatten_cons, List.length_append, List.length_cons, List.length_cons]
        omega
      · simp
/-! ### Word, WordList -/
structure Mka (P : Program) (w : World) (K : PySem.W.Frag) (mg : Str → Option Value) (base : Heap) (k : Nat) (x : Str) (C : Addr) (ps : List Str) (sp : Sp) : Prop where
  ex : ∃ (f : Addr) (fd : FuncData), Mk K C f ∧ FnOk P w K mg base CX0 k f fd ps sp ∧ mg x = some (.ref C) ∧ Binds K fd ps []
theorem pe_mk1 {X : Cx} {k j : Nat} {x : Str} {C : Addr} {ps : List Str} {sp : Sp} {p pos : Pos} {e : Expr} {es : List Expr} {t : TA} (c : Mka X.prog X.w X.K X.mg X.base k x C ps sp) (hr : Room j X.A) (hk : k + 1 ≤ j) (hg : Gl X x) (ha : PA X (e :: es) t)
    (hdb : (x == ("__debug__" : Str)) = false := by decide) (he : starEach (e :: es) X.env = (false, eval e X.env) :: starEach es X.env := by rfl) (hpl : (backTo pos (starEach es X.env)).any (·.1) = false := by rfl) :
    PE X (.Call (.Name x p) (e :: es) [] pos) (tMake C sp [] E0 t) := by
  obtain ⟨f, fd, M, F, hm, b⟩ := c.ex
  exact pe_make M F (hr.mono hk) hg hm b .nil pass0 ha hdb he hpl
theorem pe_mk0 {X : Cx} {k j : Nat} {x : Str} {C : Addr} {ps : List Str} {sp : Sp} {p pos : Pos} (c : Mka X.prog X.w X.K X.mg X.base k x C ps sp) (hr : Room j X.A) (hk : k + 1 ≤ j) (hg : Gl X x)
    (hdb : (x == ("__debug__" : Str)) = false := by decide) :
    PE X (.Call (.Name x p) [] [] pos) (tMake C sp [] E0 tNil) := by
  obtain ⟨f, fd, M, F, hm, b⟩ := c.ex
  exact pe_make0 M F (hr.mono hk) hg hm b .nil pass0 hdb
section
variable {P : Program} {w : World} {K : PySem.W.Frag} {mg : Str → Option Value} {base : Heap} {D : Ads}
theorem put_here {f : Str} {v x : V} {r : List (Str × V)} : putF f v ((f, x) :: r) = (f, v) :: r := if_pos rfl
theorem put_past {f g : Str} {v x : V} {r : List (Str × V)} (h : ¬ g = f) : putF f v ((g, x) :: r) = (g, x) :: putF f v r := if_neg h
abbrev s_Word_init : Stmt := inClass (top 45) 0
abbrev N_Word_init : List Str := ["self", "letters", "breaks"]
theorem sc_Word_init : FnScope N_Word_init ["self", "letters", "breaks"] (defScope s_Word_init) := ⟨rfl, rfl, rfl, by decide +kernel, rfl, by decide +kernel, by decide +kernel⟩
def sp_Word_init (C : Addr) : Sp := fun vs H Q _ => ∃ (a dx bl : Addr) (x : Bytes), vs = [.ref a, .str (tx x), .ref bl] ∧ H a = some (.ins C dx []) ∧
  ∀ H', H' a = some (.ins C dx (fW x bl)) → (∀ b, b ≠ a → H' b = H b) → Q .non H'
theorem ok_Word_init {f : Addr} {fd : FuncData} (F : Fun K "__init__" "Word.__init__" s_Word_init f fd) (T : Txt K mg D) : FnOk P w K mg base CX0 1 f fd ["self", "letters", "breaks"] (sp_Word_init D.cW) := by
  refine F.ok sc_Word_init (fun vs H Q E h => ?_) (fun cdv A outer s H vs Q E hr h => ⟨_, (pss_cons (ps_fld (pv 0) (pv 1) rfl)
(pss_one (ps_fld (pv 0) (pv 2) rfl))), ?_⟩)
  · obtain ⟨a, dx, bl, x, rfl, _⟩ := h
    rfl
  · obtain ⟨a, dx, bl, x, rfl, ha, k⟩ := h
    refine ⟨_, rfl, _, rfl, a, D.cW, dx, _, rfl, ha, T.kW, T.wL, by show 0 < 1000; decide, ?_⟩
    refine ⟨_, rfl, _, rfl, a, D.cW, dx, _, rfl, upd_same, T.kW, T.wB, by show 1 < 1000; decide, ?_⟩
    refine k _ ?_ fun b hb => by rw [upd_ne hb, upd_ne hb]
    rw [upd_same]
    have e : putF "breaks" (.ref bl) (putF "letters" (.str (tx x)) []) = fW x bl := put_past (by decide +kernel)
    exact congrArg (fun q => some (HO.ins D.cW dx q)) e
abbrev s_WordList_init : Stmt := inClass (top 46) 0
abbrev N_WordList_init : List Str := ["self", "left", "right", "words", "patterns"]
theorem sc_WordList_init : FnScope N_WordList_init ["self", "left", "right", "words", "patterns"] (defScope s_WordList_init) := ⟨rfl, rfl, rfl, by decide +kernel, rfl, by decide +kernel, by decide +kernel⟩
def sp_WordList_init (C : Addr) : Sp := fun vs H Q _ => ∃ (a dx wl pl : Addr) (l r : Nat), vs = [.ref a, .int l, .int r, .ref wl, .ref pl] ∧ H a = some (.ins C dx []) ∧
  ∀ H', H' a = some (.ins C dx (fL l r wl pl)) → (∀ b, b ≠ a → H' b = H b) → Q .non H'
theorem ok_WordList_init {f : Addr} {fd : FuncData} (F : Fun K "__init__" "WordList.__init__" s_WordList_init f fd) (T : Txt K mg D) : FnOk P w K mg base CX0 1 f fd ["self", "left", "right", "words", "patterns"] (sp_WordList_init D.cL) := by
  refine F.ok sc_WordList_init (fun vs H Q E h => ?_) (fun cdv A outer s H vs Q E hr h => ⟨_, (pss_cons (ps_fld (pv 0) (pv 1) rfl)
(pss_cons (ps_fld (pv 0) (pv 2) rfl)
(pss_cons (ps_fld (pv 0) (pv 3) rfl)
(pss_one (ps_fld (pv 0) (pv 4) rfl))))), ?_⟩)
  · obtain ⟨a, dx, wl, pl, l, r, rfl, _⟩ := h
    rfl
  · obtain ⟨a, dx, wl, pl, l, r, rfl, ha, k⟩ := h
    refine ⟨_, rfl, _, rfl, a, D.cL, dx, _, rfl, ha, T.kL, T.lL, by show 0 < 1000; decide, ?_⟩
    refine ⟨_, rfl, _, rfl, a, D.cL, dx, _, rfl, upd_same, T.kL, T.lR, by show 1 < 1000; decide, ?_⟩
    refine ⟨_, rfl, _, rfl, a, D.cL, dx, _, rfl, upd_same, T.kL, T.lW, by show 2 < 1000; decide, ?_⟩
    refine ⟨_, rfl, _, rfl, a, D.cL, dx, _, rfl, upd_same, T.kL, T.lP, by show 3 < 1000; decide, ?_⟩
    refine k _ ?_ fun b hb => by rw [upd_ne hb, upd_ne hb, upd_ne hb, upd_ne hb]
    rw [upd_same]
    have e : putF "patterns" (.ref pl) (putF "words" (.ref wl) (putF "right" (.int r) (putF "left" (.int l) []))) = fL l r wl pl := by
      have h1 : putF "left" (.int l) [] = [(("left" : Str), V.int l)] := rfl
      have h2 : putF "right" (.int r) [(("left" : Str), V.int l)] = [(("left" : Str), V.int l), ("right", .int r)] := put_past (by decide +kernel)
      have h3 : putF "words" (.ref wl) [(("left" : Str), V.int l), ("right", .int r)] = [(("left" : Str), V.int l), ("right", .int r), ("words", .ref wl)] := (put_past (by decide +kernel)).trans (congrArg _ (put_past (by decide +kernel)))
      have h4 : putF "patterns" (.ref pl) [(("left" : Str), V.int l), ("right", .int r), ("words", .ref wl)] = fL l r wl pl := (put_past (by decide +kernel)).trans (congrArg _ ((put_past (by decide +kernel)).trans (congrArg _ (put_past (by decide +kernel)))))
      rw [h1, h2, h3, h4]
    exact congrArg (fun q => some (HO.ins D.cL dx q)) e
end
end WG
set_option Elab.async false
set_option linter.all false
set_option maxRecDepth 100000
set_option maxHeartbeats 2000000
namespace WG
open PySem PySem.Spec PyProof.Rows L2
open VahypBase (Bytes PTok Toks Fault)
theorem endsOf_snoc : ∀ (ps : List Bytes) (n : Nat) (q : Bytes), WM.endsOf n (ps ++ [q]) = WM.endsOf n ps ++ [n + ps.flatten.length + q.length]
  | [], n, q => by simp [WM.endsOf]
  | p :: ps, n, q => by
    have ih := endsOf_snoc ps (n + p.length) q
    show (n + p.length) :: WM.endsOf (n + p.length) (ps ++ [q]) = (n + p.length) :: WM.endsOf (n + p.length) ps ++ _
    rw [ih, List.flatten_cons, List.length_append, List.cons_append]
    congr 3
    omega
theorem endsOf_len : ∀ (ps : List Bytes) (n : Nat), (WM.endsOf n ps).length = ps.length
  | [], _ => rfl
  | p :: ps, n => by
    show (WM.endsOf (n + p.length) ps).length + 1 = ps.length + 1
    rw [endsOf_len ps]
theorem mem_flat_len : ∀ (ps : List Bytes) (p : Bytes), p ∈ ps → p.length ≤ ps.flatten.length
  | q :: r, p, h => by
    rw [List.flatten_cons, List.length_append]
    rcases List.mem_cons.mp h with z | z
    · rw [z]; omega
    · have := mem_flat_len r p z; omega
theorem cutV_last (xs : List V) : cutV xs none (some (-1)) = xs.dropLast := by
  unfold cutV
  rw [HT.sIx_none]
  have e : HT.sIx xs.length xs.length (some (-1)) = xs.length - 1 := by
    show (if (-1 : Int) < 0 then ((-1 : Int) + (xs.length : Int)).toNat else min (-1 : Int).toNat xs.length) = _
    rw [if_pos (by decide)]
    omega
  rw [e, List.drop_zero, Nat.sub_zero, List.dropLast_eq_take]
section
variable {P : Program} {w : World} {K : PySem.W.Frag} {mg : Str → Option Value} {base : Heap} {D : Ads}
abbrev s_parse_word : Stmt := top 52
abbrev N_parse_word : List Str := ["chunk", "parts", "letters", "ends", "before", "part"]
theorem sc_parse_word : FnScope N_parse_word ["chunk"] (defScope s_parse_word) := ⟨rfl, rfl, rfl, by decide +kernel, rfl, by decide +kernel, by decide +kernel⟩
def WordNew (C : Addr) (H H' : Hp) (a : Addr) (w : Vahypa.Word) : Prop := ∃ dx bl, H' a = some (.ins C dx (fW w.x bl)) ∧ H' bl = some (.lst (nv w.cuts)) ∧ H bl = none
theorem WordNew.at {C : Addr} {H H' : Hp} {a : Addr} {w : Vahypa.Word} (h : WordNew C H H' a w) : WordAt C H' a w := let ⟨dx, bl, h1, h2, _⟩ := h; ⟨dx, bl, h1, h2⟩
theorem WordNew.mono {C : Addr} {H0 H H' H2 : Hp} {a : Addr} {w : Vahypa.Word} (h : WordNew C H H' a w) (e0 : Same H0 H) (e : Same H' H2) : WordNew C H0 H2 a w := let ⟨dx, bl, h1, h2, h3⟩ := h; ⟨dx, bl, e _ _ h1, e _ _ h2, e0.free h3⟩
def sp_parse_word (C : Addr) : Sp := fun vs H Q _ => ∃ (b : Bytes), vs = [.str (tx b)] ∧ (∀ c ∈ b, VahypBase.inChunk c = true) ∧ b.length ≤ 40 ∧
  (∀ wd, WM.wordP b = some wd → ∀ H' a, Same H H' → WordNew C H H' a wd → Q (.ref a) H') ∧ (WM.wordP b = none → ∀ H', Same H H' → Q .non H')
theorem df_parse_word {f : Addr} {fd : FuncData} (F : At K mg "parse_word" s_parse_word ["chunk"] f fd) (T : Txt K mg D)
    (m_Word : Mka P w K mg base 1 "Word" D.cW ["self", "letters", "breaks"] (sp_Word_init D.cW)) : Df P w K mg base CX0 3 "parse_word" ["chunk"] (sp_parse_word D.cW) := by
  refine df0 (N := N_parse_word) F sc_parse_word (fun vs H Q E h => ?_) (fun cdv A outer s H vs Q E hr h => ⟨_, (pss_cons (ps_set (i := 1) sc_parse_word.nd rfl (Or.inl rfl) (pe_split (pv 0) pe_str))
(pss_cons (ps_set (i := 2) sc_parse_word.nd rfl (Or.inl rfl) (pe_join pe_str (pv 1)))
(pss_cons (ps_if (pt_not (pt_chain op_le op_le pe_int (pe_callB call_len_str (by rfl) T.n_len (by decide +kernel) (pa_cons (pv 2) pa_nil)) pe_int))
(pss_one (ps_ret pe_non))
pss_nil)
(pss_cons (ps_set (i := 3) sc_parse_word.nd rfl (Or.inl rfl) (pe_lst pa_nil))
(pss_cons (ps_set (i := 4) sc_parse_word.nd rfl (Or.inl rfl) pe_int)
(pss_cons (ps_for PassesOwn.never rfl (pi_list (pv 1)) (pg_name (i := 5) sc_parse_word.nd rfl (Or.inl rfl))
(pss_cons (ps_if (pt_not (pt_val (pe_m0 PySem.F.slot_str_isalpha PySem.F.type_str_isalpha mt_isalpha (pv 5))))
(pss_one (ps_ret pe_non))
pss_nil)
(pss_cons (ps_aug (i := 4) sc_parse_word.nd rfl (Or.inl rfl) (pe_callB call_len_str (by rfl) T.n_len (by decide +kernel) (pa_cons (pv 5) pa_nil)) ip_add)
(pss_one (ps_expr (pe_bm PySem.F.plainAttrs_list PySem.F.slot_list_append PySem.F.type_list_append mt_append (pv 3) (pa_cons (pv 4) pa_nil)))))))
(pss_one (ps_ret (pe_mk1 m_Word hr (by decide) rfl (pa_cons (pv 2) (pa_cons (pe_slice sl_list (pv 3) po_none (po_some (pe_un un_neg pe_int))) pa_nil))))))))))), ?_⟩)
  · obtain ⟨b, rfl, _⟩ := h
    rfl
  · obtain ⟨b, rfl, hch, hbl, kS, kN⟩ := h
    have hz : (tx b).length + 2 ≤ sizeLine := by
      rw [tx_len]
      exact Nat.le_trans (by omega : b.length + 2 ≤ 100) (by decide)
    refine ⟨_, rfl, ⟨_, rfl⟩, _, _, rfl, rfl, by decide +kernel, hz, fun l hl => ?_⟩
    rw [split_tx]
    have e0 : Same H (upd H l (.lst (((WM.splitB b).map tx).map V.str))) := same_upd hl
    have hcount := split_count b
    have hflat := split_flat b
    refine ⟨⟨_, rfl⟩, _, rfl, _, l, (WM.splitB b).map tx, rfl, rfl, .inl (SqL.of upd_same), ?_, ?_⟩
    · have z3 : ("" : Str).length = 0 := rfl
      rw [len_sum, z3, Nat.mul_zero]
      omega
    have ej : Txt.join ("" : Str) ((WM.splitB b).map tx) = tx (WM.splitB b).flatten := join_tx _
    rw [ej]
    have hzl : (tx (WM.splitB b).flatten).length ≤ sizeLine := by
      rw [tx_len]
      exact Nat.le_trans (by omega : _ ≤ 100) (by decide)
    dsimp only [gName, tSeq, tIfS, tNot]
    refine chain_le (v := (((tx (WM.splitB b).flatten).length : Nat) : Int)) (fun _ h => ⟨_, rfl, _, rfl, hzl, h⟩) ?_
    rw [tx_len]
    by_cases hlen : 2 ≤ (WM.splitB b).flatten.length ∧ (WM.splitB b).flatten.length ≤ 16
    · refine iteF' (by rw [decide_eq_true (by omega)]; rfl) ?_
      have ewp : WM.wordP b = if (WM.splitB b).all WM.alphaB = true then some ⟨(WM.splitB b).flatten, (WM.endsOf 0 (WM.splitB b)).dropLast⟩ else none := if_pos hlen
      refine ⟨by show 0 ≤ sizeLine; exact Nat.zero_le _, fun n hn => ?_⟩
      have nnl : l ≠ n := fun z => by rw [← z, upd_same] at hn; cases hn
      have hnH : H n = none := by rw [upd_ne (Ne.symm nnl)] at hn; exact hn
      have hl1 : upd (upd H l (.lst (((WM.splitB b).map tx).map V.str))) n (.lst []) l = some (.lst (((WM.splitB b).map tx).map V.str)) := (upd_ne nnl).trans upd_same
      refine ⟨_, rfl, l, rfl, ⟨_, SqL.of hl1⟩, ?_⟩
      refine for_it (walk_list (K := K) (a := l) (xs := ((WM.splitB b).map tx).map V.str)) (fun i σ H' => ∃ v5, σ = [some (.str (tx b)), some (.ref l), some (.str (tx (WM.splitB b).flatten)), some (.ref n), some (.int ((((WM.splitB b).take i).flatten.length : Nat) : Int)), v5] ∧ Same H H' ∧ H' l = some (.lst (((WM.splitB b).map tx).map V.str)) ∧ H' n = some (.lst (nv (WM.endsOf 0 ((WM.splitB b).take i)))) ∧ ((WM.splitB b).take i).all WM.alphaB = true) ?_ ?_ ?_ ?_
      · exact ⟨none, rfl, e0.trans (same_upd hn), hl1, upd_same, rfl⟩
      · rintro i σ H' _ ⟨_, _, _, h, _⟩
        exact SqL.of h
      · rintro i x σ H1 H2 hi ⟨v5, rfl, e1, hl2, hn2, hall⟩ ⟨rfl, hx⟩
        have hi' : i < (WM.splitB b).length := by simpa using hi
        obtain ⟨p, hp, rfl⟩ : ∃ p, (WM.splitB b)[i]? = some p ∧ x = V.str (tx p) := by
          rw [List.getElem?_map, List.getElem?_map, List.getElem?_eq_getElem hi'] at hx
          exact ⟨_, List.getElem?_eq_getElem hi', (Option.some.inj hx).symm⟩
        have hpm := List.mem_of_getElem? hp
        have hpc : ∀ c ∈ p, VahypBase.inChunk c = true := fun c hc => hch c (split_mem b p hpm c hc)
        have hpl : p.length ≤ 40 := by
          have z : p.length ≤ (WM.splitB b).flatten.length := mem_flat_len _ p hpm
          omega
        have hzp : (tx p).length ≤ sizeLine := by rw [tx_len]; exact Nat.le_trans hpl (by decide)
        refine ⟨_, rfl, ⟨_, rfl⟩, _, rfl, rfl, trivial, _, rfl, ?_⟩
        rw [isalpha_tx hpc]
        cases hap : WM.alphaB p with
        | true =>
          refine iteF ⟨_, rfl, _, rfl, _, rfl, hzp, _, _, rfl, rfl, ?_⟩
          refine ⟨_, rfl, .inl ⟨rfl, _, SqL.of hn2⟩, _, rfl, n, _, _, rfl, rfl, hn2, ?_, ?_⟩
          · unfold nv
            rw [List.length_map, endsOf_len, List.length_take]
            exact Nat.lt_of_le_of_lt (by omega : _ ≤ 100) (by decide)
          · have et : (WM.splitB b).take (i + 1) = (WM.splitB b).take i ++ [p] := take_more hp
            have eb : ((((WM.splitB b).take i).flatten.length : Nat) : Int) + (((tx p).length : Nat) : Int) = ((((WM.splitB b).take (i + 1)).flatten.length : Nat) : Int) := by
              rw [et, tx_len, List.flatten_append, List.length_append]
              simp
            refine ⟨_, congrArg (fun z => [some (V.str (tx b)), some (.ref l), some (.str (tx (WM.splitB b).flatten)), some (.ref n), some (.int z), some (.str (tx p))]) eb, fun c o hc => ?_, (upd_ne nnl).trans hl2, ?_, ?_⟩
            · rw [upd_ne (ne_of_none hc hnH)]
              exact e1 _ _ hc
            · rw [upd_same, et, endsOf_snoc]
              unfold nv
              rw [List.map_append, Nat.zero_add]
              show some (HO.lst (_ ++ [V.int (((((WM.splitB b).take i).flatten.length : Nat) : Int) + (((tx p).length : Nat) : Int))])) = _
              rw [tx_len]
              rfl
            · rw [et, List.all_append, hall]
              simp [hap]
        | false =>
          have e : WM.wordP b = none := by
            rw [ewp, if_neg]
            intro z
            rw [List.all_eq_true.mp z p hpm] at hap
            cases hap
          exact iteT (kN e _ e1)
      · rintro σ H1 ⟨v5, rfl, e1, hl2, hn2, hall⟩
        have el : (((WM.splitB b).map tx).map V.str).length = (WM.splitB b).length := by rw [List.length_map, List.length_map]
        rw [el, List.take_length] at hall hn2
        have e : WM.wordP b = some ⟨(WM.splitB b).flatten, (WM.endsOf 0 (WM.splitB b)).dropLast⟩ := by rw [ewp, if_pos hall]
        refine ⟨_, rfl, _, rfl, _, rfl, _, rfl, n, _, rfl, SqL.of hn2, fun m hm => ?_⟩
        rw [cutV_last]
        intro x dx hx hdx hne
        have hmx : m ≠ x := fun z => by rw [← z, upd_same] at hx; cases hx
        have hmd : m ≠ dx := fun z => by rw [← z, upd_same] at hdx; cases hdx
        have hxH : H1 x = none := by rw [upd_ne (Ne.symm hmx)] at hx; exact hx
        have hdxH : H1 dx = none := by rw [upd_ne (Ne.symm hmd)] at hdx; exact hdx
        refine ⟨x, dx, m, (WM.splitB b).flatten, rfl, upd_same, fun H2 h1 h2 => ⟨rfl, kS _ e H2 x (fun c o hc => ?_) ⟨dx, m, h1, ?_, e1.free hm⟩⟩⟩
        · have q := e1 _ _ hc
          rw [h2 c (ne_of_none q hxH), upd_ne (ne_of_none q hxH), upd_ne (ne_of_none q hdxH), upd_ne (ne_of_none q hm)]
          exact q
        · rw [h2 m hmx, upd_ne hmx, upd_ne hmd, upd_same]
          unfold nv
          rw [List.map_dropLast]
    · refine iteT' (by rw [decide_eq_false (by omega)]; rfl) ?_
      have e : WM.wordP b = none := if_neg hlen
      exact kN e _ e0
end
end WG
set_option Elab.async false
set_option linter.all false
set_option maxRecDepth 100000
set_option maxHeartbeats 2000000
namespace WG
open PySem PySem.Spec PyProof.Rows L2
open VahypBase (Bytes PTok Toks Fault)
theorem hu65 {A : Around} {k : Nat} (hr : Room k A) : A.units + 65 < cLine := by
  have := hr.un
  omega
def svs (xs : List Bytes) : List V := xs.map fun x => V.str (tx x)
theorem flat_svs (xs : List Bytes) : (svs xs).all flatV = true := by
  rw [List.all_eq_true]
  intro x hx
  obtain ⟨n, _, rfl⟩ := List.mem_map.mp hx
  rfl
theorem in_svs (x : Bytes) : ∀ xs : List Bytes, inV (.str (tx x)) (svs xs) = xs.any fun v => v == x
  | [] => rfl
  | a :: r => by
    have ih := in_svs x r
    show (eqV (.str (tx a)) (.str (tx x)) || inV (.str (tx x)) (svs r)) = ((a == x) || r.any fun v => v == x)
    rw [ih]
    congr 1
    show (tx a == tx x) = (a == x)
    rw [SX.S_beq_eq, Bool.eq_iff_iff, decide_eq_true_eq, beq_iff_eq]
    exact List.map_inj_right (fun x y h => UInt8.toNat_inj.mp h)
theorem word_tx : ("word" : Str) = tx (VahypBase.word "word") := by decide +kernel
theorem pattern_tx : ("pattern" : Str) = tx (VahypBase.word "pattern") := by decide +kernel
theorem margins_tx : ("margins" : Str) = tx (VahypBase.word "margins") := by decide +kernel
section
variable {P : Program} {w : World} {K : PySem.W.Frag} {mg : Str → Option Value} {base : Heap} {D : Ads}
abbrev s_read_word : Stmt := top 51
abbrev N_read_word : List Str := ["tokens", "at", "earlier", "place", "chunk", "word", "other"]
theorem sc_read_word : FnScope N_read_word ["tokens", "at", "earlier"] (defScope s_read_word) := ⟨rfl, rfl, rfl, by decide +kernel, rfl, by decide +kernel, by decide +kernel⟩
def wordStep (ws : List Vahypa.Word) (t0 t : PTok) : Except Fault Vahypa.Word := if 24 ≤ ws.length then .error ⟨4, t0.place⟩ else match t.tok with
  | .chunk b => (match WM.wordP b with
    | none => .error ⟨7, t.place⟩
    | some w => if ws.any (fun v => v.x == w.x) = true then .error ⟨5, t.place⟩ else .ok w)
  | _ => .error ⟨3, t.place⟩
def sp_read_word (D : Ads) : Sp := fun vs H Q E => ∃ (a e : Addr) (i : Nat) (toks : Toks) (t0 t : PTok) (ws : List Vahypa.Word), vs = [.ref a, .int i, .ref e] ∧ RefsAt TokAt H a toks ∧ toks[i]? = some t0 ∧ toks[i + 1]? = some t ∧ WfTok t ∧
  RefsAt (WordAt D.cW) H e ws ∧ ws.length ≤ 24 ∧
  (∀ wd, wordStep ws t0 t = .ok wd → ∀ H' p, Same H H' → WordNew D.cW H H' p wd → Q (.ref p) H') ∧ (∀ f, wordStep ws t0 t = .error f → FaultE D.cF H E f)
theorem df_read_word {f : Addr} {fd : FuncData} (F : At K mg "read_word" s_read_word ["tokens", "at", "earlier"] f fd) (T : Txt K mg D) (FO : FaultOk P w K mg base D)
    (c_need_chunk : Df P w K mg base (L2.CX P w) 3 "need_chunk" ["tokens", "at"] (sp_need_chunk D.cF)) (c_parse_word : Df P w K mg base CX0 3 "parse_word" ["chunk"] (sp_parse_word D.cW)) :
    Df P w K mg base (L2.CX P w) 4 "read_word" ["tokens", "at", "earlier"] (sp_read_word D) := by
  refine dfX (N := N_read_word) F sc_read_word (fun vs H Q E h => ?_) (fun cdv A outer s H vs Q E hr h => ⟨_, (pss_cons (ps_if (pt_cmpR op_eq (pe_callB call_len_seq (by rfl) T.n_len (by decide +kernel) (pa_cons (pv 2) pa_nil)) (C8.pe_gc rfl T.c_MOST_WORDS) (nomark _))
(pss_one (ps_raise rfl (takes_of rfl rfl rfl rfl) (pmk_fault T FO hr (by decide) rfl (pa_cons pe_int (pa_cons (pe_ix ix_tup (pe_ix ix_list (pv 0) (pv 1) (fun _ _ => rfl)) pe_int (fun _ _ => rfl)) pa_nil)))))
pss_nil)
(pss_cons (ps_asg (pe_dX c_need_chunk hr (by decide) rfl (takes_of rfl rfl rfl rfl) (pa_cons (pv 0) (pa_cons (pe_op op_add (pv 1) pe_int) pa_nil))) (pg_tup rfl (pgs_cons (pg_name (i := 3) sc_read_word.nd rfl (Or.inl rfl)) (pgs_cons (pg_name (i := 4) sc_read_word.nd rfl (Or.inl rfl)) pgs_nil))))
(pss_cons (ps_set (i := 5) sc_read_word.nd rfl (Or.inl rfl) (pe_d0 c_parse_word hr (by decide) rfl (pa_cons (pv 4) pa_nil)))
(pss_cons (ps_if (pt_cmpR op_isN (pv 5) pe_non (nomark _))
(pss_one (ps_raise rfl (takes_of rfl rfl rfl rfl) (pmk_fault T FO hr (by decide) rfl (pa_cons pe_int (pa_cons (pv 3) pa_nil)))))
pss_nil)
(pss_cons (ps_if (pt_cmpR op_in_seq (pe_fld (pv 5) rfl) (pe_lc (own := [("other", 6)]) (te := tFld K (tVar 6) "letters") rfl sc_read_word.nd (pi_list (pv 2)) (blkOk_by (own := [("other", 6)]) (N := N_read_word) (sc := defScope s_read_word) (by decide +kernel)) (fun _ _ _ _ _ => (pg_name (i := 6) sc_read_word.nd rfl (Or.inl rfl))) (fun _ _ _ _ _ => pts_nil) (fun _ _ _ _ _ => (pe_fld (pv 6) rfl))) (by rfl))
(pss_one (ps_raise rfl (takes_of rfl rfl rfl rfl) (pmk_fault T FO hr (by decide) rfl (pa_cons pe_int (pa_cons (pv 3) pa_nil)))))
pss_nil)
(pss_one (ps_ret (pv 5)))))))), ?_⟩)
  · obtain ⟨a, e, i, toks, t0, t, ws, rfl, _⟩ := h
    rfl
  · obtain ⟨a, e, i, toks, t0, t, ws, rfl, hT, ht0, ht, hwf, hW, hwl, kS, kE⟩ := h
    obtain ⟨as, ha, hp⟩ := id hT
    obtain ⟨c0, hc0, hca0⟩ := pget2 hp ht0
    have hga : (as.map V.ref)[i]? = some (.ref c0) := by rw [List.getElem?_map, hc0] <;> rfl
    obtain ⟨es, hes, hep⟩ := id hW
    have hel : es.length = ws.length := hep.length
    refine ⟨_, rfl, e, _, rfl, .inl (SqL.of hes), rfl, _, rfl, ?_⟩
    rw [List.length_map, hel]
    by_cases h24 : 24 ≤ ws.length
    · have e24 : ws.length = 24 := by omega
      refine iteT' (decide_eq_true (by rw [e24]; rfl)) ?_
      exact ⟨_, rfl, _, rfl, a, _, _, .ref c0, rfl, rfl, SqL.of ha, atI_nat hga, c0, _, 0, _, rfl, rfl, SqT.of hca0, rfl, fault_end ((kE _ (if_pos h24)).now (Same.refl H))⟩
    have hne : ¬ V.int ((ws.length : Nat) : Int) = V.int (24 : Int) := by rw [int_iff]; omega
    refine iteF' (decide_eq_false hne) ?_
    have estep : wordStep ws t0 t = match t.tok with
      | .chunk b => (match WM.wordP b with
        | none => .error ⟨7, t.place⟩
        | some w => if ws.any (fun v => v.x == w.x) = true then .error ⟨5, t.place⟩ else .ok w)
      | _ => .error ⟨3, t.place⟩ := if_neg h24
    refine ⟨_, rfl, _, rfl, _, _, rfl, rfl, a, i + 1, toks, t, rfl, hT, ht, hwf, fun hc H1 c e1 hc1 => ?_, fun hc => ?_⟩
    · obtain ⟨b, hb⟩ := hc
      obtain ⟨pl, k⟩ := t
      have hb : k = .chunk b := hb
      subst hb
      have hbc : ∀ c ∈ b, VahypBase.inChunk c = true := fun c hc => List.all_eq_true.mp hwf.2.1 c hc
      refine ⟨c, _, rfl, SqT.of hc1, rfl, _, _, rfl, _, _, rfl, rfl, ?_⟩
      refine ⟨_, rfl, b, rfl, hbc, hwf.2.2, fun wd hwd H2 q e2 hq => ?_, fun hn H2 e2 => ?_⟩
      · have e12 := e1.trans e2
        refine ⟨_, rfl, rfl, _, rfl, iteF' (decide_eq_false (fun z => by cases z)) ?_⟩
        obtain ⟨dq, bq, hq1, hq2, hq3⟩ := id hq
        refine ⟨_, rfl, q, D.cW, dq, _, _, rfl, hq1, T.kW, T.wL, fW_letters _ _, ?_⟩
        refine ⟨_, rfl, e, rfl, ⟨_, SqL.of (e12 _ _ hes)⟩, fun O hO => ?_⟩
        refine lc_it (walk_list (K := K) (a := e) (xs := es.map V.ref)) (fun j H' => Same H2 H' ∧ H' O = some (.lst (svs ((ws.take j).map fun v => v.x)))) ⟨same_upd hO, upd_same⟩ ?_ ?_ ?_
        · rintro j H' _ ⟨e3, _⟩
          exact SqL.of (e3 _ _ (e12 _ _ hes))
        · rintro j x H3 H4 hj ⟨e3, h3⟩ ⟨rfl, hx⟩
          obtain ⟨wa, hwa, rfl⟩ := refs_get hx
          obtain ⟨wv, hwv, dv, bv, hv1, hv2⟩ := pget hep hwa
          have hj' : j < ws.length := (List.getElem?_eq_some_iff.mp hwv).1
          refine ⟨rfl, ?_⟩
          refine ⟨_, rfl, wa, D.cW, dv, _, _, rfl, e3 _ _ (e12 _ _ hv1), T.kW, T.wL, fW_letters _ _, _, h3, ?_, fun b' o hb' => ?_, ?_⟩
          · unfold svs
            rw [List.length_map, List.length_map, List.length_take]
            exact Nat.lt_of_le_of_lt (by omega : _ ≤ 100) (by decide)
          · rw [upd_ne (ne_of_none hb' hO)]
            exact e3 _ _ hb'
          · rw [upd_same, take_more hwv, List.map_append]
            unfold svs
            rw [List.map_append]
            rfl
        · rintro H3 ⟨e3, h3⟩
          rw [List.length_map, hel, List.take_length] at h3
          refine ⟨O, _, rfl, .inl (SqL.of h3), rfl, flat_svs _, _, rfl, ?_⟩
          show (if inV (V.str (tx wd.x)) (svs (ws.map fun v => v.x)) = true then _ else _)
          rw [in_svs, List.any_map]
          have es2 : wordStep ws t0 ⟨pl, .chunk b⟩ = if ws.any (fun v => v.x == wd.x) = true then .error ⟨5, pl⟩ else .ok wd := by
            rw [estep]
            show (match WM.wordP b with
              | none => _
              | some w => _) = _
            rw [hwd]
          by_cases hd : ws.any (fun v => v.x == wd.x) = true
          · rw [if_pos hd] at es2
            exact iteT' hd ⟨_, rfl, fault_end ((kE _ es2).now (e12.trans e3))⟩
          · rw [if_neg hd] at es2
            exact iteF' (Bool.eq_false_iff.mpr hd) ⟨_, rfl, kS wd es2 H3 q (e12.trans e3) (hq.mono e1 e3)⟩
      · refine ⟨_, rfl, rfl, _, rfl, iteT' (decide_eq_true rfl) ⟨_, rfl, fault_end ((kE ⟨7, pl⟩ ?_).now (e1.trans e2))⟩⟩
        rw [estep]
        show (match WM.wordP b with
          | none => _
          | some w => _) = _
        rw [hn]
    · refine kE ⟨3, t.place⟩ ?_
      rw [estep]
      cases hk : t.tok with
      | chunk b => exact absurd ⟨b, hk⟩ hc
      | sign c => rfl
      | last => rfl
end
end WG
set_option Elab.async false
set_option linter.all false
set_option maxRecDepth 100000
set_option maxHeartbeats 2000000
namespace WG
open PySem PySem.Spec PyProof.Rows L2
open VahypBase (Bytes PTok Toks Fault)
theorem dot_tx : ("." : Str) = SX.S [46] := by decide +kernel
theorem tx_at {l : Bytes} {i : Nat} {c : Nat} (h : (tx l).cps[i]? = some c) : ∃ y, l[i]? = some y ∧ c = y.toNat := by
  have h' : ((l.map UInt8.toNat).toArray)[i]? = some c := h
  rw [List.getElem?_toArray, List.getElem?_map] at h'
  cases q : l[i]? with
  | none => rw [q] at h'; cases h'
  | some y => rw [q] at h'; exact ⟨y, rfl, (Option.some.inj h').symm⟩
theorem tx_size (l : Bytes) : (tx l).cps.size = l.length := tx_len l
theorem one_tx (y : UInt8) : (⟨#[y.toNat]⟩ : Str) = tx [y] := rfl
theorem ones_flat : ∀ acc : Bytes, (acc.map fun c => [c]).flatten = acc
  | [] => rfl
  | x :: r => by
    rw [List.map_cons, List.flatten_cons, ones_flat r]
    rfl
theorem plR_cons (c : UInt8) (r : Bytes) (d : Bool) (acc : Bytes) : WM.plR (c :: r) d acc = if VahypBase.isLetter c = true then WM.plR r false (acc ++ [c]) else if VahypBase.isDigit c = true ∧ c ≠ 48 ∧ d = false then WM.plR r true acc else none := rfl
theorem isalpha_one {y : UInt8} (h : VahypBase.inChunk y = true) : Txt.isalpha (tx [y]) = VahypBase.isLetter y := by
  rw [isalpha_tx (p := [y]) (by intro c hc; rw [show c = y by simpa using hc]; exact h)]
  simp [WM.alphaB]
theorem isdigit_one {y : UInt8} (h : VahypBase.inChunk y = true) : Txt.isdigit (tx [y]) = VahypBase.isDigit y := by
  unfold Txt.isdigit
  rw [cps_all, tx_len]
  simp [chunk_digit y h]
theorem starts_dot (b : Bytes) : Txt.startswith (tx b) ("." : Str) = (b.head? == some 46) := by
  rw [dot_tx]
  cases b with
  | nil => rfl
  | cons a r =>
    unfold Txt.startswith
    rw [PySem.StrLaws.subAt_eq]
    have e1 : decide (0 + (SX.S [46]).length ≤ (tx (a :: r)).length) = true := by
      rw [tx_len]
      simp [Str.length]
    rw [e1, Bool.true_and]
    show ((((a :: r).map UInt8.toNat).drop 0).take 1 == [46]) = (some a == some 46)
    rw [Bool.eq_iff_iff]
    simp only [List.drop_zero, List.map_cons, List.take_succ_cons, List.take_zero, beq_iff_eq, List.cons.injEq, and_true, Option.some.injEq]
    exact ⟨fun h => UInt8.toNat_inj.mp h, fun h => by rw [h]; rfl⟩
theorem ends_dot (b : Bytes) : Txt.endswith (tx b) ("." : Str) = (b.getLast? == some 46) := by
  rw [dot_tx]
  rcases List.eq_nil_or_concat b with rfl | ⟨r, a, rfl⟩
  · rfl
  · rw [List.concat_eq_append]
    unfold Txt.endswith
    rw [PySem.StrLaws.subAt_eq]
    have e0 : (tx (r ++ [a])).length - (SX.S [46]).length = r.length := by
      rw [tx_len, List.length_append, List.length_singleton]
      rfl
    have e1 : decide (0 + (SX.S [46]).length ≤ (tx (r ++ [a])).length) = true := by
      rw [tx_len, List.length_append, List.length_singleton]
      simp [Str.length]
    rw [e0, e1, Bool.true_and]
    show ((((r ++ [a]).map UInt8.toNat).drop r.length).take 1 == [46]) = ((r ++ [a]).getLast? == some 46)
    rw [List.map_append, List.drop_left' (List.length_map ..), List.getLast?_concat, Bool.eq_iff_iff]
    simp only [List.map_cons, List.map_nil, List.take_succ_cons, List.take_zero, beq_iff_eq, List.cons.injEq, and_true, Option.some.injEq]
    exact ⟨fun h => UInt8.toNat_inj.mp h, fun h => by rw [h]; rfl⟩
theorem cut_from1 (b : Bytes) : cutS (tx b) (some 1) none = tx (b.drop 1) := by
  rw [C8.cutS_slice, SX.slice_from (by decide)]
  unfold tx
  rw [List.map_drop]
  rfl
theorem cut_last {b : Bytes} (h : b ≠ []) : cutS (tx b) none (some (-1)) = tx b.dropLast := by
  rw [C8.cutS_slice, SX.slice_butlast (by simpa using h)]
  unfold tx
  rw [List.map_dropLast, List.dropLast_eq_take, List.length_map]
section
variable {P : Program} {w : World} {K : PySem.W.Frag} {mg : Str → Option Value} {base : Heap} {D : Ads}
/-! ### read_pattern_letters -/
abbrev s_read_pattern_letters : Stmt := top 55
abbrev N_read_pattern_letters : List Str := ["inner", "letters", "digit_before", "sign"]
theorem sc_read_pattern_letters : FnScope N_read_pattern_letters ["inner"] (defScope s_read_pattern_letters) := ⟨rfl, rfl, rfl, by decide +kernel, rfl, by decide +kernel, by decide +kernel⟩
def sp_read_pattern_letters : Sp := fun vs H Q _ => ∃ (l : Bytes), vs = [.str (tx l)] ∧ (∀ c ∈ l, VahypBase.inChunk c = true) ∧ l.length ≤ 40 ∧ ∀ H', Same H H' → Q (.str (tx ((WM.plR l false []).getD []))) H'
theorem zero_tx : ("0" : Str) = tx [48] := by decide +kernel
theorem df_read_pattern_letters {f : Addr} {fd : FuncData} (F : At K mg "read_pattern_letters" s_read_pattern_letters ["inner"] f fd) : Df P w K mg base CX0 1 "read_pattern_letters" ["inner"] sp_read_pattern_letters := by
  refine df0 (N := N_read_pattern_letters) F sc_read_pattern_letters (fun vs H Q E h => ?_) (fun cdv A outer s H vs Q E hr h => ⟨_, (pss_cons (ps_set (i := 1) sc_read_pattern_letters.nd rfl (Or.inl rfl) (pe_lst pa_nil))
(pss_cons (ps_set (i := 2) sc_read_pattern_letters.nd rfl (Or.inl rfl) pe_bl)
(pss_cons (ps_for PassesOwn.never rfl (pi_str (pv 0)) (pg_name (i := 3) sc_read_pattern_letters.nd rfl (Or.inl rfl))
(pss_one (ps_if (pt_val (pe_m0 PySem.F.slot_str_isalpha PySem.F.type_str_isalpha mt_isalpha (pv 3)))
(pss_cons (ps_expr (pe_bm PySem.F.plainAttrs_list PySem.F.slot_list_append PySem.F.type_list_append mt_append (pv 1) (pa_cons (pv 3) pa_nil)))
(pss_one (ps_set (i := 2) sc_read_pattern_letters.nd rfl (Or.inl rfl) pe_bl)))
(pss_one (ps_if (PW.pt (pw_and (pt_val (pe_m0 PySem.F.slot_str_isdigit PySem.F.type_str_isdigit mt_isdigit (pv 3))) (pw_and (pt_cmpR op_ne (pv 3) pe_str (nomark _)) (pw_and1 (pt_not (pt_val (pv 2)))))))
(pss_one (ps_set (i := 2) sc_read_pattern_letters.nd rfl (Or.inl rfl) pe_bl))
(pss_one (ps_ret pe_str)))))))
(pss_one (ps_ret (pe_join pe_str (pv 1))))))), ?_⟩)
  · obtain ⟨l, rfl, _⟩ := h
    rfl
  · obtain ⟨l, rfl, hch, hll, k⟩ := h
    refine ⟨by show 0 ≤ sizeLine; exact Nat.zero_le _, fun n hn => ?_⟩
    have e0 : Same H (upd H n (.lst [])) := same_upd hn
    refine ⟨_, rfl, _, rfl, ?_⟩
    refine for_it (walk_str (z := tx l)) (fun i σ H' => ∃ v3 d, ∃ acc : Bytes, σ = [some (.str (tx l)), some (.ref n), some (.bl d), v3] ∧ Same H H' ∧ H' n = some (.lst (svs (acc.map fun c => [c]))) ∧ acc.length ≤ i ∧ WM.plR l false [] = WM.plR (l.drop i) d acc) ⟨none, false, [], rfl, e0, upd_same, Nat.le_refl _, by rw [List.drop_zero]⟩ (fun _ _ _ _ _ => trivial) ?_ ?_
    · rintro i x σ H1 H2 hi ⟨v3, d, acc, rfl, e1, hn1, hal, ep⟩ ⟨rfl, c, hc, rfl⟩
      obtain ⟨y, hy, rfl⟩ := tx_at hc
      have hi' : i < l.length := by rw [tx_size] at hi; exact hi
      have hyc := hch y (List.mem_of_getElem? hy)
      have hd : l.drop i = y :: l.drop (i + 1) := by
        obtain ⟨y', hy', hd⟩ := drop_cons hi'
        rw [hy] at hy'
        cases hy'
        exact hd
      rw [hd] at ep
      rw [plR_cons] at ep
      rw [one_tx]
      refine ⟨_, rfl, ⟨_, rfl⟩, _, rfl, rfl, trivial, _, rfl, ?_⟩
      rw [isalpha_one hyc]
      cases hle : VahypBase.isLetter y with
      | true =>
        rw [hle, if_pos rfl] at ep
        refine iteT ⟨_, rfl, .inl ⟨rfl, _, SqL.of hn1⟩, _, rfl, n, _, _, rfl, rfl, hn1, ?_, ?_⟩
        · unfold svs
          rw [List.length_map, List.length_map]
          exact Nat.lt_of_le_of_lt (by omega : acc.length ≤ 100) (by decide)
        · refine ⟨_, false, acc ++ [y], rfl, fun b o hb => ?_, ?_, ?_, ep⟩
          · rw [upd_ne (ne_of_none hb hn)]
            exact e1 _ _ hb
          · rw [upd_same]
            unfold svs
            rw [List.map_append, List.map_append]
            rfl
          · rw [List.length_append, List.length_singleton]
            omega
      | false =>
        rw [hle, if_neg Bool.false_ne_true] at ep
        refine iteF ⟨_, rfl, ⟨_, rfl⟩, _, rfl, rfl, trivial, _, rfl, ?_⟩
        rw [isdigit_one hyc]
        have bad : ¬ (VahypBase.isDigit y = true ∧ y ≠ 48 ∧ d = false) → Q (.str ("" : Str)) H2 := fun z => by
          rw [if_neg z] at ep
          have q := k H2 e1
          rw [ep] at q
          rw [empty_tx]
          exact q
        cases hdi : VahypBase.isDigit y with
        | false => exact iteF (iteF (bad (by rw [hdi]; rintro ⟨z, _⟩; cases z)))
        | true =>
          refine iteT ⟨_, rfl, rfl, _, rfl, ?_⟩
          have e48 : (V.str (tx [y]) = V.str ("0" : Str)) ↔ y = 48 := by
            rw [zero_tx, str_iff]
            simp
          by_cases h48 : y = 48
          · rw [decide_eq_true (e48.mpr h48)]
            exact iteF (iteF (bad (fun z => z.2.1 h48)))
          · rw [decide_eq_false (fun z => h48 (e48.mp z))]
            refine iteT ⟨_, rfl, d, rfl, ?_⟩
            cases d with
            | true => exact iteF (bad (fun z => by cases z.2.2))
            | false =>
              rw [if_pos ⟨hdi, h48, rfl⟩] at ep
              exact iteT ⟨_, true, acc, rfl, e1, hn1, by omega, ep⟩
    · rintro σ H1 ⟨v3, d, acc, rfl, e1, hn1, hal, ep⟩
      rw [tx_size] at hal ep
      rw [List.drop_length] at ep
      have ep : WM.plR l false [] = some acc := ep
      have ef : (acc.map fun c => [c]).flatten = acc := ones_flat acc
      refine ⟨⟨_, rfl⟩, _, rfl, _, n, (acc.map fun c => [c]).map tx, rfl, rfl, .inl (SqL.of ?_), ?_, ?_⟩
      · rw [hn1, List.map_map]
        rfl
      · have z3 : ("" : Str).length = 0 := rfl
        rw [len_sum, ef, z3, Nat.mul_zero]
        omega
      · have q := k H1 e1
        rw [ep] at q
        rw [show Txt.join ("" : Str) ((acc.map fun c => [c]).map tx) = tx acc from (join_tx _).trans (by rw [ef])]
        exact q
end
end WG
set_option Elab.async false
set_option linter.all false
set_option maxRecDepth 100000
set_option maxHeartbeats 2000000
namespace WG
open PySem PySem.Spec PyProof.Rows L2
open VahypBase (Bytes PTok Toks Fault)
/-- a text without its first sign, where it is told to be -/
theorem if_from1 {i j : Nat} {σ : L2.St} {H : Hp} {Q : VK} {f : Bool} {b : Bytes} (hi : σ[i]? = some (some (.bl f))) (hj : σ[j]? = some (some (.str (tx b)))) (hz : (tx b).length ≤ sizeLine) (h : Q (.str (tx (if f = true then b.drop 1 else b))) H) :
    tIf (tB (tVar i)) (tSl rSlS (tVar j) (tPart (tC (.int 1))) tNoPart) (tVar j) σ H Q := by
  refine ⟨_, hi, f, rfl, ?_⟩
  cases f with
  | true =>
    refine iteT ⟨_, hj, _, rfl, _, rfl, hz, ?_⟩
    rw [cut_from1]
    exact h
  | false => exact iteF ⟨_, hj, h⟩
/-- a text without its last sign, where it is told to be -/
theorem if_last {i j : Nat} {σ : L2.St} {H : Hp} {Q : VK} {f : Bool} {b : Bytes} (hi : σ[i]? = some (some (.bl f))) (hj : σ[j]? = some (some (.str (tx b)))) (hz : (tx b).length ≤ sizeLine) (hb : f = true → b ≠ []) (h : Q (.str (tx (if f = true then b.dropLast else b))) H) :
    tIf (tB (tVar i)) (tSl rSlS (tVar j) tNoPart (tPart (tUn (fun x H Q => ∃ i, x = .int i ∧ Q (.int (-i)) H) (tC (.int 1))))) (tVar j) σ H Q := by
  refine ⟨_, hi, f, rfl, ?_⟩
  cases f with
  | true =>
    refine iteT ⟨_, hj, _, rfl, _, rfl, _, rfl, hz, ?_⟩
    rw [show (-(1 : Int)) = (-1 : Int) from rfl, cut_last (hb rfl)]
    exact h
  | false => exact iteF ⟨_, hj, h⟩
section
variable {P : Program} {w : World} {K : PySem.W.Frag} {mg : Str → Option Value} {base : Heap} {D : Ads}
/-! ### parse_pattern -/
abbrev s_parse_pattern : Stmt := top 54
abbrev N_parse_pattern : List Str := ["chunk", "first", "inner", "last", "letters"]
theorem sc_parse_pattern : FnScope N_parse_pattern ["chunk"] (defScope s_parse_pattern) := ⟨rfl, rfl, rfl, by decide +kernel, rfl, by decide +kernel, by decide +kernel⟩
abbrev Pp := Bytes × Bool × Bool
def ppO (r : Pp) : HO := .tup [.str (tx r.1), .bl r.2.1, .bl r.2.2]
def sp_parse_pattern : Sp := fun vs H Q _ => ∃ (b : Bytes), vs = [.str (tx b)] ∧ (∀ c ∈ b, VahypBase.inChunk c = true) ∧ b.length ≤ 40 ∧
  (∀ r, WM.patP b = some r → ∀ H' p, Same H H' → H' p = some (ppO r) → Q (.ref p) H') ∧ (WM.patP b = none → ∀ H', Same H H' → Q .non H')
theorem df_parse_pattern {f : Addr} {fd : FuncData} (F : At K mg "parse_pattern" s_parse_pattern ["chunk"] f fd) (T : Txt K mg D)
    (c_read_pattern_letters : Df P w K mg base CX0 1 "read_pattern_letters" ["inner"] sp_read_pattern_letters) : Df P w K mg base CX0 2 "parse_pattern" ["chunk"] sp_parse_pattern := by
  refine df0 (N := N_parse_pattern) F sc_parse_pattern (fun vs H Q E h => ?_) (fun cdv A outer s H vs Q E hr h => ⟨_, (pss_cons (ps_set (i := 1) sc_parse_pattern.nd rfl (Or.inl rfl) (pe_m1 PySem.F.slot_str_startswith PySem.F.type_str_startswith mt_startswith (pv 0) pe_str))
(pss_cons (ps_set (i := 2) sc_parse_pattern.nd rfl (Or.inl rfl) (pe_ifExp (pt_val (pv 1)) (pe_slice sl_str (pv 0) (po_some pe_int) po_none) (pv 0)))
(pss_cons (ps_set (i := 3) sc_parse_pattern.nd rfl (Or.inl rfl) (pe_m1 PySem.F.slot_str_endswith PySem.F.type_str_endswith mt_endswith (pv 2) pe_str))
(pss_cons (ps_set (i := 2) sc_parse_pattern.nd rfl (Or.inl rfl) (pe_ifExp (pt_val (pv 3)) (pe_slice sl_str (pv 2) po_none (po_some (pe_un un_neg pe_int))) (pv 2)))
(pss_cons (ps_set (i := 4) sc_parse_pattern.nd rfl (Or.inl rfl) (pe_d0 c_read_pattern_letters hr (by decide) rfl (pa_cons (pv 2) pa_nil)))
(pss_cons (ps_if (PW.pt (pw_or (pt_not (pt_chain op_le op_le pe_int (pe_callB call_len_str (by rfl) T.n_len (by decide +kernel) (pa_cons (pv 4) pa_nil)) pe_int)) (pw_or1 (pt_cmpR op_eq (pe_callB call_len_str (by rfl) T.n_len (by decide +kernel) (pa_cons (pv 4) pa_nil)) (pe_callB call_len_str (by rfl) T.n_len (by decide +kernel) (pa_cons (pv 2) pa_nil)) (nomark _)))))
(pss_one (ps_ret pe_non))
pss_nil)
(pss_one (ps_ret (pe_tup (pa_cons (pv 4) (pa_cons (pv 1) (pa_cons (pv 3) pa_nil)))))))))))), ?_⟩)
  · obtain ⟨b, rfl, _⟩ := h
    rfl
  · obtain ⟨b, rfl, hch, hbl, kS, kN⟩ := h
    have hzz : ∀ z : Bytes, z.length ≤ 40 → (tx z).length ≤ sizeLine := fun z h => by rw [tx_len]; exact Nat.le_trans h (by decide)
    refine ⟨_, rfl, ⟨_, rfl⟩, _, _, rfl, rfl, ?_⟩
    rw [starts_dot]
    generalize hf : (b.head? == some 46) = f
    refine if_from1 rfl rfl (hzz b hbl) ?_
    have hl1 : (if f = true then b.drop 1 else b).length ≤ 40 := by
      split
      · rw [List.length_drop]; omega
      · exact hbl
    have hl1c : ∀ c ∈ (if f = true then b.drop 1 else b), VahypBase.inChunk c = true := by
      split
      · exact fun c hc => hch c (List.mem_of_mem_drop hc)
      · exact hch
    have epat : WM.patP b = (if ¬ (1 ≤ ((WM.plR (WM.inner (if f = true then b.drop 1 else b)) false []).getD []).length ∧ ((WM.plR (WM.inner (if f = true then b.drop 1 else b)) false []).getD []).length ≤ 6) ∨ ((WM.plR (WM.inner (if f = true then b.drop 1 else b)) false []).getD []).length = (WM.inner (if f = true then b.drop 1 else b)).length then none else some ((WM.plR (WM.inner (if f = true then b.drop 1 else b)) false []).getD [], f, (if f = true then b.drop 1 else b).getLast? == some 46)) := by
      unfold WM.patP
      rw [hf]
    generalize (if f = true then b.drop 1 else b) = l at hl1 hl1c epat ⊢
    refine ⟨_, rfl, ⟨_, rfl⟩, _, _, rfl, rfl, ?_⟩
    rw [ends_dot]
    have ein : WM.inner l = if (l.getLast? == some 46) = true then l.dropLast else l := by
      unfold WM.inner
      by_cases z : l.getLast? = some 46
      · rw [if_pos z, if_pos (by rw [z]; rfl)]
      · rw [if_neg z, if_neg (by simpa using z)]
    refine if_last rfl rfl (hzz l hl1) (fun z hn => by rw [hn] at z; cases z) ?_
    rw [← ein]
    have hin : (WM.inner l).length ≤ 40 := by
      unfold WM.inner
      split
      · rw [List.length_dropLast]; omega
      · exact hl1
    have hinc : ∀ c ∈ WM.inner l, VahypBase.inChunk c = true := by
      unfold WM.inner
      split
      · exact fun c hc => hl1c c (List.dropLast_subset _ hc)
      · exact hl1c
    refine ⟨_, rfl, WM.inner l, rfl, hinc, hin, fun H1 e1 => ?_⟩
    have hx : ((WM.plR (WM.inner l) false []).getD []).length ≤ 40 := by
      cases hp : WM.plR (WM.inner l) false [] with
      | none => simp
      | some y =>
        have := WM.plR_len _ _ _ _ hp
        simp only [List.length_nil, Nat.zero_add] at this
        show y.length ≤ 40
        omega
    generalize (WM.plR (WM.inner l) false []).getD [] = x at epat hx ⊢
    dsimp only [gName, tSeq, tIfS, tNot, tOr]
    refine chain_le (v := (((tx x).length : Nat) : Int)) (fun _ h => ⟨_, rfl, _, rfl, hzz x hx, h⟩) ?_
    rw [tx_len]
    by_cases h6 : 1 ≤ x.length ∧ x.length ≤ 6
    · refine iteF' (by rw [decide_eq_true (by omega)]; rfl) ?_
      refine ⟨_, rfl, _, rfl, hzz x hx, _, rfl, _, rfl, hzz _ hin, rfl, _, rfl, ?_⟩
      by_cases he : x.length = (WM.inner l).length
      · refine iteT' (decide_eq_true (by rw [tx_len, tx_len, he])) ?_
        rw [if_pos (.inr he)] at epat
        exact kN epat H1 e1
      · refine iteF' (decide_eq_false (by rw [tx_len, tx_len, int_iff]; omega)) ?_
        rw [if_neg (by rintro (z | z); exact z h6; exact he z)] at epat
        exact ⟨_, rfl, _, rfl, _, rfl, by show 3 ≤ sizeLine; decide, fun p hp => kS _ epat _ p (e1.trans (same_upd hp)) upd_same⟩
    · refine iteT' (by rw [decide_eq_false (by omega)]; rfl) ?_
      refine iteT ?_
      rw [if_pos (.inl h6)] at epat
      exact kN epat H1 e1
end
end WG
set_option Elab.async false
set_option linter.all false
set_option maxRecDepth 100000
set_option maxHeartbeats 2000000
namespace WG
open PySem PySem.Spec PyProof.Rows L2
open VahypBase (Bytes PTok Toks Fault)
def patD (p : Vahypa.Pat) : PyData := .tuple [.str (tx p.x), .bool p.front, .bool p.halt_]
theorem strOk_tx (b : Bytes) : PyData.strOk (tx b) = true := by
  unfold PyData.strOk
  rw [cps_all, List.all_eq_true]
  intro c _
  have := c.toNat_lt
  exact decide_eq_true (by omega)
theorem patD_shaped (p : Vahypa.Pat) : SeqAt.shaped (patD p) = true := by
  have h1 : (patD p).canLay0 = true := by simp [patD, PyData.canLay0, PyData.canLayAll0, strOk_tx]
  have h2 : (patD p).depth ≤ 64 := by simp [patD, PyData.depth, PyData.depthAll]
  show ((patD p).canLay0 && decide ((patD p).depth ≤ 64)) = true
  rw [h1, decide_eq_true h2]
  rfl
theorem patDs_lay : ∀ zs : List Vahypa.Pat, PyData.canLayAll0 (zs.map patD) = true
  | [] => by simp [PyData.canLayAll0]
  | z :: zs => by simp [PyData.canLayAll0, patD, PyData.canLay0, patDs_lay zs, strOk_tx]
theorem patDs_depth : ∀ zs : List Vahypa.Pat, PyData.depthAll (zs.map patD) ≤ 2
  | [] => by simp [PyData.depthAll]
  | z :: zs => by
    have h1 := patDs_depth zs
    have h2 : (patD z).depth ≤ 2 := by simp [patD, PyData.depth, PyData.depthAll]
    simp only [List.map_cons, PyData.depthAll]
    omega
theorem patDs_shaped (zs : List Vahypa.Pat) : SeqAt.shaped (.list (zs.map patD)) = true := by
  have h1 := patDs_depth zs
  have h2 : PyData.depth (.list (zs.map patD)) ≤ 64 := by
    simp only [PyData.depth]
    omega
  show (PyData.canLay0 (.list (zs.map patD)) && decide (PyData.depth (.list (zs.map patD)) ≤ 64)) = true
  rw [Bool.and_eq_true]
  exact ⟨by simp only [PyData.canLay0]; exact patDs_lay zs, decide_eq_true h2⟩
theorem patD_eqv (p q : Vahypa.Pat) : PyData.eqv (patD q) (patD p) = (q.x == p.x && (q.front == p.front && q.halt_ == p.halt_)) := by
  have e : PyData.eqv (patD q) (patD p) = ((tx q.x == tx p.x) && ((q.front == p.front) && ((q.halt_ == p.halt_) && true))) := by simp only [patD, PyData.eqv, PyData.eqvAll]
  rw [e, Bool.and_true]
  congr 1
  rw [SX.S_beq_eq, Bool.eq_iff_iff, decide_eq_true_eq, beq_iff_eq]
  exact List.map_inj_right (fun x y h => UInt8.toNat_inj.mp h)
theorem pat_dp {K : PySem.W.Frag} {H : Hp} {a : Addr} {p : Vahypa.Pat} (h : PatAt H a p) : Dp K H (.ref a) (patD p) := .tup (SqT.of h) (.cons (.str _) (.cons (.bl _) (.cons (.bl _) .nil)))
theorem pats_dp {K : PySem.W.Frag} {H : Hp} : ∀ {as : List Addr} {ps : List Vahypa.Pat}, Paired (PatAt H) as ps → DpAll K H (as.map V.ref) (ps.map patD)
  | _, _, .nil => .nil
  | _, _, .cons h t => .cons (pat_dp h) (pats_dp t)
section
variable {P : Program} {w : World} {K : PySem.W.Frag} {mg : Str → Option Value} {base : Heap} {D : Ads}
abbrev s_read_pattern : Stmt := top 53
abbrev N_read_pattern : List Str := ["tokens", "at", "earlier", "place", "chunk", "pattern"]
theorem sc_read_pattern : FnScope N_read_pattern ["tokens", "at", "earlier"] (defScope s_read_pattern) := ⟨rfl, rfl, rfl, by decide +kernel, rfl, by decide +kernel, by decide +kernel⟩
def patStep (ps : List Vahypa.Pat) (t0 t : PTok) : Except Fault Vahypa.Pat := if 40 ≤ ps.length then .error ⟨4, t0.place⟩ else match t.tok with
  | .chunk b => (match Vahypa.patOf b with
    | none => .error ⟨7, t.place⟩
    | some p => if ps.any (fun q => q.x == p.x && (q.front == p.front && q.halt_ == p.halt_)) = true then .error ⟨5, t.place⟩ else .ok p)
  | _ => .error ⟨3, t.place⟩
def sp_read_pattern (D : Ads) : Sp := fun vs H Q E => ∃ (a e : Addr) (i : Nat) (toks : Toks) (t0 t : PTok) (ps : List Vahypa.Pat), vs = [.ref a, .int i, .ref e] ∧ RefsAt TokAt H a toks ∧ toks[i]? = some t0 ∧ toks[i + 1]? = some t ∧ WfTok t ∧
  RefsAt PatAt H e ps ∧ ps.length ≤ 40 ∧
  (∀ p, patStep ps t0 t = .ok p → ∀ H' a', Same H H' → PatAt H' a' p → Q (.ref a') H') ∧ (∀ f, patStep ps t0 t = .error f → FaultE D.cF H E f)
theorem df_read_pattern {f : Addr} {fd : FuncData} (F : At K mg "read_pattern" s_read_pattern ["tokens", "at", "earlier"] f fd) (T : Txt K mg D) (FO : FaultOk P w K mg base D)
    (c_need_chunk : Df P w K mg base (L2.CX P w) 3 "need_chunk" ["tokens", "at"] (sp_need_chunk D.cF)) (c_parse_pattern : Df P w K mg base CX0 2 "parse_pattern" ["chunk"] sp_parse_pattern) :
    Df P w K mg base (L2.CX P w) 4 "read_pattern" ["tokens", "at", "earlier"] (sp_read_pattern D) := by
  refine dfX (N := N_read_pattern) F sc_read_pattern (fun vs H Q E h => ?_) (fun cdv A outer s H vs Q E hr h => ⟨_, (pss_cons (ps_if (pt_cmpR op_eq (pe_callB call_len_seq (by rfl) T.n_len (by decide +kernel) (pa_cons (pv 2) pa_nil)) (C8.pe_gc rfl T.c_MOST_PATTERNS) (nomark _))
(pss_one (ps_raise rfl (takes_of rfl rfl rfl rfl) (pmk_fault T FO hr (by decide) rfl (pa_cons pe_int (pa_cons (pe_ix ix_tup (pe_ix ix_list (pv 0) (pv 1) (fun _ _ => rfl)) pe_int (fun _ _ => rfl)) pa_nil)))))
pss_nil)
(pss_cons (ps_asg (pe_dX c_need_chunk hr (by decide) rfl (takes_of rfl rfl rfl rfl) (pa_cons (pv 0) (pa_cons (pe_op op_add (pv 1) pe_int) pa_nil))) (pg_tup rfl (pgs_cons (pg_name (i := 3) sc_read_pattern.nd rfl (Or.inl rfl)) (pgs_cons (pg_name (i := 4) sc_read_pattern.nd rfl (Or.inl rfl)) pgs_nil))))
(pss_cons (ps_set (i := 5) sc_read_pattern.nd rfl (Or.inl rfl) (pe_d0 c_parse_pattern hr (by decide) rfl (pa_cons (pv 4) pa_nil)))
(pss_cons (ps_if (pt_cmpR op_isN (pv 5) pe_non (nomark _))
(pss_one (ps_raise rfl (takes_of rfl rfl rfl rfl) (pmk_fault T FO hr (by decide) rfl (pa_cons pe_int (pa_cons (pv 3) pa_nil)))))
pss_nil)
(pss_cons (ps_if (pt_cmpR (op_inD (hu65 hr)) (pv 5) (pv 2) (by rfl))
(pss_one (ps_raise rfl (takes_of rfl rfl rfl rfl) (pmk_fault T FO hr (by decide) rfl (pa_cons pe_int (pa_cons (pv 3) pa_nil)))))
pss_nil)
(pss_one (ps_ret (pv 5)))))))), ?_⟩)
  · obtain ⟨a, e, i, toks, t0, t, ps, rfl, _⟩ := h
    rfl
  · obtain ⟨a, e, i, toks, t0, t, ps, rfl, hT, ht0, ht, hwf, hP, hpl, kS, kE⟩ := h
    obtain ⟨as, ha, hp⟩ := id hT
    obtain ⟨c0, hc0, hca0⟩ := pget2 hp ht0
    have hga : (as.map V.ref)[i]? = some (.ref c0) := by rw [List.getElem?_map, hc0] <;> rfl
    obtain ⟨es, hes, hep⟩ := id hP
    have hel : es.length = ps.length := hep.length
    refine ⟨_, rfl, e, _, rfl, .inl (SqL.of hes), rfl, _, rfl, ?_⟩
    rw [List.length_map, hel]
    by_cases h40 : 40 ≤ ps.length
    · have e40 : ps.length = 40 := by omega
      refine iteT' (decide_eq_true (by rw [e40]; rfl)) ?_
      exact ⟨_, rfl, _, rfl, a, _, _, .ref c0, rfl, rfl, SqL.of ha, atI_nat hga, c0, _, 0, _, rfl, rfl, SqT.of hca0, rfl, fault_end ((kE _ (if_pos h40)).now (Same.refl H))⟩
    have hne : ¬ V.int ((ps.length : Nat) : Int) = V.int (40 : Int) := by rw [int_iff]; omega
    refine iteF' (decide_eq_false hne) ?_
    have estep : patStep ps t0 t = match t.tok with
      | .chunk b => (match Vahypa.patOf b with
        | none => .error ⟨7, t.place⟩
        | some p => if ps.any (fun q => q.x == p.x && (q.front == p.front && q.halt_ == p.halt_)) = true then .error ⟨5, t.place⟩ else .ok p)
      | _ => .error ⟨3, t.place⟩ := if_neg h40
    refine ⟨_, rfl, _, rfl, _, _, rfl, rfl, a, i + 1, toks, t, rfl, hT, ht, hwf, fun hc H1 c e1 hc1 => ?_, fun hc => ?_⟩
    · obtain ⟨b, hb⟩ := hc
      obtain ⟨pl, k⟩ := t
      have hb : k = .chunk b := hb
      subst hb
      have hbc : ∀ c ∈ b, VahypBase.inChunk c = true := fun c hc => List.all_eq_true.mp hwf.2.1 c hc
      have epi := WM.pat_is b
      refine ⟨c, _, rfl, SqT.of hc1, rfl, _, _, rfl, _, _, rfl, rfl, ?_⟩
      refine ⟨_, rfl, b, rfl, hbc, hwf.2.2, fun r hr' H2 q e2 hq => ?_, fun hn H2 e2 => ?_⟩
      · have e12 := e1.trans e2
        rw [hr'] at epi
        cases hpo : Vahypa.patOf b with
        | none => rw [hpo] at epi; cases epi
        | some p =>
          rw [hpo] at epi
          have er : r = (p.x, p.front, p.halt_) := (Option.some.inj epi).symm
          rw [er] at hq
          have hqa : PatAt H2 q p := hq
          have es2 : patStep ps t0 ⟨pl, .chunk b⟩ = if ps.any (fun q => q.x == p.x && (q.front == p.front && q.halt_ == p.halt_)) = true then .error ⟨5, pl⟩ else .ok p := by
            rw [estep]
            show (match Vahypa.patOf b with
              | none => _
              | some p => _) = _
            rw [hpo]
          refine ⟨_, rfl, rfl, _, rfl, iteF' (decide_eq_false (fun z => by cases z)) ?_⟩
          refine ⟨_, rfl, _, rfl, patD p, ps.map patD, pat_dp hqa, .lst (SqL.of (e12 _ _ hes)) (pats_dp (Paired.mapP hep fun x y z => PatAt.same _ _ x y e12 z)), patD_shaped p, patDs_shaped ps, _, rfl, ?_⟩
          have ea : ((ps.map patD).any fun z => PyData.eqv z (patD p)) = ps.any fun q => q.x == p.x && (q.front == p.front && q.halt_ == p.halt_) := by
            rw [List.any_map]
            exact congrArg (fun g => ps.any g) (funext fun q => patD_eqv p q)
          rw [ea]
          by_cases hd : (ps.any fun q => q.x == p.x && (q.front == p.front && q.halt_ == p.halt_)) = true
          · rw [if_pos hd] at es2
            exact iteT' hd ⟨_, rfl, fault_end ((kE _ es2).now e12)⟩
          · rw [if_neg hd] at es2
            exact iteF' (Bool.eq_false_iff.mpr hd) ⟨_, rfl, kS p es2 H2 q e12 hqa⟩
      · have hpo : Vahypa.patOf b = none := by
          cases hpo : Vahypa.patOf b with
          | none => rfl
          | some p => rw [hn, hpo] at epi; cases epi
        refine ⟨_, rfl, rfl, _, rfl, iteT' (decide_eq_true rfl) ⟨_, rfl, fault_end ((kE ⟨7, pl⟩ ?_).now (e1.trans e2))⟩⟩
        rw [estep]
        show (match Vahypa.patOf b with
          | none => _
          | some p => _) = _
        rw [hpo]
    · refine kE ⟨3, t.place⟩ ?_
      rw [estep]
      cases hk : t.tok with
      | chunk b => exact absurd ⟨b, hk⟩ hc
      | sign c => rfl
      | last => rfl
end
end WG
set_option Elab.async false
set_option linter.all false
set_option maxRecDepth 100000
set_option maxHeartbeats 2000000
namespace WG
open PySem PySem.Spec PyProof.Rows L2
open VahypBase (Bytes PTok Toks Fault)
/-! ### the tokens' shape -/
structure Good (toks : Toks) : Prop where
  wf : ∀ t ∈ toks, WfTok t
  more : ∀ i t, toks[i]? = some t → t.tok ≠ .last → ∃ t', toks[i + 1]? = some t'
  ne : toks ≠ []
theorem good_last (q : Nat) : Good [⟨q, .last⟩] := by
  refine ⟨fun t ht => ?_, fun i t hi hn => ?_, by simp⟩
  · have e : t = ⟨q, .last⟩ := by simpa using ht
    rw [e]
    trivial
  · cases i with
    | zero =>
      have e : t = ⟨q, .last⟩ := (Option.some.inj hi).symm
      rw [e] at hn
      exact absurd rfl hn
    | succ i => simp at hi
theorem good_cons {t : PTok} {r : Toks} (hw : WfTok t) (h : Good r) : Good (t :: r) := by
  refine ⟨fun u hu => ?_, fun i u hi hn => ?_, by simp⟩
  · rcases List.mem_cons.mp hu with z | z
    · rw [z]; exact hw
    · exact h.wf u z
  · cases i with
    | zero =>
      cases hr : r with
      | nil => exact absurd hr h.ne
      | cons a r' => exact ⟨a, rfl⟩
    | succ i => exact h.more i u hi hn
theorem token_wf {l : Bytes} {x : VahypBase.Tok × Nat} {p : Nat} (h : VahypBase.token l = some x) : WfTok ⟨p, x.1⟩ := by
  cases l with
  | nil => cases h
  | cons b r =>
    unfold VahypBase.token at h
    dsimp only at h
    split at h
    · rename_i hin
      split at h
      · cases h
      · rename_i h40
        cases h
        refine ⟨?_, ?_, Nat.le_of_not_lt h40⟩
        · rw [List.takeWhile_cons, if_pos hin]
          simp
        · exact List.all_takeWhile
    · split at h
      · cases h
        rfl
      · cases h
theorem lexA_good : ∀ (n a : Nat) (l : Bytes) (ts : Toks), l.length < n → WM.lexA a l = .ok ts → Good ts
  | 0, _, _, _, h, _ => absurd h (Nat.not_lt_zero _)
  | n + 1, a, [], ts, _, h => by
    have e : ts = [⟨a, .last⟩] := by
      have h' : Except.ok [(⟨a, .last⟩ : PTok)] = (Except.ok ts : Except Fault Toks) := h
      injection h' with h'
      exact h'.symm
    rw [e]
    exact good_last a
  | n + 1, a, b :: r, ts, hl, h => by
    have l1 : r.length < n := Nat.lt_of_succ_lt_succ hl
    by_cases hb : VahypBase.isBlank b = true
    · rw [WM.lexA_blank hb] at h
      exact lexA_good n _ r ts l1 h
    · have hb' : VahypBase.isBlank b = false := by simpa using hb
      by_cases h35 : (b == 35) = true
      · rw [WM.lexA_rem hb' h35] at h
        exact lexA_good n _ _ ts (Nat.lt_of_le_of_lt (WM.dropWhile_le r) l1) h
      · have h35' : (b == 35) = false := by simpa using h35
        rw [WM.lexA_tok hb' h35'] at h
        cases ht : VahypBase.token (b :: r) with
        | none => rw [ht] at h; cases h
        | some x =>
          rw [ht] at h
          have hp := WM.token_pos ht
          have hd : ((b :: r).drop x.2).length < n := by
            rw [List.length_drop, List.length_cons]
            omega
          cases hr : WM.lexA (a + x.2) ((b :: r).drop x.2) with
          | error f =>
            have h' : (WM.lexA (a + x.2) ((b :: r).drop x.2)).map (fun l => (⟨a, x.1⟩ : PTok) :: l) = .ok ts := h
            rw [hr] at h'
            cases h'
          | ok ts' =>
            have h' : (WM.lexA (a + x.2) ((b :: r).drop x.2)).map (fun l => (⟨a, x.1⟩ : PTok) :: l) = .ok ts := h
            rw [hr] at h'
            have e : (⟨a, x.1⟩ : PTok) :: ts' = ts := by
              injection h'
            rw [← e]
            exact good_cons (token_wf ht) (lexA_good n _ _ ts' hd hr)
theorem lexA_ok {a : Nat} {l : Bytes} {ts : Toks} (h : WM.lexA a l = .ok ts) : Good ts := lexA_good (l.length + 1) a l ts (Nat.lt_succ_self _) h

/-! ### taking tokens -/
theorem eq_chunk {t : PTok} {z : Bytes} (hw : WfTok t) (h1 : z ≠ []) (h2 : z ≠ [59]) : VahypBase.tokEq t.tok (.chunk z) = decide (sgn t.tok = z) := by
  unfold WfTok at hw
  cases ht : t.tok with
  | chunk b =>
    show (b == z) = decide (b = z)
    rw [Bool.eq_iff_iff, beq_iff_eq, decide_eq_true_eq]
  | sign c => exact (decide_eq_false (fun e => h2 e.symm)).symm
  | last => exact (decide_eq_false (fun e => h1 e.symm)).symm
theorem eq_sign {t : PTok} (hw : WfTok t) : VahypBase.tokEq t.tok (.sign 59) = decide (sgn t.tok = [59]) := by
  unfold WfTok at hw
  cases ht : t.tok with
  | chunk b =>
    rw [ht] at hw
    refine (decide_eq_false (fun e => ?_)).symm
    have e' : b = [59] := e
    rw [e'] at hw
    exact absurd hw.2.1 (by decide)
  | sign c =>
    rw [ht] at hw
    have hw : c = 59 := hw
    rw [hw]
    rfl
  | last => rfl
theorem eq_last {t : PTok} (hw : WfTok t) : VahypBase.tokEq t.tok .last = decide (sgn t.tok = []) := by
  unfold WfTok at hw
  cases ht : t.tok with
  | chunk b =>
    rw [ht] at hw
    exact (decide_eq_false (fun e => hw.1 e)).symm
  | sign c => rfl
  | last => rfl
theorem take_word {t : PTok} {r : Toks} {s : String} (hw : WfTok t) (h1 : VahypBase.word s ≠ []) (h2 : VahypBase.word s ≠ [59]) : VahypBase.takeWord s (t :: r) = if sgn t.tok = VahypBase.word s then .ok r else .error ⟨3, t.place⟩ := by
  show (if VahypBase.tokEq t.tok (.chunk (VahypBase.word s)) = true then Except.ok ((t :: r).drop 1) else Except.error (⟨3, t.place⟩ : Fault)) = _
  rw [eq_chunk hw h1 h2]
  by_cases d : sgn t.tok = VahypBase.word s
  · rw [if_pos d, if_pos (decide_eq_true d)]
    rfl
  · rw [if_neg d, if_neg (by rw [decide_eq_false d]; exact Bool.false_ne_true)]
theorem take_sign {t : PTok} {r : Toks} (hw : WfTok t) : VahypBase.takeSign 59 (t :: r) = if sgn t.tok = [59] then .ok r else .error ⟨3, t.place⟩ := by
  show (if VahypBase.tokEq t.tok (.sign 59) = true then Except.ok ((t :: r).drop 1) else Except.error (⟨3, t.place⟩ : Fault)) = _
  rw [eq_sign hw]
  by_cases d : sgn t.tok = [59]
  · rw [if_pos d, if_pos (decide_eq_true d)]
    rfl
  · rw [if_neg d, if_neg (by rw [decide_eq_false d]; exact Bool.false_ne_true)]
theorem take_margin {t : PTok} {r : Toks} : Vahypa.takeMargin (t :: r) = (marginOf t).map fun m => (m, r) := by
  obtain ⟨p, k⟩ := t
  cases k with
  | chunk b =>
    match b with
    | [] => rfl
    | [c] =>
      show (if VahypBase.isDigit c = true ∧ c.toNat - 48 ≤ Vahypa.MARGIN then Except.ok (c.toNat - 48, r) else Except.error (⟨7, p⟩ : Fault)) = Except.map _ (if VahypBase.isDigit c = true ∧ c.toNat - 48 ≤ 5 then Except.ok (c.toNat - 48) else Except.error (⟨7, p⟩ : Fault))
      show (if VahypBase.isDigit c = true ∧ c.toNat - 48 ≤ 5 then Except.ok (c.toNat - 48, r) else Except.error (⟨7, p⟩ : Fault)) = _
      split <;> rfl
    | c :: d :: e => rfl
  | sign c => rfl
  | last => rfl
/-! ### words, then patterns -/
theorem words_fuel : ∀ (n m : Nat) (ws : List Vahypa.Word) (l : Toks), l.length < n → l.length < m → Vahypa.takeWords n ws l = Vahypa.takeWords m ws l
  | 0, _, _, _, h, _ => absurd h (Nat.not_lt_zero _)
  | _ + 1, 0, _, _, _, h => absurd h (Nat.not_lt_zero _)
  | n + 1, m + 1, ws, l, h1, h2 => by
    unfold Vahypa.takeWords
    by_cases hw : VahypBase.nextWord "word" l = true
    · rw [if_pos hw, if_pos hw]
      by_cases h24 : Vahypa.WORDS ≤ ws.length
      · rw [if_pos h24, if_pos h24]
      · rw [if_neg h24, if_neg h24]
        cases hc : VahypBase.takeChunk (l.drop 1) with
        | error f => rfl
        | ok x =>
          show (match Vahypa.wordOf x.2.1 with | none => _ | some w => _) = (match Vahypa.wordOf x.2.1 with | none => _ | some w => _)
          cases Vahypa.wordOf x.2.1 with
          | none => rfl
          | some w =>
            dsimp only
            by_cases hd : ws.any (fun v => v.x == w.x) = true
            · rw [if_pos hd, if_pos hd]
            · rw [if_neg hd, if_neg hd]
              cases hs : VahypBase.takeSign 59 x.2.2 with
              | error f => rfl
              | ok m' =>
                show Vahypa.takeWords n (ws ++ [w]) m' = Vahypa.takeWords m (ws ++ [w]) m'
                have hx : x.2.2.length ≤ l.length := by
                  unfold VahypBase.takeChunk at hc
                  split at hc
                  · rename_i p b r e
                    injection hc with hc
                    rw [← hc]
                    have := congrArg List.length e
                    rw [List.length_drop, List.length_cons] at this
                    show r.length ≤ l.length
                    omega
                  · cases hc
                have hm : m'.length < x.2.2.length ∨ m'.length = 0 ∧ 0 < l.length := by
                  unfold VahypBase.takeSign VahypBase.taken at hs
                  split at hs
                  · rename_i hn
                    injection hs with hs
                    cases hx2 : x.2.2 with
                    | nil => rw [hx2] at hn; cases hn
                    | cons a r =>
                      rw [hx2] at hs
                      rw [← hs]
                      left
                      show r.length < r.length + 1
                      omega
                  · cases hs
                have hl0 : 0 < l.length := by
                  cases l with
                  | nil => cases hw
                  | cons a r => simp
                exact words_fuel n m (ws ++ [w]) m' (by omega) (by omega)
    · rw [if_neg hw, if_neg hw]
theorem pats_fuel : ∀ (n m : Nat) (ps : List Vahypa.Pat) (l : Toks), l.length < n → l.length < m → Vahypa.takePats n ps l = Vahypa.takePats m ps l
  | 0, _, _, _, h, _ => absurd h (Nat.not_lt_zero _)
  | _ + 1, 0, _, _, _, h => absurd h (Nat.not_lt_zero _)
  | n + 1, m + 1, ps, l, h1, h2 => by
    unfold Vahypa.takePats
    by_cases hw : VahypBase.next .last l = true
    · rw [if_pos hw, if_pos hw]
    · rw [if_neg hw, if_neg hw]
      cases ht : VahypBase.takeWord "pattern" l with
      | error f => rfl
      | ok k =>
        have hk : k.length < l.length := by
          unfold VahypBase.takeWord VahypBase.taken at ht
          split at ht
          · rename_i hn
            injection ht with ht
            cases l with
            | nil => cases hn
            | cons a r =>
              rw [← ht]
              show r.length < r.length + 1
              omega
          · cases ht
        show (if Vahypa.PATS ≤ ps.length then _ else _) = (if Vahypa.PATS ≤ ps.length then _ else _)
        by_cases h24 : Vahypa.PATS ≤ ps.length
        · rw [if_pos h24, if_pos h24]
        · rw [if_neg h24, if_neg h24]
          cases hc : VahypBase.takeChunk k with
          | error f => rfl
          | ok x =>
            show (match Vahypa.patOf x.2.1 with | none => _ | some p => _) = (match Vahypa.patOf x.2.1 with | none => _ | some p => _)
            cases Vahypa.patOf x.2.1 with
            | none => rfl
            | some p =>
              dsimp only
              by_cases hd : ps.any (fun q => q.x == p.x && (q.front == p.front && q.halt_ == p.halt_)) = true
              · rw [if_pos hd, if_pos hd]
              · rw [if_neg hd, if_neg hd]
                cases hs : VahypBase.takeSign 59 x.2.2 with
                | error f => rfl
                | ok m' =>
                  show Vahypa.takePats n (ps ++ [p]) m' = Vahypa.takePats m (ps ++ [p]) m'
                  have hx : x.2.2.length ≤ k.length := by
                    unfold VahypBase.takeChunk at hc
                    split at hc
                    · injection hc with hc
                      rw [← hc]
                      simp
                    · cases hc
                  have hm : m'.length ≤ x.2.2.length := by
                    unfold VahypBase.takeSign VahypBase.taken at hs
                    split at hs
                    · injection hs with hs
                      rw [← hs, List.length_drop]
                      omega
                    · cases hs
                  exact pats_fuel n m (ps ++ [p]) m' (by omega) (by omega)
/-- what is read of the rest, from words and patterns told so far -/
def restR (a z : Nat) (ws : List Vahypa.Word) (ps : List Vahypa.Pat) (l : Toks) : Except Fault Vahypa.Lst := if ps = [] then (Vahypa.takeWords (l.length + 1) ws l).bind fun x => (Vahypa.takePats (x.2.length + 1) [] x.2).map fun ps => ⟨a, z, x.1, ps⟩ else (Vahypa.takePats (l.length + 1) ps l).map fun ps => ⟨a, z, ws, ps⟩
theorem word_word_ne : VahypBase.word "word" ≠ [] ∧ VahypBase.word "word" ≠ [59] := by decide
theorem word_pattern_ne : VahypBase.word "pattern" ≠ [] ∧ VahypBase.word "pattern" ≠ [59] := by decide
theorem word_margins_ne : VahypBase.word "margins" ≠ [] ∧ VahypBase.word "margins" ≠ [59] := by decide
theorem next_word {t : PTok} {r : Toks} (hw : WfTok t) : VahypBase.nextWord "word" (t :: r) = decide (sgn t.tok = VahypBase.word "word") := eq_chunk hw word_word_ne.1 word_word_ne.2
theorem pats_last {n : Nat} {ps : List Vahypa.Pat} {t : PTok} {r : Toks} (hw : WfTok t) (h : sgn t.tok = []) : Vahypa.takePats (n + 1) ps (t :: r) = .ok ps := by
  unfold Vahypa.takePats
  rw [if_pos]
  show VahypBase.tokEq t.tok .last = true
  rw [eq_last hw, decide_eq_true h]
theorem pats_else {n : Nat} {ps : List Vahypa.Pat} {t : PTok} {r : Toks} (hw : WfTok t) (h : ¬ sgn t.tok = []) (h2 : ¬ sgn t.tok = VahypBase.word "pattern") : Vahypa.takePats (n + 1) ps (t :: r) = .error ⟨3, t.place⟩ := by
  unfold Vahypa.takePats
  rw [if_neg (by show ¬ VahypBase.tokEq t.tok .last = true; rw [eq_last hw, decide_eq_false h]; exact Bool.false_ne_true), take_word hw word_pattern_ne.1 word_pattern_ne.2, if_neg h2]
  rfl
theorem words_else {n : Nat} {ws : List Vahypa.Word} {t : PTok} {r : Toks} (hw : WfTok t) (h : ¬ sgn t.tok = VahypBase.word "word") : Vahypa.takeWords (n + 1) ws (t :: r) = .ok (ws, t :: r) := by
  unfold Vahypa.takeWords
  rw [if_neg (by rw [next_word hw, decide_eq_false h]; exact Bool.false_ne_true)]
theorem words_turn {n : Nat} {ws : List Vahypa.Word} {t t1 : PTok} {r : Toks} (hw : WfTok t) (h : sgn t.tok = VahypBase.word "word") : Vahypa.takeWords (n + 1) ws (t :: t1 :: r) = (wordStep ws t t1).bind fun w => (VahypBase.takeSign 59 r).bind fun m => Vahypa.takeWords n (ws ++ [w]) m := by
  unfold wordStep
  conv => lhs; unfold Vahypa.takeWords
  rw [if_pos (by rw [next_word hw, decide_eq_true h])]
  show (if 24 ≤ ws.length then _ else _) = _
  by_cases h24 : 24 ≤ ws.length
  · rw [if_pos h24, if_pos h24]
    rfl
  · rw [if_neg h24, if_neg h24]
    obtain ⟨p, k⟩ := t1
    cases k with
    | chunk b =>
      show (match Vahypa.wordOf b with | none => _ | some w => _) = Except.bind (match WM.wordP b with | none => _ | some w => _) _
      rw [WM.word_is]
      cases WM.wordP b with
      | none => rfl
      | some w =>
        dsimp only
        by_cases hd : ws.any (fun v => v.x == w.x) = true
        · rw [if_pos hd, if_pos hd]; rfl
        · rw [if_neg hd, if_neg hd]; rfl
    | sign c => rfl
    | last => rfl
theorem pats_turn {n : Nat} {ps : List Vahypa.Pat} {t t1 : PTok} {r : Toks} (hw : WfTok t) (h : sgn t.tok = VahypBase.word "pattern") : Vahypa.takePats (n + 1) ps (t :: t1 :: r) = (patStep ps t t1).bind fun p => (VahypBase.takeSign 59 r).bind fun m => Vahypa.takePats n (ps ++ [p]) m := by
  unfold patStep
  conv => lhs; unfold Vahypa.takePats
  have hne : ¬ sgn t.tok = [] := by rw [h]; exact word_pattern_ne.1
  rw [if_neg (by show ¬ VahypBase.tokEq t.tok .last = true; rw [eq_last hw, decide_eq_false hne]; exact Bool.false_ne_true), take_word hw word_pattern_ne.1 word_pattern_ne.2, if_pos h]
  show (if 40 ≤ ps.length then _ else _) = _
  by_cases h24 : 40 ≤ ps.length
  · rw [if_pos h24, if_pos h24]
    rfl
  · rw [if_neg h24, if_neg h24]
    obtain ⟨p, k⟩ := t1
    cases k with
    | chunk b =>
      show (match Vahypa.patOf b with | none => _ | some w => _) = Except.bind (match Vahypa.patOf b with | none => _ | some w => _) _
      cases Vahypa.patOf b with
      | none => rfl
      | some w =>
        dsimp only
        by_cases hd : ps.any (fun q => q.x == w.x && (q.front == w.front && q.halt_ == w.halt_)) = true
        · rw [if_pos hd, if_pos hd]; rfl
        · rw [if_neg hd, if_neg hd]; rfl
    | sign c => rfl
    | last => rfl
/-! ### one turn of the reading -/
theorem rest_last {a z : Nat} {ws : List Vahypa.Word} {ps : List Vahypa.Pat} {t : PTok} {r : Toks} (hw : WfTok t) (h : sgn t.tok = []) : restR a z ws ps (t :: r) = .ok ⟨a, z, ws, ps⟩ := by
  unfold restR
  by_cases hp : ps = []
  · subst hp
    rw [if_pos rfl, words_else hw (by rw [h]; exact fun e => word_word_ne.1 e.symm)]
    show Except.map _ (Vahypa.takePats ((t :: r).length + 1) [] (t :: r)) = _
    rw [pats_last hw h]
    rfl
  · rw [if_neg hp, pats_last hw h]
    rfl
theorem rest_else {a z : Nat} {ws : List Vahypa.Word} {ps : List Vahypa.Pat} {t : PTok} {r : Toks} (hw : WfTok t) (h : ¬ sgn t.tok = []) (h1 : ¬ (sgn t.tok = VahypBase.word "word" ∧ ps = [])) (h2 : ¬ sgn t.tok = VahypBase.word "pattern") : restR a z ws ps (t :: r) = .error ⟨3, t.place⟩ := by
  unfold restR
  by_cases hp : ps = []
  · subst hp
    rw [if_pos rfl, words_else hw (fun e => h1 ⟨e, rfl⟩)]
    show Except.map _ (Vahypa.takePats ((t :: r).length + 1) [] (t :: r)) = _
    rw [pats_else hw h h2]
    rfl
  · rw [if_neg hp, pats_else hw h h2]
    rfl
theorem sign_len {r m : Toks} (h : VahypBase.takeSign 59 r = .ok m) : m.length < r.length := by
  unfold VahypBase.takeSign VahypBase.taken at h
  split at h
  · rename_i hn
    injection h with h
    cases r with
    | nil => cases hn
    | cons a r' =>
      rw [← h]
      show r'.length < r'.length + 1
      omega
  · cases h
theorem rest_word {a z : Nat} {ws : List Vahypa.Word} {t t1 : PTok} {r : Toks} (hw : WfTok t) (h : sgn t.tok = VahypBase.word "word") : restR a z ws [] (t :: t1 :: r) = (wordStep ws t t1).bind fun w => (VahypBase.takeSign 59 r).bind fun m => restR a z (ws ++ [w]) [] m := by
  unfold restR
  rw [if_pos rfl, words_turn hw h]
  cases wordStep ws t t1 with
  | error f => rfl
  | ok w =>
    cases hs : VahypBase.takeSign 59 r with
    | error f => rfl
    | ok m =>
      have hm := sign_len hs
      show (Vahypa.takeWords ((t :: t1 :: r).length) (ws ++ [w]) m).bind _ = (Vahypa.takeWords (m.length + 1) (ws ++ [w]) m).bind _
      rw [words_fuel ((t :: t1 :: r).length) (m.length + 1) _ m (by simp only [List.length_cons]; omega) (Nat.lt_succ_self _)]
theorem rest_pat {a z : Nat} {ws : List Vahypa.Word} {ps : List Vahypa.Pat} {t t1 : PTok} {r : Toks} (hw : WfTok t) (h : sgn t.tok = VahypBase.word "pattern") : restR a z ws ps (t :: t1 :: r) = (patStep ps t t1).bind fun p => (VahypBase.takeSign 59 r).bind fun m => restR a z ws (ps ++ [p]) m := by
  have key : ∀ n, (t :: t1 :: r).length < n → (Vahypa.takePats n ps (t :: t1 :: r)).map (fun ps => (⟨a, z, ws, ps⟩ : Vahypa.Lst)) = (patStep ps t t1).bind fun p => (VahypBase.takeSign 59 r).bind fun m => restR a z ws (ps ++ [p]) m := fun n hn => by
    cases n with
    | zero => exact absurd hn (Nat.not_lt_zero _)
    | succ n =>
      rw [pats_turn hw h]
      cases patStep ps t t1 with
      | error f => rfl
      | ok p =>
        cases hs : VahypBase.takeSign 59 r with
        | error f => rfl
        | ok m =>
          have hm := sign_len hs
          simp only [List.length_cons] at hn
          show (Vahypa.takePats n (ps ++ [p]) m).map _ = restR a z ws (ps ++ [p]) m
          unfold restR
          rw [if_neg (by simp), pats_fuel n (m.length + 1) _ m (by omega) (Nat.lt_succ_self _)]
  unfold restR
  by_cases hp : ps = []
  · subst hp
    rw [if_pos rfl, words_else hw (by rw [h]; decide)]
    exact key _ (Nat.lt_succ_self _)
  · rw [if_neg hp]
    exact key _ (Nat.lt_succ_self _)
theorem read_is {b : Bytes} (h : b.length ≤ 4096) : Vahypa.read b = (WM.lexA 0 b).bind fun l => (VahypBase.takeWord "margins" l).bind fun l => (Vahypa.takeMargin l).bind fun a => (Vahypa.takeMargin a.2).bind fun z => (VahypBase.takeSign 59 z.2).bind fun l => restR a.1 z.1 [] [] l := by
  unfold Vahypa.read VahypBase.tokens
  rw [if_neg (by unfold VahypBase.TEXT; omega)]
  show (WM.lexA 0 b).bind _ = _
  congr 1
  funext l
  congr 1
  funext l
  congr 1
  funext x
  congr 1
  funext y
  congr 1
  funext l
  unfold restR
  rw [if_pos rfl]
  cases hq : Vahypa.takeWords (l.length + 1) [] l with
  | error f => rfl
  | ok q =>
    show (Vahypa.takePats (l.length + 1) [] q.2).map _ = (Vahypa.takePats (q.2.length + 1) [] q.2).map _
    have hl : q.2.length ≤ l.length := by
      have gen : ∀ (n : Nat) (ws : List Vahypa.Word) (l : Toks) (q : List Vahypa.Word × Toks), Vahypa.takeWords n ws l = .ok q → q.2.length ≤ l.length := by
        intro n
        induction n with
        | zero => intro ws l q h; cases h
        | succ n ih =>
          intro ws l q h
          unfold Vahypa.takeWords at h
          split at h
          · split at h
            · cases h
            · cases hc : VahypBase.takeChunk (l.drop 1) with
              | error f => rw [hc] at h; cases h
              | ok x =>
                rw [hc] at h
                have h : (match Vahypa.wordOf x.2.1 with | none => _ | some w => _) = _ := h
                cases hw : Vahypa.wordOf x.2.1 with
                | none => rw [hw] at h; cases h
                | some w =>
                  rw [hw] at h
                  dsimp only at h
                  split at h
                  · cases h
                  · cases hs : VahypBase.takeSign 59 x.2.2 with
                    | error f => rw [hs] at h; cases h
                    | ok m =>
                      rw [hs] at h
                      have h2 := ih _ _ _ h
                      have hm := sign_len hs
                      have hx : x.2.2.length ≤ l.length := by
                        unfold VahypBase.takeChunk at hc
                        split at hc
                        · rename_i p b r e
                          injection hc with hc
                          rw [← hc]
                          have := congrArg List.length e
                          rw [List.length_drop, List.length_cons] at this
                          show r.length ≤ l.length
                          omega
                        · cases hc
                      omega
          · injection h with h
            rw [← h]
            exact Nat.le_refl _
      exact gen _ _ _ _ hq
    rw [pats_fuel (l.length + 1) (q.2.length + 1) [] q.2 (by omega) (Nat.lt_succ_self _)]
end WG
set_option Elab.async false
set_option linter.all false
set_option maxRecDepth 100000
set_option maxHeartbeats 2000000
namespace WG
open PySem PySem.Spec PyProof.Rows L2
open VahypBase (Bytes PTok Toks Fault)
def WordB (C : Addr) (H0 : Hp) (wl pl : Addr) (H : Hp) (a : Addr) (w : Vahypa.Word) : Prop := ∃ dx bl, H a = some (.ins C dx (fW w.x bl)) ∧ H bl = some (.lst (nv w.cuts)) ∧ bl ≠ wl ∧ bl ≠ pl ∧ H0 bl = none
/-- a list that was made since H0: none of its own lists was tracked there -/
def ListNew (D : Ads) (H0 H : Hp) (a : Addr) (s : Vahypa.Lst) : Prop := ∃ dx wl pl, H a = some (.ins D.cL dx (fL s.l s.r wl pl)) ∧ RefsAt (WordNew D.cW H0) H wl s.words ∧ RefsAt PatAt H pl s.pats ∧ H0 wl = none ∧ H0 pl = none
theorem semi59 : (";" : Str) = tx [59] := semi_tx
theorem drop_two {α : Type} {l : List α} {i : Nat} {x : α} (h : l[i]? = some x) : l.drop i = x :: l.drop (i + 1) := by
  obtain ⟨h1, h2⟩ := List.getElem?_eq_some_iff.mp h
  rw [List.drop_eq_getElem_cons h1, h2]
theorem chunk_more {t : PTok} (h : isChunk t) : t.tok ≠ .last := fun e => by
  obtain ⟨b, hb⟩ := h
  rw [hb] at e
  cases e
theorem sgn_more {t : PTok} (h : sgn t.tok ≠ []) : t.tok ≠ .last := fun e => by
  rw [e] at h
  exact h rfl
theorem wordStep_chunk {ws : List Vahypa.Word} {t0 t : PTok} {w : Vahypa.Word} (h : wordStep ws t0 t = .ok w) : isChunk t ∧ ws.length < 24 := by
  unfold wordStep at h
  split at h
  · cases h
  · rename_i hl
    refine ⟨?_, by omega⟩
    cases hk : t.tok with
    | chunk b => exact ⟨b, hk⟩
    | sign c => rw [hk] at h; cases h
    | last => rw [hk] at h; cases h
theorem patStep_chunk {ps : List Vahypa.Pat} {t0 t : PTok} {p : Vahypa.Pat} (h : patStep ps t0 t = .ok p) : isChunk t ∧ ps.length < 40 := by
  unfold patStep at h
  split at h
  · cases h
  · rename_i hl
    refine ⟨?_, by omega⟩
    cases hk : t.tok with
    | chunk b => exact ⟨b, hk⟩
    | sign c => rw [hk] at h; cases h
    | last => rw [hk] at h; cases h
theorem margin_chunk {t : PTok} {m : Nat} (h : marginOf t = .ok m) : isChunk t := by
  unfold marginOf at h
  cases hk : t.tok with
  | chunk b => exact ⟨b, hk⟩
  | sign c => rw [hk] at h; cases h
  | last => rw [hk] at h; cases h
section
variable {P : Program} {w : World} {K : PySem.W.Frag} {mg : Str → Option Value} {base : Heap} {D : Ads}
abbrev s_read_list : Stmt := top 47
abbrev N_read_list : List Str := ["text", "tokens", "left", "right", "words", "patterns", "at", "place", "signs"]
theorem sc_read_list : FnScope N_read_list ["text"] (defScope s_read_list) := ⟨rfl, rfl, rfl, by decide +kernel, rfl, by decide +kernel, by decide +kernel⟩
def sp_read_list (K : PySem.W.Frag) (D : Ads) : Sp := fun vs H Q E => ∃ (a : Addr) (b : Bytes), vs = [.ref a] ∧ SqL K H a (bv b) ∧ b.length ≤ 10000 ∧
  (∀ s, Vahypa.read b = .ok s → ∀ H' p, Same H H' → ListNew D H H' p s → Q (.ref p) H') ∧ (∀ f, Vahypa.read b = .error f → FaultE D.cF H E f)
theorem df_read_list {f : Addr} {fd : FuncData} (F : At K mg "read_list" s_read_list ["text"] f fd) (T : Txt K mg D) (FO : FaultOk P w K mg base D)
    (m_WordList : Mka P w K mg base 1 "WordList" D.cL ["self", "left", "right", "words", "patterns"] (sp_WordList_init D.cL))
    (c_read_tokens : Df P w K mg base (L2.CX P w) 4 "read_tokens" ["text"] (sp_read_tokens K D.cF)) (c_need_signs : Df P w K mg base (L2.CX P w) 3 "need_signs" ["tokens", "at", "signs"] (sp_need_signs D.cF))
    (c_read_margin : Df P w K mg base (L2.CX P w) 4 "read_margin" ["tokens", "at"] (sp_read_margin D.cF)) (c_read_word : Df P w K mg base (L2.CX P w) 4 "read_word" ["tokens", "at", "earlier"] (sp_read_word D))
    (c_read_pattern : Df P w K mg base (L2.CX P w) 4 "read_pattern" ["tokens", "at", "earlier"] (sp_read_pattern D)) : Df P w K mg base (L2.CX P w) 5 "read_list" ["text"] (sp_read_list K D) := by
  refine dfX (N := N_read_list) F sc_read_list (fun vs H Q E h => ?_) (fun cdv A outer s H vs Q E hr h => ⟨_, (pss_cons (ps_if (pt_cmpR op_gt (pe_callB call_len_seq (by rfl) T.n_len (by decide +kernel) (pa_cons (pv 0) pa_nil)) (C8.pe_gc rfl T.c_MOST_BYTES) (nomark _))
(pss_one (ps_raise rfl (takes_of rfl rfl rfl rfl) (pmk_fault T FO hr (by decide) rfl (pa_cons pe_int (pa_cons (C8.pe_gc rfl T.c_MOST_BYTES) pa_nil)))))
pss_nil)
(pss_cons (ps_set (i := 1) sc_read_list.nd rfl (Or.inl rfl) (pe_dX c_read_tokens hr (by decide) rfl (takes_of rfl rfl rfl rfl) (pa_cons (pv 0) pa_nil)))
(pss_cons (ps_expr (pe_dX c_need_signs hr (by decide) rfl (takes_of rfl rfl rfl rfl) (pa_cons (pv 1) (pa_cons pe_int (pa_cons pe_str pa_nil)))))
(pss_cons (ps_set (i := 2) sc_read_list.nd rfl (Or.inl rfl) (pe_dX c_read_margin hr (by decide) rfl (takes_of rfl rfl rfl rfl) (pa_cons (pv 1) (pa_cons pe_int pa_nil))))
(pss_cons (ps_set (i := 3) sc_read_list.nd rfl (Or.inl rfl) (pe_dX c_read_margin hr (by decide) rfl (takes_of rfl rfl rfl rfl) (pa_cons (pv 1) (pa_cons pe_int pa_nil))))
(pss_cons (ps_expr (pe_dX c_need_signs hr (by decide) rfl (takes_of rfl rfl rfl rfl) (pa_cons (pv 1) (pa_cons pe_int (pa_cons pe_str pa_nil)))))
(pss_cons (ps_set (i := 4) sc_read_list.nd rfl (Or.inl rfl) (pe_lst pa_nil))
(pss_cons (ps_set (i := 5) sc_read_list.nd rfl (Or.inl rfl) (pe_lst pa_nil))
(pss_cons (ps_set (i := 6) sc_read_list.nd rfl (Or.inl rfl) pe_int)
(pss_cons (ps_while (passes_of rfl) (pt_cmpR op_ne (pe_ix ix_tup (pe_ix ix_list (pv 1) (pv 6) (fun _ _ => rfl)) pe_int (fun _ _ => rfl)) pe_str (nomark _))
(pss_cons (ps_asg (pe_ix ix_list (pv 1) (pv 6) (fun _ _ => rfl)) (pg_tup rfl (pgs_cons (pg_name (i := 7) sc_read_list.nd rfl (Or.inl rfl)) (pgs_cons (pg_name (i := 8) sc_read_list.nd rfl (Or.inl rfl)) pgs_nil))))
(C8.pss_cut (ps_if (PW.pt (pw_and (pt_cmpR op_eq (pv 8) pe_str (nomark _)) (pw_and1 (pt_cmpR op_eq (pe_callB call_len_seq (by rfl) T.n_len (by decide +kernel) (pa_cons (pv 5) pa_nil)) pe_int (nomark _)))))
(pss_one (ps_expr (pe_bm PySem.F.plainAttrs_list PySem.F.slot_list_append PySem.F.type_list_append mt_append (pv 4) (pa_cons (pe_dX c_read_word hr (by decide) rfl (takes_of rfl rfl rfl rfl) (pa_cons (pv 1) (pa_cons (pv 6) (pa_cons (pv 4) pa_nil)))) pa_nil))))
(pss_one (ps_if (pt_cmpR op_eq (pv 8) pe_str (nomark _))
(pss_one (ps_expr (pe_bm PySem.F.plainAttrs_list PySem.F.slot_list_append PySem.F.type_list_append mt_append (pv 5) (pa_cons (pe_dX c_read_pattern hr (by decide) rfl (takes_of rfl rfl rfl rfl) (pa_cons (pv 1) (pa_cons (pv 6) (pa_cons (pv 5) pa_nil)))) pa_nil))))
(pss_one (ps_raise rfl (takes_of rfl rfl rfl rfl) (pmk_fault T FO hr (by decide) rfl (pa_cons pe_int (pa_cons (pv 7) pa_nil))))))))
(pss_cons (ps_expr (pe_dX c_need_signs hr (by decide) rfl (takes_of rfl rfl rfl rfl) (pa_cons (pv 1) (pa_cons (pe_op op_add (pv 6) pe_int) (pa_cons pe_str pa_nil)))))
(pss_one (ps_aug (i := 6) sc_read_list.nd rfl (Or.inl rfl) pe_int ip_add))))))
(pss_one (ps_ret (pe_mk1 m_WordList hr (by decide) rfl (pa_cons (pv 2) (pa_cons (pv 3) (pa_cons (pv 4) (pa_cons (pv 5) pa_nil))))))))))))))))), ?_⟩)
  · obtain ⟨a, b, rfl, _⟩ := h
    rfl
  · obtain ⟨a, b, rfl, hb, hbl, kS, kE⟩ := h
    refine ⟨_, rfl, a, _, rfl, .inl hb, _, _, rfl, rfl, _, rfl, ?_⟩
    rw [bv_len]
    by_cases hlen : b.length ≤ 4096
    case neg =>
      refine iteT' (decide_eq_true (by omega)) (fault_end ((kE ⟨1, 4096⟩ ?_).now (Same.refl H)))
      unfold Vahypa.read VahypBase.tokens
      rw [if_pos (by unfold VahypBase.TEXT; omega)]
      rfl
    refine iteF' (decide_eq_false (by omega)) ?_
    have hread := read_is hlen
    refine ⟨_, rfl, a, b, rfl, hb, by omega, fun toks hlex htl H1 tk e1 ntk hT => ?_, fun f hf => ?_⟩
    case refine_2 =>
      rw [hf] at hread
      exact kE f hread
    rw [hlex] at hread
    have G := lexA_ok hlex
    -- need_signs(tokens, 0, "margins")
    obtain ⟨t0, r0, htoks⟩ : ∃ t0 r0, toks = t0 :: r0 := by
      cases htk : toks with
      | nil => exact absurd htk G.ne
      | cons t0 r0 => exact ⟨t0, r0, rfl⟩
    have ht0 : toks[0]? = some t0 := by rw [htoks]; rfl
    have hw0 : WfTok t0 := G.wf t0 (List.mem_of_getElem? ht0)
    have hread : Vahypa.read b = (VahypBase.takeWord "margins" toks).bind fun l => (Vahypa.takeMargin l).bind fun a => (Vahypa.takeMargin a.2).bind fun z => (VahypBase.takeSign 59 z.2).bind fun l => restR a.1 z.1 [] [] l := hread
    have hd0 : toks = t0 :: toks.drop 1 := drop_two ht0
    rw [show VahypBase.takeWord "margins" toks = _ from (congrArg _ hd0).trans (take_word hw0 word_margins_ne.1 word_margins_ne.2)] at hread
    refine ⟨_, rfl, tk, 0, VahypBase.word "margins", toks, t0, congrArg (fun z => [V.ref tk, V.int 0, V.str z]) margins_tx, hT, ht0, fun hm => ?_, fun hm => ?_⟩
    case refine_2 =>
      rw [if_neg hm] at hread
      exact (kE _ hread).mono e1
    rw [if_pos hm] at hread
    obtain ⟨t1, ht1⟩ := G.more 0 t0 ht0 (sgn_more (by rw [hm]; exact word_margins_ne.1))
    have hw1 := G.wf t1 (List.mem_of_getElem? ht1)
    have hd1 : toks.drop 1 = t1 :: toks.drop 2 := drop_two ht1
    have hread : Vahypa.read b = (Vahypa.takeMargin (toks.drop 1)).bind fun a => (Vahypa.takeMargin a.2).bind fun z => (VahypBase.takeSign 59 z.2).bind fun l => restR a.1 z.1 [] [] l := hread
    rw [hd1, take_margin] at hread
    -- left
    refine ⟨_, rfl, tk, 1, toks, t1, rfl, hT, ht1, hw1, fun ml hml H2 e2 => ?_, fun f hf => ?_⟩
    case refine_2 =>
      rw [hf] at hread
      exact (kE _ hread).mono e1
    rw [hml] at hread
    obtain ⟨t2, ht2⟩ := G.more 1 t1 ht1 (chunk_more (margin_chunk hml))
    have hw2 := G.wf t2 (List.mem_of_getElem? ht2)
    have hd2 : toks.drop 2 = t2 :: toks.drop 3 := drop_two ht2
    have hread : Vahypa.read b = (Vahypa.takeMargin (toks.drop 2)).bind fun z => (VahypBase.takeSign 59 z.2).bind fun l => restR ml z.1 [] [] l := hread
    rw [hd2, take_margin] at hread
    have e12 := e1.trans e2
    -- right
    refine ⟨_, rfl, tk, 2, toks, t2, rfl, hT.same TokAt.same e2, ht2, hw2, fun mr hmr H3 e3 => ?_, fun f hf => ?_⟩
    case refine_2 =>
      rw [hf] at hread
      exact (kE _ hread).mono e12
    rw [hmr] at hread
    obtain ⟨t3, ht3⟩ := G.more 2 t2 ht2 (chunk_more (margin_chunk hmr))
    have hw3 := G.wf t3 (List.mem_of_getElem? ht3)
    have hd3 : toks.drop 3 = t3 :: toks.drop 4 := drop_two ht3
    have hread : Vahypa.read b = (VahypBase.takeSign 59 (toks.drop 3)).bind fun l => restR ml mr [] [] l := hread
    rw [hd3, take_sign hw3] at hread
    have e13 := e12.trans e3
    have hT3 := hT.same TokAt.same (e2.trans e3)
    -- need_signs(tokens, 3, ";")
    refine ⟨_, rfl, tk, 3, [59], toks, t3, congrArg (fun z => [V.ref tk, V.int 3, V.str z]) semi59, hT3, ht3, fun hm3 => ?_, fun hm3 => ?_⟩
    case refine_2 =>
      rw [if_neg hm3] at hread
      exact (kE _ hread).mono e13
    rw [if_pos hm3] at hread
    obtain ⟨t4, ht4⟩ := G.more 3 t3 ht3 (sgn_more (by rw [hm3]; simp))
    have hread : Vahypa.read b = restR ml mr [] [] (toks.drop 4) := hread
    -- words = []; patterns = []; at = 4
    refine ⟨by show 0 ≤ sizeLine; exact Nat.zero_le _, fun wl hwl => ⟨by show 0 ≤ sizeLine; exact Nat.zero_le _, fun pl hpl => ?_⟩⟩
    have nwp : wl ≠ pl := fun z => by rw [← z, upd_same] at hpl; cases hpl
    have npl3 : H3 pl = none := by rw [upd_ne (Ne.symm nwp)] at hpl; exact hpl
    have nwlH : H wl = none := e13.free hwl
    have nplH : H pl = none := e13.free npl3
    have e34 : Same H3 (upd (upd H3 wl (.lst [])) pl (.lst [])) := (same_upd hwl).trans (same_upd hpl)
    refine ⟨fun m σ H' => ∃ i : Nat, ∃ ws ps v7 v8, m = toks.length - i ∧ σ = [some (.ref a), some (.ref tk), some (.int (ml : Nat)), some (.int (mr : Nat)), some (.ref wl), some (.ref pl), some (.int (i : Nat)), v7, v8] ∧ Same H3 H' ∧
      RefsAt (WordB D.cW H wl pl) H' wl ws ∧ RefsAt PatAt H' pl ps ∧ ws.length ≤ 24 ∧ ps.length ≤ 40 ∧ (∃ t, toks[i]? = some t) ∧ Vahypa.read b = restR ml mr ws ps (toks.drop i),
      ⟨_, 4, [], [], none, none, rfl, rfl, e34, ⟨[], (upd_ne nwp).trans upd_same, .nil⟩, ⟨[], upd_same, .nil⟩, Nat.zero_le _, Nat.zero_le _, ⟨t4, ht4⟩, hread⟩, ?_⟩
    rintro m σ H' ⟨i, ws, ps, v7, v8, rfl, rfl, e, ⟨us, hus, husp⟩, ⟨qs, hqs, hqsp⟩, hwsl, hpsl, ⟨t, ht⟩, hrd⟩
    have hwt := G.wf t (List.mem_of_getElem? ht)
    have hi : i < toks.length := (List.getElem?_eq_some_iff.mp ht).1
    have eH : Same H H' := e13.trans e
    have hTi : RefsAt TokAt H' tk toks := hT3.same TokAt.same e
    obtain ⟨tas, htas, htasp⟩ := id hTi
    obtain ⟨c, hc, hca⟩ := pget2 htasp ht
    have hga : (tas.map V.ref)[i]? = some (.ref c) := by rw [List.getElem?_map, hc] <;> rfl
    have hdi : toks.drop i = t :: toks.drop (i + 1) := drop_two ht
    refine ⟨_, rfl, _, rfl, tk, _, _, .ref c, rfl, rfl, SqL.of htas, atI_nat hga, c, _, 1, _, rfl, rfl, SqT.of hca, rfl, rfl, _, rfl, ?_⟩
    have eemp : (V.str (tx (sgn t.tok)) = V.str ("" : Str)) ↔ sgn t.tok = [] := by rw [empty_tx]; exact str_iff
    by_cases hlast : sgn t.tok = []
    · -- the end
      rw [decide_eq_true (eemp.mpr hlast)]
      rw [hdi, rest_last hwt hlast] at hrd
      refine iteF ⟨_, rfl, _, rfl, _, rfl, _, rfl, ?_⟩
      intro x dx hx hdx hne
      refine ⟨x, dx, wl, pl, ml, mr, rfl, upd_same, fun H5 h1 h2 => ⟨rfl, kS _ hrd H5 x (fun d o hd => ?_) ⟨dx, wl, pl, h1, ⟨us, ?_, ?_⟩, ⟨qs, ?_, ?_⟩, nwlH, nplH⟩⟩⟩
      · have q := eH _ _ hd
        rw [h2 d (ne_of_none q hx), upd_ne (ne_of_none q hx), upd_ne (ne_of_none q hdx)]
        exact q
      · rw [h2 wl (ne_of_none hus hx), upd_ne (ne_of_none hus hx), upd_ne (ne_of_none hus hdx)]
        exact hus
      · refine Paired.mapP husp fun d u hd => ?_
        obtain ⟨du, bu, hu1, hu2, _, _, n3⟩ := hd
        refine ⟨du, bu, ?_, ?_, n3⟩
        · rw [h2 d (ne_of_none hu1 hx), upd_ne (ne_of_none hu1 hx), upd_ne (ne_of_none hu1 hdx)]
          exact hu1
        · rw [h2 bu (ne_of_none hu2 hx), upd_ne (ne_of_none hu2 hx), upd_ne (ne_of_none hu2 hdx)]
          exact hu2
      · rw [h2 pl (ne_of_none hqs hx), upd_ne (ne_of_none hqs hx), upd_ne (ne_of_none hqs hdx)]
        exact hqs
      · refine Paired.mapP hqsp fun d u hd => ?_
        have hd : H' d = some _ := hd
        show H5 d = _
        rw [h2 d (ne_of_none hd hx), upd_ne (ne_of_none hd hx), upd_ne (ne_of_none hd hdx)]
        exact hd
    rw [decide_eq_false (fun z => hlast (eemp.mp z))]
    refine iteT ⟨_, fun σ' H' h => h, ?_⟩
    -- place, signs = tokens[at]
    refine ⟨_, rfl, _, rfl, tk, _, _, .ref c, rfl, rfl, SqL.of htas, atI_nat hga, c, _, rfl, SqT.of hca, rfl, _, _, rfl, _, _, rfl, rfl, ?_⟩
    obtain ⟨t', ht'⟩ := G.more i t ht (sgn_more hlast)
    have hwt' := G.wf t' (List.mem_of_getElem? ht')
    have hdi' : toks.drop (i + 1) = t' :: toks.drop (i + 2) := drop_two ht'
    rw [hdi, hdi'] at hrd
    -- what stands behind the if
    refine ⟨fun σ' H5 => ∃ ws' ps', σ' = [some (.ref a), some (.ref tk), some (.int (ml : Nat)), some (.int (mr : Nat)), some (.ref wl), some (.ref pl), some (.int (i : Nat)), some (.int (t.place : Nat)), some (.str (tx (sgn t.tok)))] ∧ Same H3 H5 ∧
      RefsAt (WordB D.cW H wl pl) H5 wl ws' ∧ RefsAt PatAt H5 pl ps' ∧ ws'.length ≤ 24 ∧ ps'.length ≤ 40 ∧ isChunk t' ∧ Vahypa.read b = (VahypBase.takeSign 59 (toks.drop (i + 2))).bind fun m => restR ml mr ws' ps' m, ?_, ?_⟩
    · have ewd : (V.str (tx (sgn t.tok)) = V.str ("word" : Str)) ↔ sgn t.tok = VahypBase.word "word" := by rw [word_tx]; exact str_iff
      have epd : (V.str (tx (sgn t.tok)) = V.str ("pattern" : Str)) ↔ sgn t.tok = VahypBase.word "pattern" := by rw [pattern_tx]; exact str_iff
      have hql : qs.length = ps.length := hqsp.length
      have hul : us.length = ws.length := husp.length
      dsimp only [tIfS]
      refine tAnd_val (a := decide (V.str (tx (sgn t.tok)) = V.str ("word" : Str))) (b := decide (V.int ((ps.length : Nat) : Int) = V.int 0)) (fun R h => ⟨_, rfl, rfl, _, rfl, h⟩) (fun R h => ⟨_, rfl, pl, _, rfl, .inl (SqL.of hqs), rfl, _, rfl, by rw [List.length_map, hql]; exact h⟩) ?_
      have elen : (V.int ((ps.length : Nat) : Int) = V.int 0) ↔ ps = [] := by
        rw [int_iff]
        cases ps with
        | nil => simp
        | cons a r => simp; omega
      by_cases hcond : sgn t.tok = VahypBase.word "word" ∧ ps = []
      · -- words.append(read_word(tokens, at, words))
        refine iteT' (by rw [decide_eq_true (ewd.mpr hcond.1), decide_eq_true (elen.mpr hcond.2)]; rfl) ?_
        rw [hcond.2, rest_word hwt hcond.1] at hrd
        refine ⟨_, rfl, .inl ⟨rfl, _, SqL.of hus⟩, _, rfl, _, rfl, _, rfl, tk, wl, i, toks, t, t', ws, rfl, hTi, ht, ht', hwt', ⟨us, hus, Paired.mapP husp fun d u hd => ?_⟩, hwsl, fun wd hwd H5 p e5 hp => ?_, fun f hf => ?_⟩
        · obtain ⟨du, bu, hu1, hu2, _, _, _⟩ := hd
          exact ⟨du, bu, hu1, hu2⟩
        · have hck := wordStep_chunk hwd
          rw [hwd] at hrd
          obtain ⟨dp, bp, hp1, hp2, hp3⟩ := hp
          have nbw : bp ≠ wl := fun z => by rw [z, hus] at hp3; cases hp3
          have nbp : bp ≠ pl := fun z => by rw [z, hqs] at hp3; cases hp3
          have hus5 := e5 _ _ hus
          refine ⟨wl, _, _, rfl, rfl, hus5, ?_, ?_⟩
          · rw [List.length_map, hul]
            exact Nat.lt_of_le_of_lt (by omega : ws.length ≤ 100) (by decide)
          · have up : ∀ d u, WordB D.cW H wl pl H5 d u → WordB D.cW H wl pl (upd H5 wl (.lst (us.map V.ref ++ [.ref p]))) d u := fun d u hd => by
              obtain ⟨du, bu, hu1, hu2, n1, n2, n3⟩ := hd
              exact ⟨du, bu, by rw [upd_ne (ne_of hu1 hus5 (by intro z; cases z))]; exact hu1, by rw [upd_ne n1]; exact hu2, n1, n2, n3⟩
            refine ⟨ws ++ [wd], ps, rfl, fun d o hd => ?_, ⟨us ++ [p], ?_, ?_⟩, ⟨qs, ?_, ?_⟩, ?_, hpsl, hck.1, ?_⟩
            · rw [upd_ne (ne_of_none hd hwl)]
              exact e5 _ _ (e _ _ hd)
            · rw [upd_same, List.map_append]
              rfl
            · refine psnoc (Paired.mapP husp fun d u hd => up d u ?_) (up p wd ⟨dp, bp, hp1, hp2, nbw, nbp, eH.free hp3⟩)
              obtain ⟨du, bu, hu1, hu2, n1, n2, n3⟩ := hd
              exact ⟨du, bu, e5 _ _ hu1, e5 _ _ hu2, n1, n2, n3⟩
            · rw [upd_ne (Ne.symm nwp)]
              exact e5 _ _ hqs
            · refine Paired.mapP hqsp fun d u hd => ?_
              have hd5 : H5 d = some _ := e5 _ _ hd
              show upd _ _ _ d = _
              rw [upd_ne (ne_of hd5 hus5 (by intro z; cases z))]
              exact hd5
            · rw [List.length_append, List.length_singleton]
              omega
            · rw [hcond.2]
              exact hrd
        · rw [hf] at hrd
          exact (kE _ hrd).mono eH
      · refine iteF' ?_ ?_
        · rw [Bool.and_eq_false_iff]
          by_cases z : sgn t.tok = VahypBase.word "word"
          · exact .inr (decide_eq_false (fun q => hcond ⟨z, elen.mp q⟩))
          · exact .inl (decide_eq_false (fun q => z (ewd.mp q)))
        refine ⟨_, rfl, rfl, _, rfl, ?_⟩
        by_cases hpat : sgn t.tok = VahypBase.word "pattern"
        · refine iteT' (decide_eq_true (epd.mpr hpat)) ?_
          rw [rest_pat hwt hpat] at hrd
          refine ⟨_, rfl, .inl ⟨rfl, _, SqL.of hqs⟩, _, rfl, _, rfl, _, rfl, tk, pl, i, toks, t, t', ps, rfl, hTi, ht, ht', hwt', ⟨qs, hqs, hqsp⟩, hpsl, fun pd hpd H5 p e5 hp => ?_, fun f hf => ?_⟩
          · have hck := patStep_chunk hpd
            rw [hpd] at hrd
            have hqs5 := e5 _ _ hqs
            refine ⟨pl, _, _, rfl, rfl, hqs5, ?_, ?_⟩
            · rw [List.length_map, hql]
              exact Nat.lt_of_le_of_lt (by omega : ps.length ≤ 100) (by decide)
            · have up : ∀ d u, PatAt H5 d u → PatAt (upd H5 pl (.lst (qs.map V.ref ++ [.ref p]))) d u := fun d u hd => by
                have hd : H5 d = some _ := hd
                show upd _ _ _ d = _
                rw [upd_ne (ne_of hd hqs5 (by intro z; cases z))]
                exact hd
              refine ⟨ws, ps ++ [pd], rfl, fun d o hd => ?_, ⟨us, ?_, ?_⟩, ⟨qs ++ [p], ?_, ?_⟩, hwsl, ?_, hck.1, hrd⟩
              · rw [upd_ne (ne_of_none hd npl3)]
                exact e5 _ _ (e _ _ hd)
              · rw [upd_ne nwp]
                exact e5 _ _ hus
              · refine Paired.mapP husp fun d u hd => ?_
                obtain ⟨du, bu, hu1, hu2, n1, n2, n3⟩ := hd
                have hu15 := e5 _ _ hu1
                exact ⟨du, bu, by rw [upd_ne (ne_of hu15 hqs5 (by intro z; cases z))]; exact hu15, by rw [upd_ne n2]; exact e5 _ _ hu2, n1, n2, n3⟩
              · rw [upd_same, List.map_append]
                rfl
              · exact psnoc (Paired.mapP hqsp fun d u hd => up d u (e5 _ _ hd)) (up p pd hp)
              · rw [List.length_append, List.length_singleton]
                omega
          · rw [hf] at hrd
            exact (kE _ hrd).mono eH
        · refine iteF' (decide_eq_false (fun z => hpat (epd.mp z))) ?_
          rw [rest_else hwt hlast hcond hpat] at hrd
          exact ⟨_, rfl, fault_end ((kE _ hrd).now eH)⟩
    · rintro σ' H5 ⟨ws', ps', rfl, e5, hW5, hP5, hwl5, hpl5, hck, hrd5⟩
      -- need_signs(tokens, at + 2, ";")
      obtain ⟨t2', ht2'⟩ := G.more (i + 1) t' ht' (chunk_more hck)
      have hw2' := G.wf t2' (List.mem_of_getElem? ht2')
      have hd2' : toks.drop (i + 2) = t2' :: toks.drop (i + 3) := drop_two ht2'
      rw [hd2', take_sign hw2'] at hrd5
      have hi2 : i + 2 < toks.length := (List.getElem?_eq_some_iff.mp ht2').1
      refine ⟨_, rfl, _, rfl, _, _, rfl, rfl, tk, i + 2, [59], toks, t2', congrArg (fun z => [V.ref tk, V.int ((i : Int) + 2), V.str z]) semi59, hT3.same TokAt.same e5, ht2', fun hm => ?_, fun hm => ?_⟩
      · rw [if_pos hm] at hrd5
        obtain ⟨t3', ht3'⟩ := G.more (i + 2) t2' ht2' (sgn_more (by rw [hm]; simp))
        refine ⟨_, rfl, _, _, rfl, rfl, toks.length - (i + 3), by omega, i + 3, ws', ps', _, _, rfl, rfl, e5, hW5, hP5, hwl5, hpl5, ⟨t3', ht3'⟩, hrd5⟩
      · rw [if_neg hm] at hrd5
        exact (kE _ hrd5).mono (e13.trans e5)
end
end WG
set_option Elab.async false
set_option linter.all false
set_option maxRecDepth 100000
set_option maxHeartbeats 2000000
namespace WG
open PySem PySem.Spec PyProof.Rows L2
/-! ### dicts whose keys are tuples of texts and truth values -/
abbrev BS := Sum Bool Str
def bsV : BS → V
  | .inl b => .bl b
  | .inr x => .str x
def bsIs : BS → Value → Bool
  | .inl b, v => PpSet.isB b v
  | .inr x, v => Value.isStrOf x v
theorem bsIs_shape : ∀ {k : BS} {v : Value}, bsIs k v = true → (∃ b, k = Sum.inl b ∧ v = Value.bool b) ∨ (∃ x t, k = Sum.inr x ∧ v = Value.str x t)
  | .inl b, v, h => .inl ⟨b, rfl, PpSet.isB_shape h⟩
  | .inr x, v, h => by
    obtain ⟨t, e⟩ := Value.isStrOf_shape (x := x) (v := v) h
    exact .inr ⟨x, t, rfl, e⟩
theorem bs_ll (a b : Bool) : decide ((Sum.inl a : BS) = Sum.inl b) = (a == b) := by cases a <;> cases b <;> rfl
theorem bs_rr (a b : Str) : decide ((Sum.inr a : BS) = Sum.inr b) = decide (a = b) := by
  by_cases e : a = b
  · subst e; simp
  · have h : ¬ (Sum.inr a : BS) = Sum.inr b := fun q => e (Sum.inr.inj q)
    rw [decide_eq_false h, decide_eq_false e]
theorem bs_lr (a : Bool) (b : Str) : decide ((Sum.inl a : BS) = Sum.inr b) = false := decide_eq_false (fun q => nomatch q)
theorem bs_rl (a : Str) (b : Bool) : decide ((Sum.inr a : BS) = Sum.inl b) = false := decide_eq_false (fun q => nomatch q)
def bsKind (prog : Program) (w : World) : PySem.KeyKind prog w BS where
  is := bsIs
  hash := fun k => match k with
    | .inl b => PpSet.hB b
    | .inr x => hashStr w x
  inj := fun v a b ha hb => by
    rcases bsIs_shape ha with ⟨i, rfl, rfl⟩ | ⟨x, t, rfl, rfl⟩
    · rcases bsIs_shape hb with ⟨j, rfl, e⟩ | ⟨y, u, rfl, e⟩
      · injection e with e1; rw [e1]
      · exact nomatch e
    · rcases bsIs_shape hb with ⟨j, rfl, e⟩ | ⟨y, u, rfl, e⟩
      · exact nomatch e
      · injection e with e1 _; rw [e1]
  byValue := fun k v h => by
    rcases bsIs_shape h with ⟨i, rfl, rfl⟩ | ⟨x, t, rfl, rfl⟩ <;> rfl
  pyHash := fun hv h => by
    rcases bsIs_shape hv with ⟨i, rfl, rfl⟩ | ⟨x, t, rfl, rfl⟩
    · exact PpSet.pyHash_bool h
    · exact wpAny_pyHash_str h
  eqBool := fun hu hv h => by
    rcases bsIs_shape hu with ⟨i, rfl, rfl⟩ | ⟨x, t, rfl, rfl⟩
    · rcases bsIs_shape hv with ⟨j, rfl, rfl⟩ | ⟨y, u, rfl, rfl⟩
      · rw [bs_ll] at h; exact SeqAt.EqAt.bool_bool i j _ _ _ _ h
      · rw [bs_lr] at h; exact SeqAt.EqAt.bool_str i y u _ _ _ _ h
    · rcases bsIs_shape hv with ⟨j, rfl, rfl⟩ | ⟨y, u, rfl, rfl⟩
      · rw [bs_rl] at h; exact SeqAt.EqAt.str_bool x t j _ _ _ _ h
      · rw [bs_rr] at h; exact wpAny_eqBool_str h
  «strs» := fun k x t v h => by
    rcases bsIs_shape h with ⟨i, rfl, e⟩ | ⟨y, u, rfl, e⟩
    · exact nomatch e
    · injection e with e1 _
      subst e1
      cases v <;> rfl
theorem bs_is {k : BS} {u : Value} (r : RelV (bsV k) u) : bsIs k u = true := by
  cases k with
  | inl b => cases r; exact beq_self_eq_true b
  | inr x => obtain ⟨t, rfl⟩ := r; simp [bsIs, Value.isStrOf]
theorem bs_items {P : Program} {w : World} : ∀ {ks : List BS} {us : List Value}, Vals (ks.map bsV) us → ItemsAre (bsKind P w) ks us
  | [], _, r => by rw [List.map_nil] at r; cases r; exact .nil
  | k :: ks, _, r => by
    rw [List.map_cons] at r
    cases r with
    | cons h t => exact .cons (bs_is h) (bs_items t)
theorem bs_key {P : Program} {w : World} {H : Hp} {h : Heap} {a : Addr} {ks : List BS} (ok : HOk P w H h) (e : H a = some (.tup (ks.map bsV))) : (tupleKind (bsKind P w)).is h ks a := by
  obtain ⟨_, its, r, o, h1, h2, n, h3⟩ := (show ObjOk P w H h a (.tup (ks.map bsV)) from ok a _ e)
  exact ⟨o, its.toArray, n, h1, h2, h3, by simpa using bs_items r⟩
/-- a pair of the dict, as the proof and as the machine has it -/
abbrev LP (p : List BS × Addr × V) (q : List BS × Addr × Value) : Prop := p.1 = q.1 ∧ p.2.1 = q.2.1 ∧ RelV p.2.2 q.2.2
def ldP (P : Program) (w : World) (a : Addr) (kvs : List (List BS × Addr × V)) (h : Heap) : Prop := kvs.length ≤ sizeLine ∧ (a == sysModules) = false ∧ ∃ xs : List (List BS × Addr × Value), Paired LP kvs xs ∧
  ∃ o es ep, h.get? a = some o ∧ o.ExactDict ∧ o.data = .dict es ep ∧ es.toList = xs.map (entryOfKey (tupleKind (bsKind P w))) ∧ (xs.map (·.1)).Nodup
def ldO (P : Program) (w : World) (a : Addr) (kvs : List (List BS × Addr × V)) : HO := .ext (ldP P w a kvs)
theorem ldP_stay {P : Program} {w : World} {a : Addr} {kvs : List (List BS × Addr × V)} {h1 h2 : Heap} (p : ldP P w a kvs h1) (k : ∀ o, h1.get? a = some o → h2.get? a = some o) : ldP P w a kvs h2 := by
  obtain ⟨z, y, xs, r, o, es, ep, e, c⟩ := p
  exact ⟨z, y, xs, r, o, es, ep, k o e, c⟩
theorem ldO_ok {P : Program} {w : World} {H : Hp} {a : Addr} {kvs : List (List BS × Addr × V)} {h : Heap} (p : ldP P w a kvs h) : ObjOk P w H h a (ldO P w a kvs) := by
  obtain ⟨_, _, _, _, o, _, _, e, _⟩ := id p
  exact ⟨p, ⟨o, e⟩, fun h1 h2 q k => ldP_stay q k⟩
theorem ldO_at {X : Cx} {pins : List (Addr × Obj)} {σ : L2.St} {H : Hp} {s : Shared} {a : Addr} {kvs : List (List BS × Addr × V)} (I : Inv X pins σ H s) (e : H a = some (ldO X.prog X.w a kvs)) (hk : ∀ p ∈ kvs, H p.2.1 = some (.tup (p.1.map bsV))) :
    kvs.length ≤ sizeLine ∧ (a == sysModules) = false ∧ ∃ xs, Paired LP kvs xs ∧ s.heap.DictOfH (tupleKind (bsKind X.prog X.w)) a xs := by
  obtain ⟨z, y, xs, r, o, es, ep, h1, h2, h3, h4, h5⟩ := (I.hok a _ e).1
  refine ⟨z, y, xs, r, o, es, ep, h1, h2, h3, h4, fun x hx => ?_, h5⟩
  have all : ∀ {l : List (List BS × Addr × V)} {m : List (List BS × Addr × Value)}, Paired LP l m → (∀ p ∈ l, H p.2.1 = some (.tup (p.1.map bsV))) → ∀ x ∈ m, (tupleKind (bsKind X.prog X.w)).is s.heap x.1 x.2.1 := by
    intro l m q
    induction q with
    | nil => intro _ x hx; exact nomatch hx
    | @cons p q ps qs hq t ih =>
      intro hl x hx
      rcases List.mem_cons.mp hx with e | hx
      · subst e
        have hp := hl p List.mem_cons_self
        rw [hq.2.1, hq.1] at hp
        exact bs_key I.hok hp
      · exact ih (fun p hp => hl p (List.mem_cons_of_mem _ hp)) x hx
  exact all r hk x hx
/-- what is found at a key -/
def ldAt (kvs : List (List BS × Addr × V)) (k : List BS) : Option V := (kvs.find? fun p => decide (p.1 = k)).map fun p => p.2.2
theorem ldAt_rel {k : List BS} : ∀ {kvs : List (List BS × Addr × V)} {xs : List (List BS × Addr × Value)}, Paired LP kvs xs → RelO (ldAt kvs k) ((atKey xs k).map (·.2))
  | _, _, .nil => True.intro
  | p :: ps, q :: qs, .cons h t => by
    have ih := ldAt_rel (k := k) t
    by_cases e : p.1 = k
    · have e' : q.1 = k := h.1.symm.trans e
      have a1 : ldAt (p :: ps) k = some p.2.2 := by simp [ldAt, List.find?_cons, e]
      have a2 : atKey (q :: qs) k = some q.2 := by simp [atKey, List.find?_cons, e']
      rw [a1, a2]
      exact h.2.2
    · have e' : ¬ q.1 = k := fun z => e (h.1.trans z)
      have a1 : ldAt (p :: ps) k = ldAt ps k := by simp [ldAt, List.find?_cons, e]
      have a2 : atKey (q :: qs) k = atKey qs k := by simp [atKey, List.find?_cons, e']
      rw [a1, a2]
      exact ih
section
variable {X : Cx} {pins : List (Addr × Obj)} {σ : L2.St} {H : Hp} {s : Shared} {o e f : Expr} {td ty tx : TE} {apos cpos pos : Pos}
/-- {} -/
def tLdNew (P : Program) (w : World) : TE := fun _ H Q => ∀ p, H p = none → Q (.ref p) (upd H p (ldO P w p []))
theorem pe_ldnew : PE X (.Dict [] [] pos) (tLdNew X.prog X.w) := ⟨fun pins s σ H Q I h =>
  wpAny_Dict_empty ⟨.ref s.heap.objs.size, _, I.laid (a := s.heap.objs.size) (o := ldO X.prog X.w s.heap.objs.size []) (t' := s.toks) (fun _ _ q => Heap.get?_push_of_some _ q) (Nat.le_refl _)
    (ldO_ok ⟨Nat.zero_le _, beq_eq_false_iff_ne.mpr (Ne.symm (Nat.ne_of_lt I.big)), [], .nil, _, #[], 0, Heap.get?_push_size _ rfl, ⟨rfl, rfl, rfl⟩, rfl, rfl, List.nodup_nil⟩), rfl, h _ (I.hok.fresh (Nat.le_refl _))⟩⟩
theorem ld_types {a : Addr} {kvs : List (List BS × Addr × V)} (I : Inv X pins σ H s) (e : H a = some (ldO X.prog X.w a kvs)) : s.TypeIs (.ref a) "dict" ∧ (∀ b, Value.ref a = .ref b → ∃ ob, s.heap.get? b = some ob ∧ ob.dict = none) := by
  obtain ⟨_, _, _, _, o, es, ep, h1, h2, _⟩ := (I.hok a _ e).1
  refine ⟨⟨o, h1, h2.1⟩, fun b q => ?_⟩
  cases q
  exact ⟨o, h1, h2.2.1⟩
/-- d.get(y, z) -/
def tLdGet (P : Program) (w : World) (td ty tx : TE) : TE := fun σ H Q => td σ H fun x H1 => ∃ a kvs0, x = .ref a ∧ H1 a = some (ldO P w a kvs0) ∧ ty σ H1 fun y H2 => tx σ H2 fun z H3 => ∃ kvs k b, H3 a = some (ldO P w a kvs) ∧ (∀ p ∈ kvs, H3 p.2.1 = some (.tup (p.1.map bsV))) ∧
  y = .ref b ∧ H3 b = some (.tup (k.map bsV)) ∧ Q ((ldAt kvs k).getD z) H3
theorem pe_ldget (hu : X.A.units + 1 < cLine) (ho : PE X o td) (he : PE X e ty) (hf : PE X f tx) (m : M2 X o "get" apos e f cpos) : PE X (.Call (.Attribute o "get" apos) [e, f] [] cpos) (tLdGet X.prog X.w td ty tx) := by
  refine ⟨fun pins s σ H Q I h => ?_⟩
  refine wpAny_Call_method m.base m.few m.line PySem.F.plainAttrs_dict PySem.F.slot_dict_get PySem.F.type_dict_get (thn (ho.run pins s σ H _ I h) fun u s1 ⟨x, H1, I1, rx, a, kvs0, ex, ea0, q1⟩ => ?_)
  subst ex
  obtain rfl : u = Value.ref a := rx
  obtain ⟨t1, t2⟩ := ld_types I1 ea0
  refine ⟨t1, t2, ?_⟩
  rw [m.trees]
  refine Calls.callWith_builtin rfl (Calls.evalArgs_plain (Calls.spliced_cons (thn (he.run pins s1 σ H1 _ I1 q1) fun iv s2 ⟨y, H2, I2, ry, q2⟩ =>
    Calls.spliced_cons (thn (hf.run pins s2 σ H2 _ I2 q2) fun fv s3 ⟨z, H3, I3, rz, kvs, k, b, ea, hk, ey, eb, q3⟩ => Calls.spliced_nil ?_))))
  subst ey
  cases (show iv = Value.ref b from ry)
  obtain ⟨_, hd, xs, rel, dd⟩ := ldO_at I3 ea hk
  refine call_meetsIn PySem.F.slot_dict_get dd.typeIs PySem.F.entry_dict_get (PySem.F.args_dict_get_3 _ _ _) (meetsH_dict_get_default (tupleKind (bsKind X.prog X.w)) a b hd fv) ⟨tupleKind_room_in1 hu, k, xs, bs_key I3.hok eb, dd, ⟨_, H3, I3.tok _, ?_, q3⟩⟩
  exact (ldAt_rel rel).getD rz
/-- d.setdefault(y, z) -/
def tLdSetd (P : Program) (w : World) (td ty tx : TE) : TE := fun σ H Q => td σ H fun x H1 => ∃ a kvs0, x = .ref a ∧ H1 a = some (ldO P w a kvs0) ∧ ty σ H1 fun y H2 => tx σ H2 fun z H3 => ∃ kvs k b, H3 a = some (ldO P w a kvs) ∧ (∀ p ∈ kvs, H3 p.2.1 = some (.tup (p.1.map bsV))) ∧
  y = .ref b ∧ H3 b = some (.tup (k.map bsV)) ∧ kvs.length < sizeLine ∧ (∀ v, ldAt kvs k = some v → Q v H3) ∧ (ldAt kvs k = none → Q z (upd H3 a (ldO P w a (kvs ++ [(k, b, z)]))))
theorem pe_ldsetd (hu : X.A.units + 1 < cLine) (ho : PE X o td) (he : PE X e ty) (hf : PE X f tx) (m : M2 X o "setdefault" apos e f cpos) : PE X (.Call (.Attribute o "setdefault" apos) [e, f] [] cpos) (tLdSetd X.prog X.w td ty tx) := by
  refine ⟨fun pins s σ H Q I h => ?_⟩
  refine wpAny_Call_method m.base m.few m.line PySem.F.plainAttrs_dict PySem.F.slot_dict_setdefault PySem.F.type_dict_setdefault (thn (ho.run pins s σ H _ I h) fun u s1 ⟨x, H1, I1, rx, a, kvs0, ex, ea0, q1⟩ => ?_)
  subst ex
  obtain rfl : u = Value.ref a := rx
  obtain ⟨t1, t2⟩ := ld_types I1 ea0
  refine ⟨t1, t2, ?_⟩
  rw [m.trees]
  refine Calls.callWith_builtin rfl (Calls.evalArgs_plain (Calls.spliced_cons (thn (he.run pins s1 σ H1 _ I1 q1) fun iv s2 ⟨y, H2, I2, ry, q2⟩ =>
    Calls.spliced_cons (thn (hf.run pins s2 σ H2 _ I2 q2) fun fv s3 ⟨z, H3, I3, rz, kvs, k, b, ea, hk, ey, eb, hl, q3, q4⟩ => Calls.spliced_nil ?_))))
  subst ey
  cases (show iv = Value.ref b from ry)
  obtain ⟨hz, hd, xs, rel, dd⟩ := ldO_at I3 ea hk
  have hxl : xs.length ≤ sizeLine := by rw [← rel.length]; exact hz
  have hrel := ldAt_rel (k := k) rel
  refine call_setdefault_heap (hsz := hxl) (tupleKind_room_in1 hu) (bs_key I3.hok eb) hd dd (fun p hp => ?_) fun hn h' dd' hs => ?_
  · rw [hp] at hrel
    cases q0 : ldAt kvs k with
    | none => rw [q0] at hrel; exact (show False from hrel).elim
    | some v0 =>
      rw [q0] at hrel
      exact ⟨v0, H3, I3.tok _, hrel, q3 v0 q0⟩
  · rw [hn] at hrel
    cases q0 : ldAt kvs k with
    | some v0 => rw [q0] at hrel; exact (show False from hrel).elim
    | none =>
      rw [storedH_new hn] at dd'
      obtain ⟨q, es, ep, hq, c2, c3, c4, _, c5⟩ := dd'
      refine ⟨z, _, d_write I3 (by rw [ea]; exact True.intro) hs ⟨q, hq⟩ (ldO_ok ⟨?_, hd, _, psnoc rel ⟨rfl, rfl, rz⟩, q, es, ep, hq, c2, c3, c4, c5⟩), rz, q4 q0⟩
      rw [List.length_append, List.length_singleton]
      omega
end
end WG
set_option Elab.async false
set_option linter.all false
set_option maxRecDepth 100000
set_option maxHeartbeats 2000000
namespace WG
open PySem PySem.Spec PyProof.Rows L2
/-! ### dicts whose keys are tuples at any depth -/
abbrev NK := PySem.NestedKey
/-- at a stands the key k -/
def NkAt (P : Program) (w : World) (H : Hp) (k : NK) (a : Addr) : Prop := ∀ h, HOk P w H h → (nestedKind P w).is h k a
abbrev NP (p : NK × Addr × V) (q : NK × Addr × Value) : Prop := p.1 = q.1 ∧ p.2.1 = q.2.1 ∧ RelV p.2.2 q.2.2
def ndP (P : Program) (w : World) (a : Addr) (kvs : List (NK × Addr × V)) (h : Heap) : Prop := kvs.length ≤ sizeLine ∧ (a == sysModules) = false ∧ ∃ xs : List (NK × Addr × Value), Paired NP kvs xs ∧
  ∃ o es ep, h.get? a = some o ∧ o.ExactDict ∧ o.data = .dict es ep ∧ es.toList = xs.map (entryOfKey (nestedKind P w)) ∧ (xs.map (·.1)).Nodup
def ndO (P : Program) (w : World) (a : Addr) (kvs : List (NK × Addr × V)) : HO := .ext (ndP P w a kvs)
theorem ndP_stay {P : Program} {w : World} {a : Addr} {kvs : List (NK × Addr × V)} {h1 h2 : Heap} (p : ndP P w a kvs h1) (k : ∀ o, h1.get? a = some o → h2.get? a = some o) : ndP P w a kvs h2 := by
  obtain ⟨z, y, xs, r, o, es, ep, e, c⟩ := p
  exact ⟨z, y, xs, r, o, es, ep, k o e, c⟩
theorem ndO_ok {P : Program} {w : World} {H : Hp} {a : Addr} {kvs : List (NK × Addr × V)} {h : Heap} (p : ndP P w a kvs h) : ObjOk P w H h a (ndO P w a kvs) := by
  obtain ⟨_, _, _, _, o, _, _, e, _⟩ := id p
  exact ⟨p, ⟨o, e⟩, fun h1 h2 q k => ndP_stay q k⟩
theorem nd_all {P : Program} {w : World} {H : Hp} {h : Heap} (ok : HOk P w H h) : ∀ {l : List (NK × Addr × V)} {m : List (NK × Addr × Value)}, Paired NP l m → (∀ p ∈ l, NkAt P w H p.1 p.2.1) → ∀ x ∈ m, (nestedKind P w).is h x.1 x.2.1 := by
  intro l m q
  induction q with
  | nil => intro _ x hx; exact nomatch hx
  | @cons p q ps qs hq t ih =>
    intro hl x hx
    rcases List.mem_cons.mp hx with e | hx
    · subst e
      have hp := hl p List.mem_cons_self h ok
      rw [hq.2.1, hq.1] at hp
      exact hp
    · exact ih (fun p hp => hl p (List.mem_cons_of_mem _ hp)) x hx
theorem ndO_at {X : Cx} {pins : List (Addr × Obj)} {σ : L2.St} {H : Hp} {s : Shared} {a : Addr} {kvs : List (NK × Addr × V)} (I : Inv X pins σ H s) (e : H a = some (ndO X.prog X.w a kvs)) (hk : ∀ p ∈ kvs, NkAt X.prog X.w H p.1 p.2.1) :
    kvs.length ≤ sizeLine ∧ (a == sysModules) = false ∧ ∃ xs, Paired NP kvs xs ∧ s.heap.DictOfH (nestedKind X.prog X.w) a xs := by
  obtain ⟨z, y, xs, r, o, es, ep, h1, h2, h3, h4, h5⟩ := (I.hok a _ e).1
  exact ⟨z, y, xs, r, o, es, ep, h1, h2, h3, h4, nd_all I.hok r hk, h5⟩
/-- what is found at a key -/
def ndAt (kvs : List (NK × Addr × V)) (k : NK) : Option V := (kvs.find? fun p => decide (p.1 = k)).map fun p => p.2.2
/-- the dict after d[k] = v, the key's tuple at b -/
def ndPut (kvs : List (NK × Addr × V)) (k : NK) (b : Addr) (v : V) : List (NK × Addr × V) := if (ndAt kvs k).isSome = true then kvs.map (fun p => if p.1 = k then (p.1, p.2.1, v) else p) else kvs ++ [(k, b, v)]
theorem ndAt_nil (k : NK) : ndAt [] k = none := rfl
theorem ndAt_here {k : NK} {p : NK × Addr × V} {ps : List (NK × Addr × V)} (e : p.1 = k) : ndAt (p :: ps) k = some p.2.2 := by simp [ndAt, List.find?_cons, e]
theorem ndAt_past {k : NK} {p : NK × Addr × V} {ps : List (NK × Addr × V)} (e : ¬ p.1 = k) : ndAt (p :: ps) k = ndAt ps k := by simp [ndAt, List.find?_cons, e]
theorem ndAt_rel {k : NK} : ∀ {kvs : List (NK × Addr × V)} {xs : List (NK × Addr × Value)}, Paired NP kvs xs → RelO (ndAt kvs k) ((atKey xs k).map (·.2))
  | _, _, .nil => True.intro
  | p :: ps, q :: qs, .cons h t => by
    have ih := ndAt_rel (k := k) t
    by_cases e : p.1 = k
    · have e' : q.1 = k := h.1.symm.trans e
      have a2 : atKey (q :: qs) k = some q.2 := by simp [atKey, List.find?_cons, e']
      rw [ndAt_here e, a2]
      exact h.2.2
    · have e' : ¬ q.1 = k := fun z => e (h.1.trans z)
      have a2 : atKey (q :: qs) k = atKey qs k := by simp [atKey, List.find?_cons, e']
      rw [ndAt_past e, a2]
      exact ih
theorem nd_isSome {k : NK} {kvs : List (NK × Addr × V)} {xs : List (NK × Addr × Value)} (r : Paired NP kvs xs) : (atKey xs k).isSome = (ndAt kvs k).isSome := by
  have z := ndAt_rel (k := k) r
  cases q : ndAt kvs k with
  | none =>
    rw [q] at z
    cases q2 : atKey xs k with
    | none => rfl
    | some y => rw [q2] at z; exact (show False from z).elim
  | some v =>
    rw [q] at z
    cases q2 : atKey xs k with
    | none => rw [q2] at z; exact (show False from z).elim
    | some y => rfl
theorem ndPut_rel {k : NK} {b : Addr} {v : V} {u : Value} (rv : RelV v u) {kvs : List (NK × Addr × V)} {xs : List (NK × Addr × Value)} (r : Paired NP kvs xs) : Paired NP (ndPut kvs k b v) (storedH xs k b u) := by
  unfold ndPut storedH
  rw [nd_isSome r]
  have go : ∀ {l : List (NK × Addr × V)} {m : List (NK × Addr × Value)}, Paired NP l m → Paired NP (l.map (fun p => if p.1 = k then (p.1, p.2.1, v) else p)) (m.map (putAt k u)) := by
    intro l m q
    induction q with
    | nil => exact .nil
    | @cons p q ps qs hq t ih =>
      refine .cons ?_ ih
      unfold putAt
      dsimp only
      by_cases e : p.1 = k
      · rw [if_pos e, if_pos (hq.1.symm.trans e)]
        exact ⟨hq.1, hq.2.1, rv⟩
      · rw [if_neg e, if_neg (fun z => e (hq.1.trans z))]
        exact hq
  split
  · exact go r
  · exact psnoc r ⟨rfl, rfl, rv⟩
theorem ndPut_len (kvs : List (NK × Addr × V)) (k : NK) (b : Addr) (v : V) : (ndPut kvs k b v).length ≤ kvs.length + 1 := by
  unfold ndPut
  split
  · rw [List.length_map]; omega
  · rw [List.length_append, List.length_singleton]; exact Nat.le_refl _
section
variable {X : Cx} {pins : List (Addr × Obj)} {σ : L2.St} {H : Hp} {s : Shared} {o e f : Expr} {td ty tx : TE} {apos cpos pos : Pos}
/-- {} -/
def tNdNew (P : Program) (w : World) : TE := fun _ H Q => ∀ p, H p = none → Q (.ref p) (upd H p (ndO P w p []))
theorem pe_ndnew : PE X (.Dict [] [] pos) (tNdNew X.prog X.w) := ⟨fun pins s σ H Q I h =>
  wpAny_Dict_empty ⟨.ref s.heap.objs.size, _, I.laid (a := s.heap.objs.size) (o := ndO X.prog X.w s.heap.objs.size []) (t' := s.toks) (fun _ _ q => Heap.get?_push_of_some _ q) (Nat.le_refl _)
    (ndO_ok ⟨Nat.zero_le _, beq_eq_false_iff_ne.mpr (Ne.symm (Nat.ne_of_lt I.big)), [], .nil, _, #[], 0, Heap.get?_push_size _ rfl, ⟨rfl, rfl, rfl⟩, rfl, rfl, List.nodup_nil⟩), rfl, h _ (I.hok.fresh (Nat.le_refl _))⟩⟩
theorem nd_types {a : Addr} {kvs : List (NK × Addr × V)} (I : Inv X pins σ H s) (e : H a = some (ndO X.prog X.w a kvs)) : s.TypeIs (.ref a) "dict" ∧ (∀ b, Value.ref a = .ref b → ∃ ob, s.heap.get? b = some ob ∧ ob.dict = none) := by
  obtain ⟨_, _, _, _, o, es, ep, h1, h2, _⟩ := (I.hok a _ e).1
  refine ⟨⟨o, h1, h2.1⟩, fun b q => ?_⟩
  cases q
  exact ⟨o, h1, h2.2.1⟩
theorem nd_room (hu : X.A.units + 64 < cLine) : (nestedKind X.prog X.w).room X.A.in1 := by
  show X.A.in1.units + 8 < cLine
  have : X.A.in1.units ≤ X.A.units + 1 := by
    first
      | exact Nat.le_refl _
      | exact Nat.le_succ _
      | (unfold Around.in1 Around.units; simp; omega)
  omega
/-- d.setdefault(y, z) -/
def tNdSetd (P : Program) (w : World) (td ty tx : TE) : TE := fun σ H Q => td σ H fun x H1 => ∃ a kvs0, x = .ref a ∧ H1 a = some (ndO P w a kvs0) ∧ ty σ H1 fun y H2 => tx σ H2 fun z H3 => ∃ kvs k b, H3 a = some (ndO P w a kvs) ∧ (∀ p ∈ kvs, NkAt P w H3 p.1 p.2.1) ∧
  y = .ref b ∧ NkAt P w H3 k b ∧ kvs.length < sizeLine ∧ (∀ v, ndAt kvs k = some v → Q v H3) ∧ (ndAt kvs k = none → Q z (upd H3 a (ndO P w a (kvs ++ [(k, b, z)]))))
theorem pe_ndsetd (hu : X.A.units + 64 < cLine) (ho : PE X o td) (he : PE X e ty) (hf : PE X f tx) (m : M2 X o "setdefault" apos e f cpos) : PE X (.Call (.Attribute o "setdefault" apos) [e, f] [] cpos) (tNdSetd X.prog X.w td ty tx) := by
  refine ⟨fun pins s σ H Q I h => ?_⟩
  refine wpAny_Call_method m.base m.few m.line PySem.F.plainAttrs_dict PySem.F.slot_dict_setdefault PySem.F.type_dict_setdefault (thn (ho.run pins s σ H _ I h) fun u s1 ⟨x, H1, I1, rx, a, kvs0, ex, ea0, q1⟩ => ?_)
  subst ex
  obtain rfl : u = Value.ref a := rx
  obtain ⟨t1, t2⟩ := nd_types I1 ea0
  refine ⟨t1, t2, ?_⟩
  rw [m.trees]
  refine Calls.callWith_builtin rfl (Calls.evalArgs_plain (Calls.spliced_cons (thn (he.run pins s1 σ H1 _ I1 q1) fun iv s2 ⟨y, H2, I2, ry, q2⟩ =>
    Calls.spliced_cons (thn (hf.run pins s2 σ H2 _ I2 q2) fun fv s3 ⟨z, H3, I3, rz, kvs, k, b, ea, hk, ey, eb, hl, q3, q4⟩ => Calls.spliced_nil ?_))))
  subst ey
  cases (show iv = Value.ref b from ry)
  obtain ⟨hz, hd, xs, rel, dd⟩ := ndO_at I3 ea hk
  have hxl : xs.length ≤ sizeLine := by rw [← rel.length]; exact hz
  have hrel := ndAt_rel (k := k) rel
  refine call_setdefault_heap (hsz := hxl) (nd_room hu) (eb _ I3.hok) hd dd (fun p hp => ?_) fun hn h' dd' hs => ?_
  · rw [hp] at hrel
    cases q0 : ndAt kvs k with
    | none => rw [q0] at hrel; exact (show False from hrel).elim
    | some v0 =>
      rw [q0] at hrel
      exact ⟨v0, H3, I3.tok _, hrel, q3 v0 q0⟩
  · rw [hn] at hrel
    cases q0 : ndAt kvs k with
    | some v0 => rw [q0] at hrel; exact (show False from hrel).elim
    | none =>
      rw [storedH_new hn] at dd'
      obtain ⟨q, es, ep, hq, c2, c3, c4, _, c5⟩ := dd'
      refine ⟨z, _, d_write I3 (by rw [ea]; exact True.intro) hs ⟨q, hq⟩ (ndO_ok ⟨?_, hd, _, psnoc rel ⟨rfl, rfl, rz⟩, q, es, ep, hq, c2, c3, c4, c5⟩), rz, q4 q0⟩
      rw [List.length_append, List.length_singleton]
      omega
/-- d[y], the key there -/
def rIxNd (P : Program) (w : World) : R2 := fun x y H Q => ∃ a kvs k b v, x = .ref a ∧ y = .ref b ∧ H a = some (ndO P w a kvs) ∧ (∀ p ∈ kvs, NkAt P w H p.1 p.2.1) ∧ NkAt P w H k b ∧ ndAt kvs k = some v ∧ Q v H
theorem ix_nd (hu : X.A.units + 64 < cLine) : IxR X (rIxNd X.prog X.w) := by
  rintro value slice pins s σ H x y v u Q I rx ry ⟨a, kvs, k, b, r, rfl, rfl, ea, hk, eb, hv, q⟩ hs
  obtain rfl : v = Value.ref a := rx
  obtain rfl : u = Value.ref b := ry
  obtain ⟨hz, hd, xs, rel, dd⟩ := ndO_at I ea hk
  have hrel := ndAt_rel (k := k) rel
  rw [hv] at hrel
  cases hp : atKey xs k with
  | none => rw [hp] at hrel; exact (show False from hrel).elim
  | some p =>
    rw [hp] at hrel
    exact tail_any dd.typeIs slot_dict_getitem.lookup (wpAny_getItem_heap (nd_room hu) (eb _ I.hok) dd hp ⟨r, H, I.tok _, hrel, q⟩) hs
/-- y not in d -/
def rNdNotIn (P : Program) (w : World) : R2 := fun y x H Q => ∃ a kvs k b, x = .ref a ∧ y = .ref b ∧ H a = some (ndO P w a kvs) ∧ (∀ p ∈ kvs, NkAt P w H p.1 p.2.1) ∧ NkAt P w H k b ∧ Q (.bl (!(ndAt kvs k).isSome)) H
theorem op_ndNotIn (hu : X.A.units + 64 < cLine) : OpR X (compareOp .NotIn) (rNdNotIn X.prog X.w) := by
  rintro pins s σ H y x u v Q I ry rx ⟨a, kvs, k, b, rfl, rfl, ea, hk, eb, q⟩
  obtain rfl : v = Value.ref a := rx
  obtain rfl : u = Value.ref b := ry
  obtain ⟨hz, hd, xs, rel, dd⟩ := ndO_at I ea hk
  show wpAny _ _ (do return Value.bool (!(← contains (Value.ref a) (Value.ref b)))) _ _ s
  refine wpAny_bind (wpAny_contains_heap (nd_room hu) (eb _ I.hok) hd dd (wpAny_pure ⟨V.bl (!(atKey xs k).isSome), H, I.tok _, rfl, by rw [nd_isSome rel]; exact q⟩))
/-- d[y] = v -/
def rSetNd (P : Program) (w : World) : TSet := fun x y v H Q => ∃ a kvs k b, x = .ref a ∧ y = .ref b ∧ H a = some (ndO P w a kvs) ∧ (∀ p ∈ kvs, NkAt P w H p.1 p.2.1) ∧ NkAt P w H k b ∧ kvs.length < sizeLine ∧ Q (upd H a (ndO P w a (ndPut kvs k b v)))
theorem set_nd (hu : X.A.units + 64 < cLine) : PSet X (rSetNd X.prog X.w) := by
  rintro pins s σ H x y v ov iv u Q I rx ry rv ⟨a, kvs, k, b, rfl, rfl, ea, hk, eb, hl, q⟩
  obtain rfl : ov = Value.ref a := rx
  obtain rfl : iv = Value.ref b := ry
  obtain ⟨hz, hd, xs, rel, dd⟩ := ndO_at I ea hk
  have hxl : xs.length ≤ sizeLine := by rw [← rel.length]; exact hz
  refine wpAny_setItem_heap (hsz := hxl) (nd_room hu) (eb _ I.hok) dd fun h' dd' hs => ?_
  obtain ⟨qo, es, ep, hq, c2, c3, c4, _, c5⟩ := dd'
  refine ⟨_, d_write I (by rw [ea]; exact True.intro) hs ⟨qo, hq⟩ (ndO_ok ⟨?_, hd, _, ndPut_rel rv rel, qo, es, ep, hq, c2, c3, c4, c5⟩), q⟩
  have := ndPut_len kvs k b v
  omega
end
/-! ### for k, v in d.items() -/
/-- the pairs of the dict at d, each a new tuple; the dict is kept as it is meanwhile -/
def Itn (P : Program) (w : World) (d : Addr) (o : Obj) (kvs : List (NK × Addr × V)) : It :=
  ⟨fun i H => H d = some (.frz o (ndO P w d kvs)) ∧ i < kvs.length, fun i H x H' => ∃ T k b v, kvs[i]? = some (k, b, v) ∧ x = .ref T ∧ H T = none ∧ H' = upd H T (.tup [.ref b, v]), fun i H => H d = some (.frz o (ndO P w d kvs)) ∧ kvs.length ≤ i⟩
theorem nd_frz {X : Cx} {pins : List (Addr × Obj)} {σ : L2.St} {H : Hp} {s : Shared} {d : Addr} {o : Obj} {kvs : List (NK × Addr × V)} (I : Inv X pins σ H s) (e : H d = some (.frz o (ndO X.prog X.w d kvs))) :
    s.heap.get? d = some o ∧ o.ExactDict ∧ (d == sysModules) = false ∧ ∃ es ep xs, o.data = .dict es ep ∧ es.size = kvs.length ∧ Paired NP kvs xs ∧ es.toList = xs.map (entryOfKey (nestedKind X.prog X.w)) := by
  obtain ⟨h0, ⟨⟨z, y, xs, r, o', es, ep, h1, h2, h3, h4, h5⟩, _⟩⟩ := (show ObjOk X.prog X.w H s.heap d (.frz o (ndO X.prog X.w d kvs)) from I.hok d _ e)
  obtain rfl : o' = o := Option.some.inj (h1.symm.trans h0)
  refine ⟨h0, h2, y, es, ep, xs, h3, ?_, r, h4⟩
  have e1 := congrArg List.length h4
  rw [Array.length_toList, List.length_map] at e1
  rw [e1, ← r.length]
theorem nd_entry {P : Program} {w : World} {kvs : List (NK × Addr × V)} {xs : List (NK × Addr × Value)} {es : Array DictEntry} (r : Paired NP kvs xs) (e : es.toList = xs.map (entryOfKey (nestedKind P w))) {i : Nat} {k : NK} {b : Addr} {v : V} (h : kvs[i]? = some (k, b, v)) :
    ∃ en, es[i]? = some en ∧ en.key = .ref b ∧ RelV v en.val := by
  obtain ⟨x, hx, h1, h2, h3⟩ := pget r h
  refine ⟨entryOfKey (nestedKind P w) x, ?_, ?_, h3⟩
  · rw [← Array.getElem?_toList, e, List.getElem?_map, hx]
    rfl
  · show Value.ref x.2.1 = .ref b
    rw [← h2]
section
variable {P : Program} {w : World} {K : PySem.W.Frag} {d : Addr} {o : Obj} {es : Array DictEntry} {ep : Nat}
theorem turn_nd {kvs : List (NK × Addr × V)} {elts : List Expr} {kk : Nat} {tpos : Pos} (it : Addr) (hod : o.data = .dict es ep) :
    Turn P w K (.Tuple elts kk tpos) (Itn P w d o kvs) [it] it (fun i h => ∃ ok ov, h.get? it = some (DVw.itmOb d .none i kvs.length ep ok ov)) where
  mem := by simp
  obj := fun i h st b hb => by
    have e : b = it := by simpa using hb
    subst e
    obtain ⟨ok, ov, e⟩ := st
    exact ⟨_, e, fun v z => nomatch z⟩
  keep := fun i h h' st k => let ⟨ok, ov, e⟩ := st; ⟨ok, ov, k it (by simp) _ e⟩
  item := by
    intro X hP hw hK hc i pins s σ H E I hf st hg
    subst hP hw hK
    obtain ⟨hd, hi⟩ := hg
    obtain ⟨hgd, hx, hs, es', ep', xs, hdt, hsz, rel, hes⟩ := nd_frz I hd
    obtain ⟨rfl, rfl⟩ := dict_ep hod hdt
    obtain ⟨⟨k, b, v⟩, hkv⟩ : ∃ p, kvs[i]? = some p := ⟨kvs[i], List.getElem?_eq_getElem hi⟩
    obtain ⟨e, he, hkey, ru⟩ := nd_entry rel hes hkv
    obtain ⟨ok, ov, hit⟩ := st
    have hlt : it < s.heap.objs.size := Heap.lt_size hit
    refine DVw.itm_item hit hgd hdt hsz he fun h' b1 b2 b3 b4 => ?_
    refine ⟨_, rfl, wpAny_letOwnedTupleGo_items (s := { s with heap := h' }) (d := d) (i := i + 1) (n := kvs.length) (ep := ep') (ok := e.key) (ov := e.val) b1 fun h'' he' sb => ?_⟩
    have hT2 : h''.get? s.heap.objs.size = some { cls := .type "tuple", data := .seq #[e.key, e.val] } := (sb.2 _ (Nat.ne_of_gt hlt)).trans b2
    have new : ObjOk X.prog X.w (upd H s.heap.objs.size (.tup [.ref b, v])) h'' s.heap.objs.size (.tup [.ref b, v]) :=
      ⟨by show 2 ≤ sizeLine; decide, [e.key, e.val], .cons hkey (.cons ru .nil), ⟨_, hT2, rfl, _, rfl⟩⟩
    have I1 : Inv X pins σ (upd H s.heap.objs.size (.tup [.ref b, v])) { s with heap := h'' } :=
      I.turnedNew (t' := s.toks) (ch := [it]) (fun b ob hb z => (sb.2 b (by simpa using hb)).trans (b4 b ob (by simpa using hb) z)) hf (Nat.le_refl _) new
    refine ⟨.ref s.heap.objs.size, _, I1, rfl, ⟨_, k, b, v, hkv, rfl, I.hok.fresh (Nat.le_refl _), rfl⟩, ⟨e.key, e.val, he'⟩, fun b hb => ?_⟩
    have z : b = it := by simpa using hb
    rw [z, upd_ne (Nat.ne_of_lt hlt)]
    exact (hf it (by simp)).1
  done := by
    intro X hP hw hK hc i pins s σ H E I hf st hg
    subst hP hw hK
    obtain ⟨hd, hi⟩ := hg
    obtain ⟨f0, f1, f2, f3, f4, f5⟩ := hf it (by simp)
    obtain ⟨hgd, hx, hs, es', ep', xs, hdt, hsz, rel, hes⟩ := nd_frz I hd
    obtain ⟨rfl, rfl⟩ := dict_ep hod hdt
    obtain ⟨ok, ov, hit⟩ := st
    have he : es'[i]? = none := Array.getElem?_eq_none (by rw [hsz]; exact hi)
    exact DVw.itm_end (I.ok.hd hc) hit hgd hdt hsz he fun h' eb => ⟨rfl, I.turned (t' := s.toks) (fun b o hb e => eb b o hb e) f0 f1 f3 f4 f5⟩
  self := fun A i s Q E st h => let ⟨_, _, e⟩ := st; PySem.W.kcp_self e h
end
section
variable {prog : Program} {w : World}
theorem meets_items_raw (d : Addr) (hd : (d == sysModules) = false) :
    MeetsIn prog w (Builtin.«dict.items» ⟨[.ref d], []⟩) (fun _ R s => s.TypeIs (.ref d) "dict" ∧ R (.ok (.ret (.ref s.heap.objs.size))) { s with heap := s.heap.push (DSub.viewOb "dict_items" d) }) :=
  .of_wp fun A R s ⟨hm, h⟩ => by
    unfold Builtin.«dict.items»
    refine wpAny_bind ?_
    unfold Builtin.Dict.noArgs
    refine wpAny_bind (wpAny_notOrdered_dict hm ?_)
    show wpAny _ _ (pure d) _ _ s
    refine wpAny_pure ?_
    show wpAny _ _ (Builtin.Dict.showsAll d >>= _) _ _ s
    unfold Builtin.Dict.showsAll
    rw [if_neg (by rw [hd]; exact Bool.false_ne_true)]
    refine wpAny_bind (wpAny_pure ?_)
    exact wpAny_bind (wpAny_newObj_type (wpAny_pure ⟨_, rfl, h⟩))
end
section
variable {X : Cx} {e : Expr} {td : TE} {apos cpos : Pos}
def iNdItems (P : Program) (w : World) (td : TE) : TI := fun σ H R => td σ H fun x H1 => ∃ d kvs, x = .ref d ∧ H1 d = some (ndO P w d kvs) ∧ ∀ o, R (Itn P w d o kvs) (upd H1 d (.frz o (ndO P w d kvs)))
theorem pi_nditems {elts : List Expr} {kk : Nat} {tpos : Pos} (he : PE X e td) (hbase : attributeBase e "items" X.env (eval e X.env) = eval e X.env := by rfl) (hline : (apos.endLine == cpos.line) = true := by rfl) :
    PI X (.Tuple elts kk tpos) (.Call (.Attribute e "items" apos) [] [] cpos) (iNdItems X.prog X.w td) := by
  refine ⟨fun pins s σ H R I h => ?_⟩
  refine wpAny_Call_method (T := "dict") (id := "dict.items") hbase rfl hline PySem.F.plainAttrs_dict PySem.F.slot_dict_items PySem.F.type_dict_items (thn (he.run pins s σ H _ I h) fun u s1 ⟨x, H1, I0, rx, d, kvs, ex, hd0, q0⟩ => ?_)
  subst ex
  obtain rfl : u = Value.ref d := rx
  obtain ⟨t1, t2⟩ := nd_types I0 hd0
  refine ⟨t1, t2, ?_⟩
  obtain ⟨od, I1⟩ := I0.lock hd0 True.intro
  have q := q0 od
  obtain ⟨hgd, hx, hs, es, ep, xs, hdt, hsz, rel, hes⟩ := nd_frz I1 upd_same
  have I2 : Inv X pins σ (upd H1 d (.frz od (ndO X.prog X.w d kvs))) { s1 with heap := s1.heap.push (DSub.viewOb "dict_items" d) } := I1.kept (t' := s1.toks) fun b ob q => Heap.get?_push_of_some _ q
  have fin : wpAny (model X.prog X.w) X.A (pyIter (.ref s1.heap.objs.size)) (PIE X pins σ (.Tuple elts kk tpos) R) X.xe { s1 with heap := s1.heap.push (DSub.viewOb "dict_items" d) } := by
    refine DSub.iter_itms (Heap.get?_push_size _ rfl) (Heap.get?_push_of_some _ hgd) hdt ?_
    refine pi_one (tk := s1.toks) I2 _ (turn_nd _ hdt) ⟨.none, .none, ?_⟩ q
    rw [← hsz]
    exact Heap.get?_push_size _ rfl
  show wpAny _ _ (callWith cpos (.builtin "dict.items") [.ref d] [] []) _ X.xe s1
  exact method_meetsIn PySem.F.slot_dict_items PySem.F.entry_dict_items rfl (PySem.evalArgs_none ⟨rfl, t1, PySem.F.args_dict_items_1 _, _, meets_items_raw d hs, ⟨t1, fin⟩⟩)
/-- the walk: each pair a new tuple -/
theorem walk_nd {P : Program} {w : World} {d : Addr} {o : Obj} {kvs : List (NK × Addr × V)} : Walk (Itn P w d o kvs) kvs.length (fun H => H d = some (.frz o (ndO P w d kvs)))
    (fun i H x H' => ∃ T k b v, kvs[i]? = some (k, b, v) ∧ x = .ref T ∧ H T = none ∧ H' = upd H T (.tup [.ref b, v])) :=
  ⟨fun i _ hi q => ⟨q, hi⟩, fun _ q => ⟨q, Nat.le_refl _⟩, fun _ _ _ _ _ _ y => y⟩
end
end WG
set_option Elab.async false
set_option linter.all false
set_option maxRecDepth 100000
set_option maxHeartbeats 2000000
namespace WG
open PySem PySem.Spec PyProof.Rows L2
def lkK (k : Look) : List BS := [.inr (tx k.1), .inl k.2.1, .inr (tx k.2.2.1), .inl k.2.2.2]
theorem lkK_inj {a b : Look} (h : lkK a = lkK b) : a = b := by
  obtain ⟨a1, a2, a3, a4⟩ := a
  obtain ⟨b1, b2, b3, b4⟩ := b
  unfold lkK at h
  simp only [List.cons.injEq, Sum.inr.injEq, Sum.inl.injEq, and_true] at h
  obtain ⟨h1, h2, h3, h4⟩ := h
  rw [tx_inj h1, tx_inj h3, h2, h4]
def spLook (s : Vahypa.Lst) (n : Nat) (o : Nat × Nat) : Look := look (Vahypc.wordAt s o.1) n o.2
def unp (s : Vahypa.Lst) (n i : Nat) (k : Look) : List (Nat × Nat) := ((spotsP s).take i).filter fun o => !yesP s o && decide (spLook s n o = k)
def ptd (s : Vahypa.Lst) (n i : Nat) : List ((Nat × Nat) × Look) := (((spotsP s).take i).filter (yesP s)).map fun o => (o, spLook s n o)
abbrev Grp := Look × Addr × Addr
def grpD (g : Grp) : List BS × Addr × V := (lkK g.1, g.2.1, .ref g.2.2)
theorem ld_some {k : Look} : ∀ {G : List Grp} {v : V}, ldAt (G.map grpD) (lkK k) = some v → ∃ g ∈ G, g.1 = k ∧ v = .ref g.2.2
  | [], v, h => by cases h
  | g :: r, v, h => by
    by_cases e : lkK g.1 = lkK k
    · have a : ldAt ((g :: r).map grpD) (lkK k) = some (.ref g.2.2) := by simp [ldAt, grpD, List.find?_cons, e]
      rw [a] at h
      exact ⟨g, List.mem_cons_self, lkK_inj e, (Option.some.inj h).symm⟩
    · have a : ldAt ((g :: r).map grpD) (lkK k) = ldAt (r.map grpD) (lkK k) := by simp [ldAt, grpD, List.find?_cons, e]
      rw [a] at h
      obtain ⟨g', hg, h2⟩ := ld_some h
      exact ⟨g', List.mem_cons_of_mem _ hg, h2⟩
theorem ld_none {k : Look} : ∀ {G : List Grp}, ldAt (G.map grpD) (lkK k) = none → k ∉ G.map (·.1)
  | [], _ => by simp
  | g :: r, h => by
    by_cases e : lkK g.1 = lkK k
    · have a : ldAt ((g :: r).map grpD) (lkK k) = some (.ref g.2.2) := by simp [ldAt, grpD, List.find?_cons, e]
      rw [a] at h
      cases h
    · have a : ldAt ((g :: r).map grpD) (lkK k) = ldAt (r.map grpD) (lkK k) := by simp [ldAt, grpD, List.find?_cons, e]
      rw [a] at h
      have ih := ld_none h
      intro z
      rcases List.mem_cons.mp z with q | q
      · exact e (by rw [q])
      · exact ih q
/-- a parted spot with its look -/
def PtAt (H1 H : Hp) (a : Addr) (q : (Nat × Nat) × Look) : Prop := ∃ b c, H a = some (.tup [.ref b, .ref c]) ∧ PairAt H1 b q.1 ∧ H c = some (.tup (lookV q.2))
/-- the first loop's state -/
structure FcInv (P : Program) (w : World) (s : Vahypa.Lst) (n : Nat) (H1 : Hp) (pl d : Addr) (i : Nat) (H : Hp) (G : List Grp) (pas : List Addr) : Prop where
  same : ∀ b u, H1 b = some u → b ≠ pl → b ≠ d → H b = some u
  dict : H d = some (ldO P w d (G.map grpD))
  keys : ∀ g ∈ G, H g.2.1 = some (.tup (lookV g.1))
  cont : ∀ g ∈ G, ∃ as : List Addr, H g.2.2 = some (.lst (as.map V.ref)) ∧ Paired (PairAt H1) as (unp s n i g.1) ∧ g.2.2 ≠ pl ∧ H1 g.2.2 = none
  ndA : (G.map fun g => g.2.2).Nodup
  ndK : (G.map fun g => g.1).Nodup
  rest : ∀ k, k ∉ G.map (·.1) → unp s n i k = []
  few : G.length ≤ i
  part : H pl = some (.lst (pas.map V.ref))
  parts : Paired (PtAt H1 H) pas (ptd s n i)
theorem ext_lst {φ : Heap → Prop} {xs : List V} : HO.ext φ ≠ .lst xs := fun z => by cases z
theorem unp_more {s : Vahypa.Lst} {n i : Nat} {o : Nat × Nat} (h : (spotsP s)[i]? = some o) (k : Look) : unp s n (i + 1) k = unp s n i k ++ (if (!yesP s o && decide (spLook s n o = k)) = true then [o] else []) := by
  unfold unp
  rw [take_more h, List.filter_append, List.filter_cons, List.filter_nil]
theorem ptd_more {s : Vahypa.Lst} {n i : Nat} {o : Nat × Nat} (h : (spotsP s)[i]? = some o) : ptd s n (i + 1) = ptd s n i ++ (if yesP s o = true then [(o, spLook s n o)] else []) := by
  unfold ptd
  rw [take_more h, List.filter_append, List.map_append]
  congr 1
  rw [List.filter_cons, List.filter_nil]
  split <;> rfl
theorem unp_len (s : Vahypa.Lst) (n i : Nat) (k : Look) : (unp s n i k).length ≤ (spotsP s).length := by
  refine Nat.le_trans (List.length_filter_le _ _) ?_
  rw [List.length_take]
  omega
theorem ptd_len (s : Vahypa.Lst) (n i : Nat) : (ptd s n i).length ≤ (spotsP s).length := by
  unfold ptd
  rw [List.length_map]
  refine Nat.le_trans (List.length_filter_le _ _) ?_
  rw [List.length_take]
  omega
theorem spots_len {s : Vahypa.Lst} (F : Fine s) : (spotsP s).length ≤ 360 := by
  have z := spotsTo_len F s.words.length (Nat.le_refl _)
  rw [spotsTo_all] at z
  have := F.nw
  omega
section
variable {P : Program} {w : World} {s : Vahypa.Lst} {n : Nat} {H1 H : Hp} {pl d : Addr} {i : Nat} {G : List Grp} {pas : List Addr} {o : Nat × Nat}
/-- a parted spot -/
theorem FcInv.yes (I : FcInv P w s n H1 pl d i H G pas) (hF : Fine s) (ho : (spotsP s)[i]? = some o) (hy : yesP s o = true) {kt t c : Addr} (hkt : H kt = none) (hc : PairAt H1 c o) (ht : upd H kt (.tup (lookV (spLook s n o))) t = none) :
    FcInv P w s n H1 pl d (i + 1) (upd (upd (upd H kt (.tup (lookV (spLook s n o)))) t (.tup [.ref c, .ref kt])) pl (.lst (pas.map V.ref ++ [.ref t]))) G (pas ++ [t]) := by
  have nkt : kt ≠ t := fun z => by rw [← z, upd_same] at ht; cases ht
  have htH : H t = none := by rw [upd_ne (Ne.symm nkt)] at ht; exact ht
  have up : ∀ b u, b ≠ pl → H b = some u → upd (upd (upd H kt (.tup (lookV (spLook s n o)))) t (.tup [.ref c, .ref kt])) pl (.lst (pas.map V.ref ++ [.ref t])) b = some u := fun b u nb hb => by
    rw [upd_ne nb, upd_ne (ne_of_none hb htH), upd_ne (ne_of_none hb hkt)]
    exact hb
  have nplk : pl ≠ kt := ne_of_none I.part hkt
  have nplt : pl ≠ t := ne_of_none I.part htH
  have hu : ∀ k, unp s n (i + 1) k = unp s n i k := fun k => by
    rw [unp_more ho, hy]
    simp
  refine ⟨?_, up d _ (ne_of I.dict I.part ext_lst) I.dict, fun g hg => up _ _ (ne_of (I.keys g hg) I.part (by intro z; cases z)) (I.keys g hg), fun g hg => ?_, I.ndA, I.ndK, fun k hk => by rw [hu]; exact I.rest k hk, Nat.le_succ_of_le I.few, ?_, ?_⟩
  · exact fun b u hb n1 n2 => up b u n1 (I.same b u hb n1 n2)
  · obtain ⟨as, h1, h2, h3, h4⟩ := I.cont g hg
    exact ⟨as, up _ _ h3 h1, by rw [hu]; exact h2, h3, h4⟩
  · rw [upd_same, List.map_append]
    rfl
  · rw [ptd_more ho, if_pos hy]
    refine psnoc (Paired.mapP I.parts fun a q hq => ?_) ⟨c, kt, ?_, hc, ?_⟩
    · obtain ⟨b, e, h1, h2, h3⟩ := hq
      exact ⟨b, e, up a _ (ne_of h1 I.part (by intro z; cases z)) h1, h2, up e _ (ne_of h3 I.part (by intro z; cases z)) h3⟩
    · rw [upd_ne (Ne.symm nplt), upd_same]
    · rw [upd_ne (Ne.symm nplk), upd_ne nkt, upd_same]
/-- an unparted spot, its look met before -/
theorem FcInv.old (I : FcInv P w s n H1 pl d i H G pas) (ho : (spotsP s)[i]? = some o) (hy : yesP s o = false) {kt z c la : Addr} (hkt : H kt = none) (hc : PairAt H1 c o) (hz : upd H kt (.tup (lookV (spLook s n o))) z = none)
    {g : Grp} (hg : g ∈ G) (hgk : g.1 = spLook s n o) (hla : la = g.2.2) {as : List Addr} (has : H la = some (.lst (as.map V.ref))) :
    FcInv P w s n H1 pl d (i + 1) (upd (upd (upd H kt (.tup (lookV (spLook s n o)))) z (.lst [])) la (.lst (as.map V.ref ++ [.ref c]))) G pas := by
  have nkz : kt ≠ z := fun e => by rw [← e, upd_same] at hz; cases hz
  have hzH : H z = none := by rw [upd_ne (Ne.symm nkz)] at hz; exact hz
  subst hla
  have up : ∀ b u, b ≠ g.2.2 → H b = some u → upd (upd (upd H kt (.tup (lookV (spLook s n o)))) z (.lst [])) g.2.2 (.lst (as.map V.ref ++ [.ref c])) b = some u := fun b u nb hb => by
    rw [upd_ne nb, upd_ne (ne_of_none hb hzH), upd_ne (ne_of_none hb hkt)]
    exact hb
  obtain ⟨as', h1, h2, h3, h4⟩ := I.cont g hg
  have eas : as' = as := by
    rw [has] at h1
    have e := HO.lst.inj (Option.some.inj h1)
    exact ((List.map_inj_right (fun x y h => V.ref.inj h)).mp e).symm
  subst eas
  have hu : ∀ k, k ≠ spLook s n o → unp s n (i + 1) k = unp s n i k := fun k hk => by
    rw [unp_more ho, if_neg, List.append_nil]
    rw [hy]
    simpa using fun e => hk e.symm
  refine ⟨fun b u hb n1 n2 => up b u (ne_of_none hb h4) (I.same b u hb n1 n2), up d _ (ne_of I.dict h1 ext_lst) I.dict, fun g' hg' => up _ _ (ne_of (I.keys g' hg') h1 (by intro z; cases z)) (I.keys g' hg'), fun g' hg' => ?_, I.ndA, I.ndK, fun k hk => ?_, Nat.le_succ_of_le I.few, up pl _ (Ne.symm h3) I.part, ?_⟩
  · by_cases e : g'.1 = spLook s n o
    · have eg : g' = g := by
        have nd := I.ndK
        rw [List.nodup_iff_pairwise_ne] at nd
        obtain ⟨i1, hi1⟩ := List.mem_iff_getElem?.mp hg'
        obtain ⟨i2, hi2⟩ := List.mem_iff_getElem?.mp hg
        have q1 : (G.map fun g => g.1)[i1]? = some (spLook s n o) := by rw [List.getElem?_map, hi1, ← e]; rfl
        have q2 : (G.map fun g => g.1)[i2]? = some (spLook s n o) := by rw [List.getElem?_map, hi2, ← hgk]; rfl
        have q3 := nd_ix I.ndK q1 q2
        rw [q3, hi2] at hi1
        exact (Option.some.inj hi1).symm
      subst eg
      refine ⟨as' ++ [c], ?_, ?_, h3, h4⟩
      · rw [upd_same, List.map_append]
        rfl
      · rw [unp_more ho, if_pos (by rw [hy, e]; simp)]
        exact psnoc h2 hc
    · obtain ⟨as2, k1, k2, k3, k4⟩ := I.cont g' hg'
      have nla : g'.2.2 ≠ g.2.2 := fun q => by
        obtain ⟨i1, hi1⟩ := List.mem_iff_getElem?.mp hg'
        obtain ⟨i2, hi2⟩ := List.mem_iff_getElem?.mp hg
        have q1 : (G.map fun g => g.2.2)[i1]? = some g.2.2 := by rw [List.getElem?_map, hi1, ← q]; rfl
        have q2 : (G.map fun g => g.2.2)[i2]? = some g.2.2 := by rw [List.getElem?_map, hi2]; rfl
        have q3 := nd_ix I.ndA q1 q2
        rw [q3, hi2] at hi1
        rw [← Option.some.inj hi1] at e
        exact e hgk
      exact ⟨as2, up _ _ nla k1, by rw [hu _ e]; exact k2, k3, k4⟩
  · rw [hu k (fun e => hk (by rw [e, ← hgk]; exact List.mem_map.mpr ⟨g, hg, rfl⟩))]
    exact I.rest k hk
  · rw [ptd_more ho, hy, if_neg Bool.false_ne_true, List.append_nil]
    refine Paired.mapP I.parts fun a q hq => ?_
    obtain ⟨b, e, q1, q2, q3⟩ := hq
    exact ⟨b, e, up a _ (ne_of q1 h1 (by intro z; cases z)) q1, q2, up e _ (ne_of q3 h1 (by intro z; cases z)) q3⟩
/-- an unparted spot, its look met first -/
theorem FcInv.new (I : FcInv P w s n H1 pl d i H G pas) (ho : (spotsP s)[i]? = some o) (hy : yesP s o = false) {kt z c : Addr} (hkt : H kt = none) (hc : PairAt H1 c o) (hz : upd H kt (.tup (lookV (spLook s n o))) z = none)
    (hno : spLook s n o ∉ G.map (·.1)) {kvs : List (List BS × Addr × V)} (hk : kvs = (G ++ [(spLook s n o, kt, z)]).map grpD) :
    FcInv P w s n H1 pl d (i + 1) (upd (upd (upd (upd H kt (.tup (lookV (spLook s n o)))) z (.lst [])) d (ldO P w d kvs)) z (.lst [.ref c])) (G ++ [(spLook s n o, kt, z)]) pas := by
  subst hk
  have nkz : kt ≠ z := fun e => by rw [← e, upd_same] at hz; cases hz
  have hzH : H z = none := by rw [upd_ne (Ne.symm nkz)] at hz; exact hz
  have ndz : d ≠ z := ne_of_none I.dict hzH
  have ndk : d ≠ kt := ne_of_none I.dict hkt
  have up : ∀ b u, b ≠ d → H b = some u → upd (upd (upd (upd H kt (.tup (lookV (spLook s n o)))) z (.lst [])) d (ldO P w d ((G ++ [(spLook s n o, kt, z)]).map grpD))) z (.lst [.ref c]) b = some u := fun b u nb hb => by
    rw [upd_ne (ne_of_none hb hzH), upd_ne nb, upd_ne (ne_of_none hb hzH), upd_ne (ne_of_none hb hkt)]
    exact hb
  have hu : ∀ k, k ≠ spLook s n o → unp s n (i + 1) k = unp s n i k := fun k hk => by
    rw [unp_more ho, if_neg, List.append_nil]
    rw [hy]
    simpa using fun e => hk e.symm
  have pieces : ∀ g ∈ G ++ [(spLook s n o, kt, z)], g ∈ G ∨ g = (spLook s n o, kt, z) := fun g hg => by
    rcases List.mem_append.mp hg with q | q
    · exact .inl q
    · exact .inr (by simpa using q)
  refine ⟨fun b u hb n1 n2 => up b u n2 (I.same b u hb n1 n2), ?_, fun g' hg' => ?_, fun g' hg' => ?_, ?_, ?_, fun k hk => ?_, ?_, up pl _ (ne_of I.part I.dict (Ne.symm ext_lst)) I.part, ?_⟩
  · rw [upd_ne ndz, upd_same]
  · rcases pieces g' hg' with q | q
    · exact up _ _ (ne_of (I.keys g' q) I.dict (fun z => by cases z)) (I.keys g' q)
    · subst q
      show upd _ _ _ kt = _
      rw [upd_ne nkz, upd_ne (Ne.symm ndk), upd_ne nkz, upd_same]
  · rcases pieces g' hg' with q | q
    · obtain ⟨as, h1, h2, h3, h4⟩ := I.cont g' q
      have nk : g'.1 ≠ spLook s n o := fun e => hno (by rw [← e]; exact List.mem_map.mpr ⟨g', q, rfl⟩)
      exact ⟨as, up _ _ (ne_of h1 I.dict (Ne.symm ext_lst)) h1, by rw [hu _ nk]; exact h2, h3, h4⟩
    · subst q
      refine ⟨[c], upd_same, ?_, Ne.symm (ne_of_none I.part hzH), ?_⟩
      · show Paired _ _ (unp s n (i + 1) (spLook s n o))
        rw [unp_more ho, I.rest _ hno, if_pos (by rw [hy]; simp)]
        exact .cons hc .nil
      · show H1 z = none
        cases q : H1 z with
        | none => rfl
        | some u =>
          have := I.same z u q (Ne.symm (ne_of_none I.part hzH)) (Ne.symm ndz)
          rw [hzH] at this
          cases this
  · rw [List.map_append, List.nodup_append]
    refine ⟨I.ndA, by simp, fun x hx y hy' e => ?_⟩
    obtain ⟨g', hg', rfl⟩ := List.mem_map.mp hx
    have e2 : y = z := by simpa using hy'
    obtain ⟨as, h1, _, _, _⟩ := I.cont g' hg'
    rw [e2] at e
    exact ne_of_none h1 hzH e
  · rw [List.map_append, List.nodup_append]
    refine ⟨I.ndK, by simp, fun x hx y hy' e => ?_⟩
    have e2 : y = spLook s n o := by simpa using hy'
    rw [e2] at e
    rw [e] at hx
    exact hno hx
  · rw [List.map_append, List.mem_append] at hk
    have nk : k ≠ spLook s n o := fun e => hk (.inr (by rw [e]; simp))
    rw [hu k nk]
    exact I.rest k fun q => hk (.inl q)
  · rw [List.length_append, List.length_singleton]
    have := I.few
    omega
  · rw [ptd_more ho, hy, if_neg Bool.false_ne_true, List.append_nil]
    refine Paired.mapP I.parts fun a q hq => ?_
    obtain ⟨b, e, q1, q2, q3⟩ := hq
    exact ⟨b, e, up a _ (ne_of q1 I.dict (fun z => by cases z)) q1, q2, up e _ (ne_of q3 I.dict (fun z => by cases z)) q3⟩
end
end WG
set_option Elab.async false
set_option linter.all false
set_option maxRecDepth 100000
set_option maxHeartbeats 2000000
namespace WG
open PySem PySem.Spec PyProof.Rows L2
def consP (s : Vahypa.Lst) (n : Nat) : List ((Nat × Nat) × (Nat × Nat)) := (ptd s n (spotsP s).length).flatMap fun q => (unp s n (spotsP s).length q.2).map fun o => (q.1, o)
def ConAt (H : Hp) (a : Addr) (c : (Nat × Nat) × (Nat × Nat)) : Prop := ∃ b1 b2, H a = some (.tup [.ref b1, .ref b2]) ∧ PairAt H b1 c.1 ∧ PairAt H b2 c.2
theorem ConAt.same : ∀ (H H' : Hp) (a : Addr) (c : (Nat × Nat) × (Nat × Nat)), Same H H' → ConAt H a c → ConAt H' a c := fun _ _ _ _ e ⟨b1, b2, h1, h2, h3⟩ => ⟨b1, b2, e _ _ h1, e _ _ h2, e _ _ h3⟩
theorem flat_len2 {α β : Type} (f : α → List β) (m : Nat) (h : ∀ x, (f x).length ≤ m) : ∀ l : List α, (l.flatMap f).length ≤ m * l.length
  | [] => by simp
  | x :: l => by
    have ih := flat_len2 f m h l
    have hx := h x
    rw [List.flatMap_cons, List.length_append, List.length_cons, Nat.mul_succ]
    omega
abbrev s_find_contradictions : Stmt := top 6
abbrev N_find_contradictions : List Str := ["wordlist", "length", "parted", "unparted_by_look", "spot", "look", "found", "first", "second"]
theorem sc_find_contradictions : FnScope N_find_contradictions ["wordlist", "length"] (defScope s_find_contradictions) := ⟨rfl, rfl, rfl, by decide +kernel, rfl, by decide +kernel, by decide +kernel⟩
def sp_find_contradictions (D : Ads) : Sp := fun vs H Q _ => ∃ a s n, vs = [.ref a, .int (n : Nat)] ∧ ListAt D H a s ∧ Fine s ∧ ∀ H' l, Same H H' → H l = none → RefsAt ConAt H' l (consP s n) → Q (.ref l) H'
section
variable {P : Program} {w : World} {K : PySem.W.Frag} {mg : Str → Option Value} {base : Heap} {D : Ads}
theorem df_find_contradictions {f : Addr} {fd : FuncData} (F : At K mg "find_contradictions" s_find_contradictions ["wordlist", "length"] f fd) (T : Txt K mg D)
    (c_find_spots : Df P w K mg base CX0 1 "find_spots" ["wordlist"] (sp_find_spots D)) (c_look_around : Df P w K mg base CX0 1 "look_around" ["letters", "gap", "length"] sp_look_around)
    (c_may_part : Df P w K mg base CX0 1 "may_part" ["wordlist", "spot"] (sp_may_part D)) : Df P w K mg base CX0 2 "find_contradictions" ["wordlist", "length"] (sp_find_contradictions D) := by
  refine df0 (N := N_find_contradictions) F sc_find_contradictions (fun vs H Q E h => ?_) (fun cdv A outer s H vs Q E hr h => ⟨_, (pss_cons (ps_set (i := 2) sc_find_contradictions.nd rfl (Or.inl rfl) (pe_lst pa_nil))
(pss_cons (ps_set (i := 3) sc_find_contradictions.nd rfl (Or.inl rfl) pe_ldnew)
(pss_cons (ps_for PassesOwn.never rfl (pi_list (pe_d0 c_find_spots hr (by decide) rfl (pa_cons (pv 0) pa_nil))) (pg_name (i := 4) sc_find_contradictions.nd rfl (Or.inl rfl))
(pss_cons (ps_set (i := 5) sc_find_contradictions.nd rfl (Or.inl rfl) (pe_d0 c_look_around hr (by decide) rfl (pa_cons (pe_fld (pe_ix ix_list (pe_fld (pv 0) rfl) (pe_ix ix_tup (pv 4) pe_int (fun _ _ => rfl)) (fun _ _ => rfl)) rfl) (pa_cons (pe_ix ix_tup (pv 4) pe_int (fun _ _ => rfl)) (pa_cons (pv 1) pa_nil)))))
(pss_one (ps_if (pt_val (pe_d0 c_may_part hr (by decide) rfl (pa_cons (pv 0) (pa_cons (pv 4) pa_nil))))
(pss_one (ps_expr (pe_bm PySem.F.plainAttrs_list PySem.F.slot_list_append PySem.F.type_list_append mt_append (pv 2) (pa_cons (pe_tup (pa_cons (pv 4) (pa_cons (pv 5) pa_nil))) pa_nil))))
(pss_one (ps_expr (pe_bm PySem.F.plainAttrs_list PySem.F.slot_list_append PySem.F.type_list_append mt_append (pe_ldsetd (hu_of hr) (pv 3) (pv 5) (pe_lst pa_nil) ⟨rfl, rfl, rfl, rfl⟩) (pa_cons (pv 4) pa_nil))))))))
(pss_cons (ps_set (i := 6) sc_find_contradictions.nd rfl (Or.inl rfl) (pe_lst pa_nil))
(pss_cons (ps_for PassesOwn.never rfl (pi_list (pv 2)) (pg_tup rfl (pgs_cons (pg_name (i := 7) sc_find_contradictions.nd rfl (Or.inl rfl)) (pgs_cons (pg_name (i := 5) sc_find_contradictions.nd rfl (Or.inl rfl)) pgs_nil)))
(pss_one (ps_for PassesOwn.never rfl (pi_list (pe_ldget (hu_of hr) (pv 3) (pv 5) (pe_lst pa_nil) ⟨rfl, rfl, rfl, rfl⟩)) (pg_name (i := 8) sc_find_contradictions.nd rfl (Or.inl rfl))
(pss_one (ps_expr (pe_bm PySem.F.plainAttrs_list PySem.F.slot_list_append PySem.F.type_list_append mt_append (pv 6) (pa_cons (pe_tup (pa_cons (pv 7) (pa_cons (pv 8) pa_nil))) pa_nil)))))))
(pss_one (ps_ret (pv 6)))))))), ?_⟩)
  · obtain ⟨a, s, n, rfl, _⟩ := h
    rfl
  · obtain ⟨a, s, n, rfl, hL, hF, k⟩ := h
    -- parted = []; unparted_by_look = {}
    refine ⟨by show 0 ≤ sizeLine; exact Nat.zero_le _, fun pl hpl => fun d hd => ?_⟩
    have npd : pl ≠ d := fun z => by rw [← z, upd_same] at hd; cases hd
    have hdH : H d = none := by rw [upd_ne (Ne.symm npd)] at hd; exact hd
    have eA : Same H (upd (upd H pl (.lst [])) d (ldO P w d [])) := (same_upd hpl).trans (same_upd hd)
    -- for spot in find_spots(wordlist)
    refine ⟨_, rfl, a, s, rfl, hL.same eA, hF, fun H1 l e1 nl ⟨as, hl, has⟩ => ⟨l, rfl, ⟨_, SqL.of hl⟩, ?_⟩⟩
    have eH1 : Same H H1 := eA.trans e1
    have h1pl : H1 pl = some (.lst []) := e1 _ _ ((upd_ne npd).trans upd_same)
    have h1d : H1 d = some (ldO P w d []) := e1 _ _ upd_same
    have nlpl : l ≠ pl := fun z => by rw [z, upd_ne npd, upd_same] at nl; cases nl
    have nld : l ≠ d := fun z => by rw [z, upd_same] at nl; cases nl
    have big : ∀ {G : List Grp} {pas : List Addr} {i : Nat} {H2 : Hp}, FcInv P w s n H1 pl d i H2 G pas → Same H H2 := fun I b u hb => I.same b u (eH1 b u hb) (ne_of_none hb hpl) (ne_of_none hb hdH)
    have pair2 : ∀ {G : List Grp} {pas : List Addr} {i : Nat} {H2 : Hp} {c : Addr} {o : Nat × Nat}, FcInv P w s n H1 pl d i H2 G pas → PairAt H1 c o → PairAt H2 c o := fun I hc => I.same _ _ hc (ne_of hc h1pl (by intro z; cases z)) (ne_of hc h1d (by intro z; cases z))
    have hsl := spots_len hF
    refine for_it (walk_list (K := K) (a := l) (xs := as.map V.ref)) (fun i σ H' => ∃ v4 v5 G pas, σ = [some (.ref a), some (.int (n : Nat)), some (.ref pl), some (.ref d), v4, v5, none, none, none] ∧ FcInv P w s n H1 pl d i H' G pas) ?_ ?_ ?_ ?_
    · refine ⟨none, none, [], [], rfl, ⟨fun b u hb _ _ => hb, h1d, (fun g hg => nomatch hg), (fun g hg => nomatch hg), List.nodup_nil, List.nodup_nil, fun k _ => by simp [unp], Nat.le_refl _, h1pl, ?_⟩⟩
      show Paired _ [] (ptd s n 0)
      simp only [ptd, List.take_zero, List.filter_nil, List.map_nil]
      exact .nil
    · rintro i σ H2 _ ⟨_, _, G, pas, _, I⟩
      exact SqL.of (I.same _ _ hl nlpl nld)
    · rintro i x σ H2 H2' hi ⟨v4, v5, G, pas, rfl, I⟩ ⟨rfl, hx⟩
      obtain ⟨c, hc, rfl⟩ := refs_get hx
      obtain ⟨o, ho, hoa⟩ := pget has hc
      have hoa2 := pair2 I hoa
      have hom := List.mem_of_getElem? ho
      obtain ⟨wo, hwo, ho1, ho2, hwom⟩ := spots_in hom
      have hL2 : ListAt D H2' a s := hL.same (big I)
      obtain ⟨dx, wl, ppl, h1, ⟨ws, h2, h2p⟩, h3⟩ := id hL2
      obtain ⟨wa, hwa, dw, bl, hw1, hw2⟩ := pget2 h2p hwo
      have hwl := hF.lx wo hwom
      have hpl2 := I.part
      have eL : look wo.x n o.2 = spLook s n o := by unfold spLook; rw [wordAt_of hwo]
      have eY : wo.cuts.contains o.2 = yesP s o := by unfold yesP; rw [hwo]
      -- look = look_around(..)
      refine ⟨_, rfl, a, D.cL, dx, _, _, rfl, h1, T.kL, T.lW, fL_words _ _ _ _, _, rfl, c, _, 0, _, rfl, rfl, SqT.of hoa2, rfl, wl, _, _, .ref wa, rfl, rfl, SqL.of h2, atI_nat (by rw [List.getElem?_map, hwa] <;> rfl), ?_⟩
      refine ⟨wa, D.cW, dw, _, _, rfl, hw1, T.kW, T.wL, fW_letters _ _, _, rfl, c, _, 1, _, rfl, rfl, SqT.of hoa2, rfl, _, rfl, wo.x, o.2, n, rfl, by omega, by omega, fun kt hkt => ?_⟩
      rw [eL]
      have eK : Same H2' (upd H2' kt (.tup (lookV (spLook s n o)))) := same_upd hkt
      -- if may_part(wordlist, spot)
      refine ⟨_, rfl, _, rfl, a, c, s, o.1, o.2, wo, rfl, hL2.same eK, eK _ _ hoa2, hwo, _, rfl, ?_⟩
      rw [eY]
      cases hy : yesP s o with
      | true =>
        refine iteT ⟨_, rfl, .inl ⟨rfl, _, SqL.of (eK _ _ hpl2)⟩, _, rfl, _, rfl, by show 2 ≤ sizeLine; decide, fun t ht => ?_⟩
        have I' := I.yes hF ho hy hkt hoa ht
        refine ⟨pl, _, _, rfl, rfl, (upd_ne (ne_of_none (eK _ _ hpl2) ht)).trans (eK _ _ hpl2), ?_, ?_⟩
        · rw [List.length_map, I.parts.length]
          have := ptd_len s n i
          exact Nat.lt_of_le_of_lt (by omega : _ ≤ 400) (by decide)
        · exact ⟨_, _, G, _, rfl, I'⟩
      | false =>
        have hkeys : ∀ z, upd H2' kt (.tup (lookV (spLook s n o))) z = none → ∀ p ∈ G.map grpD, upd (upd H2' kt (.tup (lookV (spLook s n o)))) z (.lst []) p.2.1 = some (.tup (p.1.map bsV)) := fun z hz p hp => by
          obtain ⟨g, hg, rfl⟩ := List.mem_map.mp hp
          exact (same_upd hz) _ _ (eK _ _ (I.keys g hg))
        refine iteF ⟨_, rfl, d, _, rfl, eK _ _ I.dict, _, rfl, by show 0 ≤ sizeLine; exact Nat.zero_le _, fun z hz => ?_⟩
        have eZ : Same H2' (upd (upd H2' kt (.tup (lookV (spLook s n o)))) z (.lst [])) := eK.trans (same_upd hz)
        refine ⟨G.map grpD, lkK (spLook s n o), kt, eZ _ _ I.dict, hkeys z hz, rfl, (same_upd hz) _ _ upd_same, ?_, fun v hv => ?_, fun hn => ?_⟩
        · rw [List.length_map]
          have := I.few
          rw [List.length_map] at hi
          have hal : as.length = (spotsP s).length := has.length
          exact Nat.lt_of_le_of_lt (by omega : G.length ≤ 400) (by decide)
        · obtain ⟨g, hg, hgk, rfl⟩ := ld_some hv
          obtain ⟨cas, hcas, hcp, _, _⟩ := I.cont g hg
          refine ⟨.inl ⟨rfl, _, SqL.of (eZ _ _ hcas)⟩, _, rfl, g.2.2, _, _, rfl, rfl, eZ _ _ hcas, ?_, ?_⟩
          · rw [List.length_map, hcp.length]
            have := unp_len s n i g.1
            exact Nat.lt_of_le_of_lt (by omega : _ ≤ 400) (by decide)
          · exact ⟨_, _, G, pas, rfl, I.old ho hy hkt hoa hz hg hgk rfl hcas⟩
        · have hno := ld_none hn
          have nzd : z ≠ d := fun e => by rw [e, eK _ _ I.dict] at hz; cases hz
          refine ⟨.inl ⟨rfl, _, SqL.of ((upd_ne nzd).trans upd_same)⟩, _, rfl, z, _, _, rfl, rfl, (upd_ne nzd).trans upd_same, ?_, ?_⟩
          · show 0 < sizeLine
            decide
          · exact ⟨_, _, G ++ [(spLook s n o, kt, z)], pas, rfl, I.new ho hy hkt hoa hz hno (by rw [List.map_append]; rfl)⟩
    · rintro σ H2 ⟨v4, v5, G, pas, rfl, I⟩
      have hal : (as.map V.ref).length = (spotsP s).length := by rw [List.length_map, has.length]
      rw [hal] at I
      -- found = []
      refine ⟨by show 0 ≤ sizeLine; exact Nat.zero_le _, fun fl hfl => ?_⟩
      have e3 : Same H2 (upd H2 fl (.lst [])) := same_upd hfl
      have hflH : H fl = none := (big I).free hfl
      have nfl : ∀ {b : Addr} {u : HO}, H2 b = some u → b ≠ fl := fun hb => ne_of_none hb hfl
      refine ⟨_, rfl, pl, rfl, ⟨_, SqL.of (e3 _ _ I.part)⟩, ?_⟩
      have hptl := ptd_len s n (spotsP s).length
      refine for_it (walk_list (K := K) (a := pl) (xs := pas.map V.ref)) (fun j σ H' => ∃ v4 v5 v7 v8, σ = [some (.ref a), some (.int (n : Nat)), some (.ref pl), some (.ref d), v4, v5, some (.ref fl), v7, v8] ∧ Same H2 H' ∧ RefsAt ConAt H' fl (((ptd s n (spotsP s).length).take j).flatMap fun q => (unp s n (spotsP s).length q.2).map fun o => (q.1, o))) ⟨v4, v5, none, none, rfl, e3, [], upd_same, .nil⟩ ?_ ?_ ?_
      · rintro j σ H' _ ⟨_, _, _, _, _, e, _⟩
        exact SqL.of (e _ _ I.part)
      · rintro j x σ H3 H3' hj ⟨v4', v5', v7, v8, rfl, e, fs, hfs, hfsp⟩ ⟨rfl, hx⟩
        obtain ⟨t, ht, rfl⟩ := refs_get hx
        obtain ⟨q, hq, ⟨b, kc, hq1, hq2, hq3⟩⟩ := pget I.parts ht
        have hb2 : PairAt H2 b q.1 := pair2 I hq2
        refine ⟨t, _, rfl, SqT.of (e _ _ hq1), rfl, _, _, rfl, _, _, rfl, rfl, ?_⟩
        -- for second in unparted_by_look.get(look, [])
        refine ⟨_, rfl, d, _, rfl, e _ _ I.dict, _, rfl, by show 0 ≤ sizeLine; exact Nat.zero_le _, fun z hz => ?_⟩
        have eZ : Same H3' (upd H3' z (.lst [])) := same_upd hz
        have e2Z : Same H2 (upd H3' z (.lst [])) := e.trans eZ
        refine ⟨G.map grpD, lkK q.2, kc, e2Z _ _ I.dict, fun p hp => ?_, rfl, e2Z _ _ hq3, ?_⟩
        · obtain ⟨g, hg, rfl⟩ := List.mem_map.mp hp
          exact e2Z _ _ (I.keys g hg)
        obtain ⟨la, us, hla, hus, husp, nlaf⟩ : ∃ (la : Addr) (us : List Addr), (ldAt (G.map grpD) (lkK q.2)).getD (.ref z) = .ref la ∧ upd H3' z (.lst []) la = some (.lst (us.map V.ref)) ∧ Paired (PairAt H1) us (unp s n (spotsP s).length q.2) ∧ la ≠ fl := by
          cases hld : ldAt (G.map grpD) (lkK q.2) with
          | some v =>
            obtain ⟨g, hg, hgk, rfl⟩ := ld_some hld
            obtain ⟨cas, hcas, hcp, _, _⟩ := I.cont g hg
            exact ⟨g.2.2, cas, rfl, e2Z _ _ hcas, by rw [← hgk]; exact hcp, nfl hcas⟩
          | none =>
            refine ⟨z, [], rfl, upd_same, ?_, fun e' => ?_⟩
            · rw [I.rest _ (ld_none hld)]
              exact .nil
            · rw [e', hfs] at hz
              cases hz
        rw [hla]
        refine ⟨la, rfl, ⟨_, SqL.of hus⟩, ?_⟩
        have hfsZ := eZ _ _ hfs
        have hlen0 : fs.length ≤ 360 * 360 := by
          rw [hfsp.length]
          refine Nat.le_trans (flat_len2 _ 360 (fun q => by rw [List.length_map]; exact Nat.le_trans (unp_len _ _ _ _) hsl) _) ?_
          rw [List.length_take]
          exact Nat.mul_le_mul_left 360 (by omega)
        have husl : us.length ≤ 360 := by
          rw [husp.length]
          exact Nat.le_trans (unp_len _ _ _ _) hsl
        refine for_it (walk_list (K := K) (a := la) (xs := us.map V.ref)) (fun m σ H' => ∃ v8, σ = [some (.ref a), some (.int (n : Nat)), some (.ref pl), some (.ref d), v4', some (.ref kc), some (.ref fl), some (.ref b), v8] ∧ But fl (upd H3' z (.lst [])) H' ∧ RefsAt ConAt H' fl ((((ptd s n (spotsP s).length).take j).flatMap fun q => (unp s n (spotsP s).length q.2).map fun o => (q.1, o)) ++ ((unp s n (spotsP s).length q.2).take m).map fun o => (q.1, o))) ?_ ?_ ?_ ?_
        · refine ⟨v8, rfl, But.refl _ _, fs, hfsZ, ?_⟩
          rw [List.take_zero, List.map_nil, List.append_nil]
          exact Paired.mapP hfsp fun x y hxy => ConAt.same _ _ x y eZ hxy
        · rintro m σ H' _ ⟨_, _, e4, _⟩
          exact SqL.of (e4 _ _ nlaf hus)
        · rintro m x σ H4 H4' hm ⟨v8', rfl, e4, gs, hgs, hgsp⟩ ⟨rfl, hx⟩
          obtain ⟨c2, hc2, rfl⟩ := refs_get hx
          obtain ⟨o2, ho2, ho2a⟩ := pget husp hc2
          rw [List.length_map] at hm
          have hc2H2 : PairAt H2 c2 o2 := pair2 I ho2a
          refine ⟨_, rfl, .inl ⟨rfl, _, SqL.of hgs⟩, _, rfl, _, rfl, by show 2 ≤ sizeLine; decide, fun t2 ht2 => ?_⟩
          refine ⟨fl, _, _, rfl, rfl, (upd_ne (ne_of_none hgs ht2)).trans hgs, ?_, ?_⟩
          · rw [List.length_map, hgsp.length, List.length_append, List.length_map, List.length_take]
            have : (((ptd s n (spotsP s).length).take j).flatMap fun q => (unp s n (spotsP s).length q.2).map fun o => (q.1, o)).length = fs.length := hfsp.length.symm
            exact Nat.lt_of_le_of_lt (by omega : _ ≤ 200000) (by decide)
          · have ntf : fl ≠ t2 := ne_of_none hgs ht2
            have up : ∀ b' u, b' ≠ fl → H4' b' = some u → upd (upd H4' t2 (.tup [.ref b, .ref c2])) fl (.lst (gs.map V.ref ++ [.ref t2])) b' = some u := fun b' u nb hb => by
              rw [upd_ne nb, upd_ne (ne_of_none hb ht2)]
              exact hb
            have upC : ∀ x y, ConAt H4' x y → ConAt (upd (upd H4' t2 (.tup [.ref b, .ref c2])) fl (.lst (gs.map V.ref ++ [.ref t2]))) x y := fun x y hxy => by
              obtain ⟨b1, b2, k1, k2, k3⟩ := hxy
              exact ⟨b1, b2, up _ _ (ne_of k1 hgs (by intro z; cases z)) k1, up _ _ (ne_of k2 hgs (by intro z; cases z)) k2, up _ _ (ne_of k3 hgs (by intro z; cases z)) k3⟩
            have fromH2 : ∀ {x : Addr} {y : Nat × Nat}, PairAt H2 x y → PairAt (upd (upd H4' t2 (.tup [.ref b, .ref c2])) fl (.lst (gs.map V.ref ++ [.ref t2]))) x y := fun {x y} hxy => up _ _ (nfl hxy) (e4 _ _ (nfl hxy) (e2Z _ _ hxy))
            refine ⟨_, rfl, e4.trans fun b' u nb hb => up b' u nb hb, gs ++ [t2], ?_, ?_⟩
            · rw [upd_same, List.map_append]
              rfl
            · rw [take_more ho2, List.map_append, ← List.append_assoc]
              exact psnoc (Paired.mapP hgsp fun x y hxy => upC x y hxy) ⟨b, c2, by rw [upd_ne (Ne.symm ntf), upd_same], fromH2 hb2, fromH2 hc2H2⟩
        · rintro σ H4 ⟨v8', rfl, e4, r4⟩
          refine ⟨_, _, _, _, rfl, fun b' u hb => e4 b' u (nfl hb) (e2Z _ _ hb), ?_⟩
          have el : (us.map V.ref).length = (unp s n (spotsP s).length q.2).length := by rw [List.length_map, husp.length]
          rw [el, List.take_length] at r4
          rw [take_more hq, List.flatMap_append]
          simpa using r4
      · rintro σ H3 ⟨v4', v5', v7, v8, rfl, e, r⟩
        have el : (pas.map V.ref).length = (ptd s n (spotsP s).length).length := by rw [List.length_map, I.parts.length]
        rw [el, List.take_length] at r
        exact ⟨_, rfl, k H3 fl ((big I).trans e) hflH r⟩
end
end WG
set_option Elab.async false
set_option linter.all false
set_option maxRecDepth 100000
set_option maxHeartbeats 2000000
namespace WG
open PySem PySem.Spec PyProof.Rows L2

/-! ### a set's table, masks up to 511: the way meets each slot -/
structure Mk (m : Nat) : Prop where
  odd : m % 2 = 1
  le : m ≤ 511
  meet : ∀ i j, i ≤ m → j ≤ m → ∃ k, k ≤ m ∧ lcgI m i k = j
theorem mk7 : Mk 7 := ⟨rfl, by decide, fun i j hi hj => lcgI_all (.inl rfl) hi hj⟩
theorem mk31 : Mk 31 := ⟨rfl, by decide, fun i j hi hj => lcgI_all (.inr (.inl rfl)) hi hj⟩
theorem mk127 : Mk 127 := ⟨rfl, by decide, fun i j hi hj => lcgI_all (.inr (.inr rfl)) hi hj⟩
def when511 : List Nat := [
  0, 1, 326, 495, 412, 365, 2, 379, 376, 281, 254, 327, 404, 261, 58, 339, 496, 305, 438, 415, 140, 413, 370, 43, 360, 73, 366, 247, 132, 309, 426, 3,
  480, 97, 38, 335, 380, 461, 226, 219, 344, 377, 478, 167, 372, 357, 282, 179, 464, 401, 150, 255, 108, 509, 82, 395, 328, 169, 78, 87, 100, 405, 138, 355,
  448, 193, 262, 175, 348, 45, 450, 59, 312, 473, 190, 7, 340, 453, 506, 19, 432, 497, 374, 95, 76, 93, 306, 235, 296, 265, 302, 439, 68, 501, 362, 195,
  416, 289, 486, 15, 316, 141, 162, 411, 280, 57, 414, 359, 308, 37, 218, 371, 400, 81, 86, 447, 44, 189, 18, 75, 264, 361, 14, 279, 36, 85, 74, 35,
  384, 385, 198, 367, 284, 237, 386, 251, 248, 153, 126, 199, 276, 133, 442, 211, 368, 177, 310, 287, 12, 285, 242, 427, 232, 457, 238, 119, 4, 181, 298, 387,
  352, 481, 422, 207, 252, 333, 98, 91, 216, 249, 350, 39, 244, 229, 154, 51, 336, 273, 22, 127, 492, 381, 466, 267, 200, 41, 462, 471, 484, 277, 10, 227,
  320, 65, 134, 47, 220, 429, 322, 443, 184, 345, 62, 391, 212, 325, 378, 403, 304, 369, 246, 479, 460, 477, 178, 107, 168, 137, 174, 311, 452, 373, 234, 67,
  288, 161, 358, 399, 188, 13, 34, 283, 152, 441, 286, 231, 180, 421, 90, 243, 272, 465, 470, 319, 428, 61, 402, 459, 136, 233, 398, 151, 420, 469, 458, 419,
  256, 257, 70, 239, 156, 109, 258, 123, 120, 25, 510, 71, 148, 5, 314, 83, 240, 49, 182, 159, 396, 157, 114, 299, 104, 329, 110, 503, 388, 53, 170, 259,
  224, 353, 294, 79, 124, 205, 482, 475, 88, 121, 222, 423, 116, 101, 26, 435, 208, 145, 406, 511, 364, 253, 338, 139, 72, 425, 334, 343, 356, 149, 394, 99,
  192, 449, 6, 431, 92, 301, 194, 315, 56, 217, 446, 263, 84, 197, 250, 275, 176, 241, 118, 351, 332, 349, 50, 491, 40, 9, 46, 183, 324, 245, 106, 451,
  160, 33, 230, 271, 60, 397, 418, 155, 24, 313, 158, 103, 52, 293, 474, 115, 144, 337, 342, 191, 300, 445, 274, 331, 8, 105, 270, 23, 292, 341, 330, 291,
  128, 129, 454, 111, 28, 493, 130, 507, 504, 409, 382, 455, 20, 389, 186, 467, 112, 433, 54, 31, 268, 29, 498, 171, 488, 201, 494, 375, 260, 437, 42, 131,
  96, 225, 166, 463, 508, 77, 354, 347, 472, 505, 94, 295, 500, 485, 410, 307, 80, 17, 278, 383, 236, 125, 210, 11, 456, 297, 206, 215, 228, 21, 266, 483,
  64, 321, 390, 303, 476, 173, 66, 187, 440, 89, 318, 135, 468, 69, 122, 147, 48, 113, 502, 223, 204, 221, 434, 363, 424, 393, 430, 55, 196, 117, 490, 323,
  32, 417, 102, 143, 444, 269, 290, 27, 408, 185, 30, 487, 436, 165, 346, 499, 16, 209, 214, 63, 172, 317, 146, 203, 392, 489, 142, 407, 164, 213, 202, 163]
theorem when511_ok : ((List.range 512).all fun j => decide (when511.getD j 0 ≤ 511) && lcgN 511 (when511.getD j 0) == j) = true := by decide +kernel
theorem met511 {j : Nat} (hj : j ≤ 511) : ∃ b, b ≤ 511 ∧ lcgN 511 b = j := by
  have q := List.all_eq_true.mp when511_ok j (List.mem_range.mpr (by omega))
  simp only [Bool.and_eq_true, decide_eq_true_eq, beq_iff_eq] at q
  exact ⟨_, q.1, q.2⟩
theorem turn511 : ∀ k, lcgN 511 (512 + k) = lcgN 511 k
  | 0 => by decide +kernel
  | k + 1 => by
    show (lcgN 511 (512 + k) * 5 + 1) % 512 = (lcgN 511 k * 5 + 1) % 512
    rw [turn511 k]
theorem mk511 : Mk 511 := ⟨rfl, Nat.le_refl _, fun i j hi hj => by
  obtain ⟨a, ha, rfl⟩ := met511 hi
  obtain ⟨b, hb, e⟩ := met511 hj
  by_cases c : a ≤ b
  · exact ⟨b - a, by omega, by rw [lcgN_add, show a + (b - a) = b by omega]; exact e⟩
  · exact ⟨512 + b - a, by omega, by rw [lcgN_add, show a + (512 + b - a) = 512 + b by omega, turn511]; exact e⟩⟩

theorem wayIn (m : Nat) (h : Int) (k : Nat) : way m h k ≤ m := by
  have b : _ ∧ _ ∧ _ := runEnd_bd (m := m) (i := SetTable.bits h % (m + 1)) (Nat.le_of_lt_succ (Nat.mod_lt _ (Nat.succ_pos m)))
  refine Nat.le_trans (Nat.le_add_right _ _) (nth_in (m := m) k (runAt m (SetTable.bits h % (m + 1)) (SetTable.bits h)) ?_)
  dsimp only [runAt]
  omega
theorem Mk.run {m : Nat} (M : Mk m) (h : Int) {j : Nat} (hj : j ≤ m) : ∃ n, n ≤ m + 12 ∧ runI m (SetTable.bits h) n = j := by
  obtain ⟨k, hk, e⟩ := M.meet _ j (runI_le m (SetTable.bits h) 12) hj
  exact ⟨12 + k, by omega, (runI_tail (bits_lt h) k).trans e⟩
theorem Mk.met {m : Nat} (M : Mk m) (h : Int) {j : Nat} (hj : j ≤ m) : ∃ k, k < 10 * SetTable.turns m ∧ way m h k = j := by
  obtain ⟨n, hn, e⟩ := M.run h hj
  obtain ⟨k, hk, e2⟩ := run_nth m (SetTable.bits h) n
  exact ⟨k, by unfold SetTable.turns; omega, (congrArg SetTable.Probe.j e2).trans e⟩

/-! ### a table in which each entry is found again -/
structure Tb (t : SetTable) (hs : List Int) : Prop where
  mok : Mk t.mask
  ris : Ris t.place.toList
  dm : t.dummies = #[]
  sz : t.place.size = hs.length
  rc : ∀ (i : Nat) (h : Int) (j : Nat), hs[i]? = some h → t.place.toList[i]? = some j → ∃ k, way t.mask h k = j ∧ ∀ c, c < k → way t.mask h c ∈ t.place.toList
theorem Tb.gap {t : SetTable} {hs : List Int} (T : Tb t hs) (few : hs.length ≤ t.mask) (h : Int) : ∃ K, K < 10 * SetTable.turns t.mask ∧ way t.mask h K ∉ t.place.toList ∧ ∀ c, c < K → way t.mask h c ∈ t.place.toList := by
  obtain ⟨j, hj, hn⟩ := st_missing t.place.toList (t.mask + 1) (by rw [Array.length_toList, T.sz]; omega)
  obtain ⟨k, hk, e⟩ := T.mok.met h (Nat.le_of_lt_succ hj)
  obtain ⟨K, a, b, d⟩ := st_least (p := fun c => way t.mask h c ∉ t.place.toList) k (by show way t.mask h k ∉ _; rw [e]; exact hn)
  exact ⟨K, Nat.lt_of_le_of_lt a hk, b, fun c hc => Classical.not_not.mp (d c hc)⟩
theorem Tb.ahead {t : SetTable} {hs : List Int} (T : Tb t hs) {h : Int} {K i j : Nat} (out : way t.mask h K ∉ t.place.toList) (hi : hs[i]? = some h) (hj : t.place.toList[i]? = some j) : ∃ c, c < K ∧ way t.mask h c = j := by
  obtain ⟨c, e, b⟩ := T.rc i h j hi hj
  refine ⟨c, Nat.lt_of_not_le fun le => ?_, e⟩
  rcases Nat.lt_or_ge K c with l | g
  · exact out (b K l)
  · rw [Nat.le_antisymm le g, e] at out
    exact out (List.mem_of_getElem? hj)
theorem Tb.put {t : SetTable} {hs : List Int} (T : Tb t hs) {h : Int} {K : Nat} (out : way t.mask h K ∉ t.place.toList) (ins : ∀ c, c < K → way t.mask h c ∈ t.place.toList) {j : Nat} (hj : way t.mask h K = j) :
    SetTable.below t.place j ≤ hs.length ∧ Tb (t.put j).1 (hs.take (SetTable.below t.place j) ++ h :: hs.drop (SetTable.below t.place j)) ∧ (t.put j).1.fill = hs.length + 1 := by
  rw [hj] at out
  have cut := (below_cut T.ris j).1
  have l2 : SetTable.below t.place j ≤ t.place.toList.length := by
    rw [Array.length_toList]
    exact cut
  rw [T.sz] at cut
  have pp := put_place t j
  have old : ∀ {x : Nat}, x ∈ t.place.toList → x ∈ (t.put j).1.place.toList := fun hx => by
    rw [pp]
    exact mem_ins.2 (.inr hx)
  have sz : (t.put j).1.place.size = hs.length + 1 := by
    rw [← Array.length_toList, pp, len_ins _ l2, Array.length_toList, T.sz]
  refine ⟨cut, ⟨T.mok, ris_insert T.ris fun e => out (List.mem_of_getElem? (by rw [Array.getElem?_toList]; exact e)), put_dm T.dm j, by rw [len_ins _ cut]; exact sz, fun i h' j' a b => ?_⟩, ?_⟩
  · rw [tins_get hs cut] at a
    rw [pp, tins_get _ l2] at b
    have was : ∀ i' : Nat, hs[i']? = some h' → t.place.toList[i']? = some j' → ∃ k, way t.mask h' k = j' ∧ ∀ c, c < k → way t.mask h' c ∈ (t.put j).1.place.toList := fun i' a b => by
      obtain ⟨k, e, z⟩ := T.rc i' h' j' a b
      exact ⟨k, e, fun c hc => old (z c hc)⟩
    by_cases c1 : i < SetTable.below t.place j
    · rw [if_pos c1] at a b
      exact was i a b
    · rw [if_neg c1] at a b
      by_cases c2 : i = SetTable.below t.place j
      · rw [if_pos c2] at a b
        cases a
        cases b
        exact ⟨K, hj, fun c hc => old (ins c hc)⟩
      · rw [if_neg c2] at a b
        exact was (i - 1) a b
  · show (t.put j).1.place.size + (t.put j).1.dummies.size = hs.length + 1
    rw [sz, put_dm T.dm j]
    rfl

/-! ### laid anew -/
theorem freeAt {m : Nat} (M : Mk m) (ow : Array (Option Nat)) (h : Int) {j : Nat} (hj : j ≤ m) (f : oAt ow j = none) :
    ∃ K, SetTable.layClean.free m ow (SetTable.turns m) (SetTable.bits h % (m + 1)) (SetTable.bits h) = some (way m h K) ∧ oAt ow (way m h K) = none ∧ ∀ c, c < K → oAt ow (way m h c) ≠ none := by
  obtain ⟨n, hn, e⟩ := M.run h hj
  have hw : way m h (off m (SetTable.bits h % (m + 1)) (SetTable.bits h) n) = j := (congrArg SetTable.Probe.j ((nth_off m n _ _).trans (by rw [itL_run]))).trans e
  obtain ⟨K, a, b, d⟩ := st_least (p := fun c => oAt ow (way m h c) = none) (off m (SetTable.bits h % (m + 1)) (SetTable.bits h) n) (by show oAt ow (way m h _) = none; rw [hw]; exact f)
  refine ⟨K, free_spec m ow _ n _ _ K (by unfold SetTable.turns; omega) a (fun c hc => ?_) (Option.isNone_iff_eq_none.mpr b), b, d⟩
  generalize hz : oAt ow (nth m (runAt m (SetTable.bits h % (m + 1)) (SetTable.bits h)) c).j = z
  cases z with
  | none => exact absurd hz (d c hc)
  | some v => rfl
theorem ownStep {m : Nat} (M : Mk m) {done : List Int} {ow : Array (Option Nat)} (W : Own m done ow) (few : done.length ≤ m) (h : Int) :
    ∃ j, SetTable.layClean.free m ow (SetTable.turns m) (SetTable.bits h % (m + 1)) (SetTable.bits h) = some j ∧ Own m (done ++ [h]) (ow.setIfInBounds j (some done.length)) := by
  obtain ⟨ps, lps, inps⟩ := W.ps
  obtain ⟨z, hz, nz⟩ := st_missing ps (m + 1) (by omega)
  obtain ⟨K, e1, e2, e3⟩ := freeAt M ow h (Nat.le_of_lt_succ hz) (Classical.byContradiction fun q => nz (inps z (Nat.le_of_lt_succ hz) q))
  have inb := wayIn m h K
  refine ⟨way m h K, e1, ?_⟩
  generalize hj : way m h K = j at e1 e2 inb ⊢
  have me : oAt (ow.setIfInBounds j (some done.length)) j = some done.length := oAt_set_self _ (by rw [W.sz]; omega)
  have them : ∀ {i : Nat}, i ≠ j → oAt (ow.setIfInBounds j (some done.length)) i = oAt ow i := fun hi => oAt_set_ne _ hi
  have full : ∀ {i : Nat}, oAt ow i ≠ none → oAt (ow.setIfInBounds j (some done.length)) i ≠ none := fun {i} hi => by
    by_cases c : i = j
    · rw [c, me]
      exact nofun
    · rw [them c]
      exact hi
  refine ⟨by rw [Array.size_setIfInBounds]; exact W.sz, fun i k hi e => ?_, fun k hk => ?_, j :: ps, by rw [List.length_cons, List.length_append, lps]; rfl, fun i hi e => ?_⟩
  · by_cases c : i = j
    · rw [c, me] at e
      cases e
      exact ⟨h, K, List.getElem?_concat_length, hj.trans c.symm, fun c' hc => full (e3 c' hc)⟩
    · rw [them c] at e
      obtain ⟨h', K', a1, a2, a3⟩ := W.at_ i k hi e
      refine ⟨h', K', ?_, a2, fun c' hc => full (a3 c' hc)⟩
      rw [List.getElem?_append_left (List.getElem?_eq_some_iff.mp a1).1, a1]
  · rw [List.length_append] at hk
    rcases Nat.lt_or_ge k done.length with c | c
    · obtain ⟨i, hi, e⟩ := W.all k c
      exact ⟨i, hi, (them fun z => by rw [z, e2] at e; cases e).trans e⟩
    · have : k = done.length := by
        have : k < done.length + 1 := hk
        omega
      exact ⟨j, inb, by rw [this]; exact me⟩
  · by_cases c : i = j
    · rw [c]
      exact .head _
    · rw [them c] at e
      exact .tail _ (inps i hi e)
theorem laidAll {m : Nat} (M : Mk m) : ∀ (rest done : List Int) (ow : Array (Option Nat)), Own m done ow → done.length + rest.length ≤ m →
    ∃ ow' n, rest.foldl (stepF m) (some (ow, done.length)) = some (ow', n) ∧ Own m (done ++ rest) ow'
  | [], done, ow, W, _ => ⟨ow, _, rfl, by rw [List.append_nil]; exact W⟩
  | h :: rest, done, ow, W, few => by
    have few' : done.length + (rest.length + 1) ≤ m := few
    obtain ⟨j, e, W'⟩ := ownStep M W (by omega) h
    have lh : (done ++ [h]).length = done.length + 1 := List.length_append
    obtain ⟨ow', n, f, W2⟩ := laidAll M rest (done ++ [h]) _ W' (by rw [lh]; omega)
    rw [List.append_assoc] at W2
    rw [lh] at f
    exact ⟨ow', n, by rw [List.foldl_cons, stepF_some e]; exact f, W2⟩
theorem relaidW (t : SetTable) {hs : Array Int} {wanted m : Nat} (hw : SetTable.sizeAbove wanted - 1 = m) (M : Mk m) (few : hs.size ≤ m) :
    ∃ t' order, t.relaid hs wanted = some (t', order) ∧ order.toList.Perm (List.range hs.size) ∧ Tb t' (order.toList.map fun i => hs.getD i 0) ∧ t'.mask = m ∧ t'.led = t.led ∧ t'.plain = t.plain := by
  obtain ⟨ow, n, f, W⟩ := laidAll M hs.toList [] _ (Own.init m) (by rw [Array.length_toList]; show 0 + hs.size ≤ m; omega)
  have e : SetTable.layClean m hs = some ow := by
    rw [layClean_eq]
    exact congrArg (Option.map (·.1)) f
  have R := (ris_live (fun j => ow.getD j none) (List.range (m + 1)) (by unfold Ris; first | exact List.pairwise_lt_range | exact List.pairwise_lt_range _)).1
  have R' : Ris ((liveOf m ow).map (·.1)) := R
  have lhs : hs.toList.length = hs.size := rfl
  have dif : ((liveOf m ow).map (·.1)).Nodup := List.Pairwise.imp (fun {a b} (q : a < b) => Nat.ne_of_lt q) R'
  rw [List.nil_append] at W
  have len : (liveOf m ow).length = hs.size := by
    obtain ⟨ps, p1, p2⟩ := W.ps
    have a := nat_nodup_len ((liveOf m ow).map (·.1)) ps dif fun x hx => by
      obtain ⟨⟨y, k⟩, hq, rfl⟩ := List.mem_map.mp hx
      obtain ⟨b1, b2⟩ := (mem_live W.sz).1 hq
      exact p2 y b1 (by rw [b2]; exact nofun)
    have b := nat_nodup_len (List.range hs.size) ((liveOf m ow).map (·.2)) List.nodup_range fun k hk => by
      obtain ⟨j, b1, b2⟩ := W.all k (List.mem_range.mp hk)
      exact List.mem_map.mpr ⟨(j, k), (mem_live W.sz).2 ⟨b1, b2⟩, rfl⟩
    rw [List.length_map] at a b
    rw [List.length_range] at b
    omega
  refine ⟨tabOf t m ow, ((liveOf m ow).map (·.2)).toArray, by rw [relaid_eq, hw, e]; rfl, perm_range hs.size _ ((List.length_map _).trans len) fun k hk => ?_, ⟨M, R', rfl, ?_, fun i h j h1 h2 => ?_⟩, rfl, rfl, rfl⟩
  · obtain ⟨j, b1, b2⟩ := W.all k hk
    exact List.mem_map.mpr ⟨(j, k), (mem_live W.sz).2 ⟨b1, b2⟩, rfl⟩
  · show ((liveOf m ow).map (·.1)).length = (((liveOf m ow).map (·.2)).map _).length
    simp only [List.length_map]
  · have h1' : (((liveOf m ow).map (·.2)).map fun i => hs.getD i 0)[i]? = some h := h1
    have h2' : ((liveOf m ow).map (·.1))[i]? = some j := h2
    simp only [List.getElem?_map] at h1' h2'
    obtain ⟨q, hq, rfl⟩ := Option.map_eq_some_iff.mp h2'
    rw [hq] at h1'
    obtain ⟨b1, b2⟩ := (mem_live (j := q.1) (k := q.2) W.sz).1 (List.mem_of_getElem? hq)
    obtain ⟨h0, K, a1, a2, a3⟩ := W.at_ _ _ b1 b2
    have e0 : hs.getD q.2 0 = h0 := by
      rw [Array.getD_eq_getD_getElem?, ← Array.getElem?_toList, a1]
      rfl
    have e1 : h0 = h := e0.symm.trans (Option.some.inj h1')
    refine ⟨K, by rw [← e1]; exact a2, fun c hc => ?_⟩
    show way m h c ∈ (liveOf m ow).map (·.1)
    rw [← e1]
    cases z : oAt ow (way m h0 c) with
    | none => exact absurd z (a3 c hc)
    | some k2 => exact List.mem_map.mpr ⟨(_, k2), (mem_live W.sz).2 ⟨wayIn m h0 c, z⟩, rfl⟩
theorem above5 : SetTable.sizeAbove (SetTable.grown 5) = 32 := by decide +kernel
theorem above19 : SetTable.sizeAbove (SetTable.grown 19) = 128 := by decide +kernel
theorem above77 : SetTable.sizeAbove (SetTable.grown 77) = 512 := by decide +kernel
end WG
set_option Elab.async false
set_option linter.all false
set_option maxRecDepth 100000
set_option maxHeartbeats 2000000
namespace WG
open PySem PySem.Spec PyProof.Rows L2

/-- the k-th state of a search -/
def stAt (m : Nat) (h : Int) (c : Nat) : SetTable.Probe := nth m (runAt m (SetTable.bits h % (m + 1)) (SetTable.bits h)) c
theorem stAt_j (m : Nat) (h : Int) (c : Nat) : (stAt m h c).j = way m h c := rfl
theorem stAt_on (m : Nat) (h : Int) (c q : Nat) : nth m (stAt m h c) q = stAt m h (c + q) := (nth_add m c _ q).symm
theorem stAt_dm (m : Nat) (h : Int) (c : Nat) : (stAt m h c).dummy = none := by
  unfold stAt
  generalize hp : runAt m (SetTable.bits h % (m + 1)) (SetTable.bits h) = p
  have h0 : p.dummy = none := by rw [← hp]; rfl
  clear hp
  induction c generalizing p with
  | zero => exact h0
  | succ c ih =>
    refine ih (adv m p) ?_
    unfold adv
    split
    · exact h0
    · exact h0

section
variable {P : Program} {w : World} {A : Around} {E : Value → Shared → Prop} {s : Shared}
/-- a set of tuples of ints -/
structure St (P : Program) (w : World) (h : Heap) (a : Addr) (L : List (Addr × List Int)) (es : Array (Int × Value)) (ep : Nat) (t : SetTable) : Prop where
  ob : ∃ o, h.get? a = some o ∧ o.ExactSet ∧ o.data = .set es ep t
  rows : es.toList = rowsOf P w L
  tab : Tb t (L.map fun p => thash P w p.2)
  nd : (L.map (·.2)).Nodup
  tup : ∀ p ∈ L, IsT P w h p.2 p.1
  plain : t.plain = true
  led : w.params.followText "set-order" = true ∨ t.led = true
  room : L.length * 5 < t.mask * 3
  kind : t.mask = 7 ∨ t.mask = 31 ∨ t.mask = 127 ∨ t.mask = 511
variable {a : Addr} {L : List (Addr × List Int)} {es : Array (Int × Value)} {ep : Nat} {t : SetTable}
theorem rows_len (e : es.toList = rowsOf P w L) : es.size = L.length := by
  have q := congrArg List.length e
  unfold rowsOf at q
  rwa [Array.length_toList, List.length_map] at q
theorem fits_of (e : es.size = L.length) (z : t.place.size = L.length) (d : t.dummies = #[]) (r : L.length ≤ t.mask) : t.fits es.size = true := by
  unfold SetTable.fits SetTable.fill
  simp only [d, Bool.and_eq_true, beq_iff_eq, decide_eq_true_eq]
  exact ⟨z.trans e.symm, by rw [z]; exact r⟩
theorem St.psz (R : St P w s.heap a L es ep t) : t.place.size = L.length := R.tab.sz.trans (List.length_map _)
theorem St.le (R : St P w s.heap a L es ep t) : L.length ≤ t.mask := by
  have := R.room
  omega
theorem St.fits (R : St P w s.heap a L es ep t) : t.fits es.size = true := fits_of (rows_len R.rows) R.psz R.tab.dm R.le
theorem St.ent (R : St P w s.heap a L es ep t) {i : Nat} {p : Addr × List Int} (h : L[i]? = some p) : es[i]? = some (thash P w p.2, Value.ref p.1) := by
  rw [← Array.getElem?_toList, R.rows]
  unfold rowsOf
  rw [List.getElem?_map, h]
  rfl
theorem St.gw (R : St P w s.heap a L es ep t) : ¬ t.gaveWay = true := by
  unfold SetTable.gaveWay
  rw [R.tab.mok.odd]
  decide

theorem look_from (R : St P w s.heap a L es ep t) {x : Addr} {k : List Int} (hx : IsT P w s.heap k x) (hu : A.units < cLine) {K : Nat} (hKf : K < 10 * SetTable.turns t.mask)
    (out : way t.mask (thash P w k) K ∉ t.place.toList) (ins : ∀ c, c < K → way t.mask (thash P w k) c ∈ t.place.toList) {Q : SetFound → Shared → Prop}
    (yes : k ∈ L.map (·.2) → Q (.there none) s) (no : k ∉ L.map (·.2) → Q (.free (way t.mask (thash P w k) K) false) s) :
    ∀ (f c : Nat) (stand : Option SetTable.Probe), stand.getD (t.probeStart (thash P w k)) = stAt t.mask (thash P w k) c → c ≤ K → K - c < f →
      (∀ (i : Nat) p, L[i]? = some p → p.2 = k → ∃ c', c ≤ c' ∧ c' < K ∧ t.place.toList[i]? = some (way t.mask (thash P w k) c')) →
      wpAny (model P w) A (setSearchFrom a (.ref x) (thash P w k) true f stand) Q E s
  | 0, _, _, _, _, hf, _ => absurd hf (Nat.not_lt_zero _)
  | f + 1, c, stand, hst, hc, hf, ahead => by
    obtain ⟨o, ho, hex, hd⟩ := R.ob
    rw [setSearchFrom_succ]
    refine wpAny_bind (wpAny_setState_of ho hd R.fits ?_)
    dsimp only
    refine wp_if_neg R.gw ?_
    have eK : c + (K - c) = K := by omega
    have word : ∀ (i : Nat) p, L[i]? = some p → (es[i]?.map (·.1)).getD 0 = thash P w p.2 := fun i p hp => by
      rw [R.ent hp]
      rfl
    have spec := go_spec t R.tab.ris R.tab.dm (fun i => (es[i]?.map (·.1)).getD 0) (thash P w k) (10 * SetTable.turns t.mask) (K - c) (stAt t.mask (thash P w k) c) (stAt_dm _ _ _) (by omega)
      (fun q hq => by rw [stAt_on]; exact ins (c + q) (by omega)) (by rw [stAt_on, eK]; exact out)
    simp only [stAt_on, stAt_j] at spec
    rw [hst]
    rcases spec with ⟨q, i, hq, hi, hh, hno, hpr⟩ | ⟨hno, hpr⟩
    · have hpr' : t.probe (fun i => (es[i]?.map (·.1)).getD 0) (thash P w k) (stAt t.mask (thash P w k) c) = some (.candidate (way t.mask (thash P w k) (c + q)) i (stAt t.mask (thash P w k) (c + (q + 1)))) := hpr
      rw [hpr']
      dsimp only
      have hil : i < L.length := by
        have q1 := (List.getElem?_eq_some_iff.mp hi).1
        rwa [Array.length_toList, R.psz] at q1
      obtain ⟨p, hp⟩ : ∃ p, L[i]? = some p := ⟨_, List.getElem?_eq_getElem hil⟩
      have hmem : p ∈ L := List.mem_of_getElem? hp
      have rest : wpAny (model P w) A (searchRest a (.ref x) (thash P w k) true f es t (way t.mask (thash P w k) (c + q)) i (stAt t.mask (thash P w k) (c + (q + 1)))) Q E s := by
        unfold searchRest
        rw [R.ent hp]
        dsimp only
        refine wpAny_bind (wpAny_holding (wpAny_eqBool_tuple hu (R.tup p hmem) hx ?_))
        refine wpAny_bind (wpAny_setState_of ho hd R.fits ?_)
        dsimp only
        by_cases kk : p.2 = k
        · refine wp_if_pos (by simp [kk]) ?_
          exact wpAny_pure (yes (List.mem_map.mpr ⟨p, hmem, kk⟩))
        · refine wp_if_neg (by simp [kk]) ?_
          rw [sameMem]
          dsimp only
          have live : t.slot (way t.mask (thash P w k) (c + q)) = .live i := slot_live R.tab.ris hi
          simp only [if_true, live, R.ent hp]
          refine wpAny_bind (wpAny_isSame_ref_self (wpAny_bind (wpAny_pure ?_)))
          simp only [if_true]
          refine wp_if_neg (by simp [kk]) ?_
          refine look_from R hx hu hKf out ins yes no f (c + (q + 1)) _ rfl (by omega) (by omega) fun i0 p0 h0 k0 => ?_
          obtain ⟨c', a1, a2, a3⟩ := ahead i0 p0 h0 k0
          refine ⟨c', Classical.byContradiction fun nle => ?_, a2, a3⟩
          have le : c' ≤ c + q := by omega
          rcases Nat.lt_or_eq_of_le le with lt | rfl
          · refine hno (c' - c) i0 (by omega) (by rw [show c + (c' - c) = c' by omega]; exact a3) ?_
            rw [word i0 p0 h0, k0]
          · have same := slot_live R.tab.ris a3
            rw [live] at same
            cases same
            rw [hp] at h0
            cases h0
            exact kk k0
      by_cases hl : t.led = true
      · refine wp_if_neg (by simp [hl]) ?_
        exact rest
      · refine wp_if_pos (by simp [hl]) ?_
        refine wpAny_bind (seen_tup hx (fun y hy => ?_) ?_)
        · obtain ⟨e, he, rfl⟩ := List.mem_map.mp hy
          have he2 : e ∈ es.toList := by
            have he1 : e ∈ es ∧ e.1 = thash P w k := by simpa using he
            simpa using he1.1
          rw [R.rows] at he2
          obtain ⟨p2, hp2, rfl⟩ := List.mem_map.mp he2
          exact ⟨p2.2, p2.1, rfl, R.tup p2 hp2⟩
        · refine wp_if_neg (by decide) ?_
          exact rest
    · have hpr' : t.probe (fun i => (es[i]?.map (·.1)).getD 0) (thash P w k) (stAt t.mask (thash P w k) c) = some (.empty (way t.mask (thash P w k) K) none) := by
        rw [eK] at hpr
        exact hpr
      rw [hpr']
      dsimp only
      refine wpAny_pure (no fun hm => ?_)
      obtain ⟨p0, m0, k0⟩ := List.mem_map.mp hm
      obtain ⟨i0, h0⟩ := List.mem_iff_getElem?.mp m0
      obtain ⟨c', a1, a2, a3⟩ := ahead i0 p0 h0 k0
      refine hno (c' - c) i0 (by omega) (by rw [show c + (c' - c) = c' by omega]; exact a3) ?_
      rw [word i0 p0 h0, k0]
theorem look_at (R : St P w s.heap a L es ep t) {x : Addr} {k : List Int} (hx : IsT P w s.heap k x) (hu : A.units < cLine) {Q : SetFound → Shared → Prop}
    (yes : k ∈ L.map (·.2) → Q (.there none) s)
    (no : ∀ K, k ∉ L.map (·.2) → way t.mask (thash P w k) K ∉ t.place.toList → (∀ c, c < K → way t.mask (thash P w k) c ∈ t.place.toList) → Q (.free (way t.mask (thash P w k) K) false) s) :
    wpAny (model P w) A (setSearch a (.ref x) (thash P w k) true) Q E s := by
  obtain ⟨K, hKf, out, ins⟩ := R.tab.gap (by rw [List.length_map]; exact R.le) (thash P w k)
  have lim : K < 100000 := by
    have := R.tab.mok.le
    unfold SetTable.turns at hKf
    omega
  unfold setSearch
  refine look_from R hx hu hKf out ins yes (fun hn => no K hn out ins) 100000 0 none rfl (Nat.zero_le _) (by omega) fun i p hp hk => ?_
  have hi : (L.map fun p => thash P w p.2)[i]? = some (thash P w k) := by
    rw [List.getElem?_map, hp, ← hk]
    rfl
  have il : i < t.place.toList.length := by
    rw [Array.length_toList, R.psz]
    exact (List.getElem?_eq_some_iff.mp hp).1
  obtain ⟨c, hc, e⟩ := R.tab.ahead out hi (List.getElem?_eq_getElem il)
  exact ⟨c, Nat.zero_le _, hc, by rw [e]; exact List.getElem?_eq_getElem il⟩
end
end WG
set_option Elab.async false
set_option linter.all false
set_option maxRecDepth 100000
set_option maxHeartbeats 3200000
namespace WG
open PySem PySem.Spec PyProof.Rows L2
section
variable {P : Program} {w : World} {A : Around} {E : Value → Shared → Prop} {s : Shared}
variable {a : Addr} {L : List (Addr × List Int)} {es : Array (Int × Value)} {ep : Nat} {t : SetTable}
theorem relayW {o : Obj} (ho : s.heap.get? a = some o) (hex : o.ExactSet) (hd : o.data = .set es ep t) (rows : es.toList = rowsOf P w L) (psz : t.place.size = L.length) (dm : t.dummies = #[]) (le : L.length ≤ t.mask)
    (nd : (L.map (·.2)).Nodup) (tup : ∀ p ∈ L, IsT P w s.heap p.2 p.1) (pl : t.plain = true) (ld : w.params.followText "set-order" = true ∨ t.led = true) {wanted m : Nat}
    (hw : SetTable.sizeAbove wanted = m + 1) (M : Mk m) (kd : m = 7 ∨ m = 31 ∨ m = 127 ∨ m = 511) (rm : L.length * 5 < m * 3) {Q : Unit → Shared → Prop}
    (hQ : ∀ h' L' es' ep' t', Heap.SameBut a s.heap h' → St P w h' a L' es' ep' t' → L'.Perm L → Q () { s with heap := h' }) : wpAny (model P w) A (setRelay a wanted) Q E s := by
  have sz := rows_len rows
  obtain ⟨t', order, e, hp, T, em, el, epl⟩ := relaidW t (hs := es.map (·.1)) (wanted := wanted) (m := m) (by rw [hw]; rfl) M (by rw [Array.size_map, sz]; omega)
  rw [Array.size_map, sz] at hp
  obtain ⟨L2, r1, r2, r3⟩ := order_rows L es order rows hp
  rw [← r3] at T
  have z2 : (order.filterMap (es[·]?)).size = es.size := by rw [rows_len r1, r2.length_eq, sz]
  rw [setRelay_eq]
  refine wpAny_bind (wpAny_setState_of ho hd (fits_of sz psz dm le) ?_)
  dsimp only
  have := M.le
  refine wp_if_neg (by rw [hw, sizeLine_eq]; omega) ?_
  rw [e]
  dsimp only
  refine wpAny_bind ?_
  refine wp_if_neg (by rw [z2]; simp) ?_
  refine wpAny_pure ?_
  dsimp only
  refine wpAny_storeSet_of ho hd ?_ (by rw [z2, sz, sizeLine_eq]; omega)
  have sb : Heap.SameBut a s.heap (s.heap.update a (Obj.putSet (order.filterMap (es[·]?)) t')) := Heap.SameBut.update ..
  exact hQ _ L2 _ (ep + 1) t' sb ⟨⟨_, store_at ho hd, ⟨hex.1, hex.2.1, hex.2.2⟩, rfl⟩, r1, T, (r2.map (·.2)).nodup_iff.mpr nd, fun p m => isT_same (tup p (r2.mem_iff.mp m)) ho hd sb,
    epl.trans pl, by rw [el]; exact ld, by rw [r2.length_eq, em]; exact rm, by rw [em]; exact kd⟩ r2
theorem St.add (R : St P w s.heap a L es ep t) {x : Addr} {k : List Int} (hx : IsT P w s.heap k x) (hu : A.units < cLine) (few : L.length ≤ 300) {Q : Bool → Shared → Prop}
    (hQ : ∀ b h' L' es' ep' t', Heap.SameBut a s.heap h' → St P w h' a L' es' ep' t' → (k ∈ L.map (·.2) → L' = L) → (k ∉ L.map (·.2) → L'.Perm ((x, k) :: L)) → Q b { s with heap := h' }) :
    wpAny (model P w) A (setAddHashed a (.ref x) (thash P w k)) Q E s := by
  obtain ⟨o, ho, hex, hd⟩ := R.ob
  have sz := rows_len R.rows
  have rm := R.room
  unfold setAddHashed
  refine wpAny_holding ?_
  rw [show (100000 : Nat) = 99999 + 1 from rfl, setAddHashedIn_succ]
  refine wpAny_bind (wpAny_setState_of ho hd R.fits ?_)
  dsimp only
  refine wp_if_neg (by simp [byScan, Value.scannable]) ?_
  refine wpAny_bind (look_at R hx hu (fun hm => wpAny_pure (hQ false s.heap L es ep t (Heap.SameBut.refl a s.heap) R (fun _ => rfl) fun z => absurd hm z)) fun K hm out ins => ?_)
  dsimp only
  refine wpAny_bind (wpAny_setState_of ho hd R.fits ?_)
  dsimp only
  generalize hj : way t.mask (thash P w k) K = j
  obtain ⟨cut, T, fill⟩ := R.tab.put out ins hj
  have ep1 : (t.put j).2 = SetTable.below t.place j := rfl
  have em : (t.put j).1.mask = t.mask := rfl
  have el : (t.put j).1.led = t.led := rfl
  have epl : (t.put j).1.plain = t.plain := rfl
  have edm : (t.put j).1.dummies = #[] := put_dm R.tab.dm j
  generalize hpt : t.put j = pt at T fill ep1 em el epl edm ⊢
  obtain ⟨t1, p⟩ := pt
  dsimp only at T fill ep1 em el epl edm ⊢
  rw [← ep1] at T
  rw [List.length_map] at fill
  have pl1 : t1.plain = true := epl.trans R.plain
  first
    | (refine wpAny_bind ?_; refine wp_if_pos pl1 ?_; refine hashBy_tup hx ?_)
    | refine wp_if_pos pl1 (wpAny_bind (hashBy_tup hx ?_))
  simp only [if_true]
  have rows1 : (SetTable.insertAt es p (thash P w k, Value.ref x)).toList = rowsOf P w (L.take p ++ (x, k) :: L.drop p) := by rw [SetTable.toList_insertAt, rows_put, R.rows]
  have pm := put_perm L p (x, k)
  have hs1 : (L.take p ++ (x, k) :: L.drop p).map (fun p => thash P w p.2) = (L.map fun p => thash P w p.2).take p ++ thash P w k :: (L.map fun p => thash P w p.2).drop p := by simp only [List.map_append, List.map_cons, List.map_take, List.map_drop]
  rw [← hs1] at T
  generalize SetTable.insertAt es p (thash P w k, Value.ref x) = es1 at rows1 ⊢
  generalize L.take p ++ (x, k) :: L.drop p = L1 at pm T rows1
  have l1 : L1.length = L.length + 1 := pm.length_eq
  have nd1 : (L1.map (·.2)).Nodup := (pm.map (·.2)).nodup_iff.mpr (List.nodup_cons.mpr ⟨hm, R.nd⟩)
  have sz1 := rows_len rows1
  refine wpAny_bind (wpAny_storeSet_of ho hd ?_ (by rw [sz1, l1, sizeLine_eq]; omega))
  have sb : Heap.SameBut a s.heap (s.heap.update a (Obj.putSet es1 t1)) := Heap.SameBut.update ..
  have ho1 := store_at (es' := es1) (t' := t1) ho hd
  generalize s.heap.update a (Obj.putSet es1 t1) = h1 at sb ho1 ⊢
  have tup1 : ∀ p ∈ L1, IsT P w h1 p.2 p.1 := fun p hp => by
    rcases List.mem_cons.mp (pm.mem_iff.mp hp) with rfl | hp
    · exact isT_same hx ho hd sb
    · exact isT_same (R.tup p hp) ho hd sb
  have ld1 : w.params.followText "set-order" = true ∨ t1.led = true := by rw [el]; exact R.led
  by_cases hf : t1.tooFull = true
  · have big : (L.length + 1) * 5 ≥ t1.mask * 3 := by
      unfold SetTable.tooFull at hf
      rw [decide_eq_true_eq, fill] at hf
      exact hf
    rw [em] at big
    first
      | (refine wpAny_bind ?_; refine wp_if_pos (by simp [hf]) ?_)
      | (refine wp_if_pos (by simp [hf]) ?_; refine wpAny_bind ?_)
    rw [sz]
    have psz1 : t1.place.size = L1.length := T.sz.trans (List.length_map _)
    have go : ∀ m, SetTable.sizeAbove (SetTable.grown (L.length + 1)) = m + 1 → Mk m → (m = 7 ∨ m = 31 ∨ m = 127 ∨ m = 511) → L1.length * 5 < m * 3 →
        wpAny (model P w) A (setRelay a (SetTable.grown (L.length + 1))) (fun _ s' => wpAny (model P w) A (pure true) Q E s') E { s with heap := h1 } := fun m z1 z2 z3 z4 =>
      relayW (s := { s with heap := h1 }) ho1 ⟨hex.1, hex.2.1, hex.2.2⟩ rfl rows1 psz1 edm (by rw [em, l1]; omega) nd1 tup1 pl1 ld1 z1 z2 z3 z4
        fun h2 L2 es2 ep2 t2 sb2 R2 pm2 => wpAny_pure (hQ true h2 L2 es2 ep2 t2 (sb.trans sb2) R2 (fun z => absurd z hm) fun _ => pm2.trans pm)
    rcases R.kind with e | e | e | e <;> rw [e] at big rm
    · have : L.length = 4 := by omega
      exact go 31 (by rw [this]; exact above5) mk31 (.inr (.inl rfl)) (by omega)
    · have : L.length = 18 := by omega
      exact go 127 (by rw [this]; exact above19) mk127 (.inr (.inr (.inl rfl))) (by omega)
    · have : L.length = 76 := by omega
      exact go 511 (by rw [this]; exact above77) mk511 (.inr (.inr (.inr rfl))) (by omega)
    · omega
  · have small : (L.length + 1) * 5 < t1.mask * 3 := by
      unfold SetTable.tooFull at hf
      rw [decide_eq_true_eq, fill] at hf
      omega
    first
      | refine wp_if_neg (by simp [hf]) ?_
      | (refine wpAny_bind ?_; refine wp_if_neg (by simp [hf]) ?_; refine wpAny_pure ?_)
    exact wpAny_pure (hQ true h1 L1 es1 (ep + 1) t1 sb ⟨⟨_, ho1, ⟨hex.1, hex.2.1, hex.2.2⟩, rfl⟩, rows1, T, nd1, tup1, pl1, ld1, by rw [l1]; exact small, by rw [em]; exact R.kind⟩ (fun z => absurd z hm) fun _ => pm)
end
end WG
set_option Elab.async false
set_option linter.all false
set_option maxRecDepth 100000
set_option maxHeartbeats 3200000
namespace WG
open PySem PySem.Spec PyProof.Rows L2
/-- no more than 300 keys among these -/
def Few (ks : List (Addr × List Int)) : Prop := ∀ l : List (List Int), l.Nodup → (∀ k ∈ l, k ∈ ks.map (·.2)) → l.length ≤ 300
section
variable {P : Program} {w : World} {A : Around} {E : Value → Shared → Prop} {s : Shared}
variable {a : Addr} {L : List (Addr × List Int)} {es : Array (Int × Value)} {ep : Nat} {t : SetTable}
theorem St.on {h h' : Heap} (R : St P w h a L es ep t) (ha : ∀ o, h.get? a = some o → h'.get? a = some o) (ht : ∀ p ∈ L, IsT P w h' p.2 p.1) : St P w h' a L es ep t := by
  obtain ⟨o, ho, r⟩ := R.ob
  exact { R with ob := ⟨o, ha o ho, r⟩, tup := ht }
abbrev newSetO (w : World) : Obj := { cls := .type "set", dict := none, data := .set #[] 0 (.fresh 0 0 (!w.params.followText "set-order")) }
theorem St.none {h : Heap} (ho : h.get? a = some (newSetO w)) : St P w h a [] #[] 0 (.fresh 0 0 (!w.params.followText "set-order")) :=
  ⟨⟨_, ho, ⟨rfl, rfl, rfl⟩, rfl⟩, rfl, ⟨mk7, List.Pairwise.nil, rfl, rfl, fun i h j z => (by simp at z)⟩, List.nodup_nil, nofun, rfl,
    by cases h : w.params.followText "set-order" <;> first | exact .inl rfl | exact .inr rfl, by show 0 * 5 < 7 * 3; decide, .inl rfl⟩
theorem Got.few {ks : List (Addr × List Int)} {i : Nat} (fk : Few ks) (g : Got ks i L) (nd : (L.map (·.2)).Nodup) : L.length ≤ 300 := by
  have q := fk (L.map (·.2)) nd fun k hk => by
    obtain ⟨p, hp, rfl⟩ := List.mem_map.mp hk
    exact List.mem_map.mpr ⟨p, List.mem_of_mem_take (g.sub p hp), rfl⟩
  rwa [List.length_map] at q
/-- the loop that puts what is walked into the set -/
theorem pour {I : Addr} {fp wr : List Addr} {G : Array GenState → Array GenState → Prop} {n : Nat} {Pv : Nat → Value → Prop} {Sn : Nat → Shared → Prop} {R : Result → Shared → Prop}
    (W : WalksS P w A.in1 I fp wr G n Pv Sn) (S : Addr) (hS : S ∉ fp) (ks : List (Addr × List Int)) (hn : n = ks.length) (fk : Few ks) (hv : ∀ i v, Pv i v → ∃ p, ks[i]? = some p ∧ v = .ref p.1)
    (h0 : Heap) (hk : ∀ p ∈ ks, IsT P w h0 p.2 p.1) (n0 : h0.get? S = none) (n1 : ∀ b ∈ wr, h0.get? b = none) (hu : A.in1.units < cLine) :
    ∀ (k i : Nat) (s : Shared), n - i = k → i ≤ n → Sn i s → (∀ b o, h0.get? b = some o → s.heap.get? b = some o) → (∃ L es ep t, St P w s.heap S L es ep t ∧ Got ks i L) →
      (∀ s' L es ep t, Moved (S :: wr) G s s' → St P w s'.heap S L es ep t → Got ks n L → (∀ b o, h0.get? b = some o → s'.heap.get? b = some o) → R (.ok (.ret .none)) s') →
      codeAny (model P w) A (.builtin "set.update.loop" ⟨[.ref S, .ref I], []⟩) R s
  | k, i, s, hki, hi, hst, old, ⟨L, es, ep, t, hR, g⟩, fin => by
    have sw : S ∉ wr := fun h => hS (W.sub _ h)
    have more : ∀ {s' : Shared}, Moved wr G s s' → ∀ b o, h0.get? b = some o → s'.heap.get? b = some o := fun hm b o e =>
      hm.heap b o (fun hb => nomatch (n1 b hb).symm.trans e) (old b o e)
    have goes : ∀ {s' : Shared}, Moved wr G s s' → Moved (S :: wr) G s s' := fun hm => hm.mono fun b hb => List.mem_cons_of_mem _ hb
    have sub : ∀ p ∈ L, p ∈ ks := fun p hp => List.mem_of_mem_take (g.sub p hp)
    have kept : ∀ {s' : Shared}, Moved wr G s s' → St P w s'.heap S L es ep t := fun hm => hR.on (fun o e => hm.heap S o sw e) fun p hp => isT_keep (hk p (sub p hp)) (more hm)
    refine codeAny_builtin F.entry_set_update_loop ?_
    rw [Around.under_plainId F.plain_set_update_loop _]
    match k with
    | 0 =>
      have e : i = n := by omega
      subst e
      show wpAny _ A.in1 (pyNext (.ref I) >>= _) _ _ s
      refine wpAny_bind (W.done s _ _ hst fun s' hm => ?_)
      show wpAny _ A.in1 (ret Value.none) _ _ s'
      exact wpAny_pure (fin s' L es ep t (goes hm) (kept hm) g (more hm))
    | k + 1 =>
      have lt : i < n := by omega
      show wpAny _ A.in1 (pyNext (.ref I) >>= _) _ _ s
      refine wpAny_bind (W.item i s _ _ lt hst fun v s' hP hst' hm => ?_)
      obtain ⟨p, hp, rfl⟩ := hv i v hP
      have hx : IsT P w s'.heap p.2 p.1 := isT_keep (hk p (List.mem_of_getElem? hp)) (more hm)
      show wpAny _ A.in1 (holding [Value.ref p.1] (setAdd S (.ref p.1)) >>= _) _ _ s'
      refine wpAny_bind (wpAny_holding ?_)
      unfold setAdd
      refine wpAny_holding ?_
      refine wpAny_bind (wpAny_pyHash_tuple hu hx ?_)
      refine (kept hm).add (s := { s' with toks := s'.toks + (p.2.length + 1) }) hx hu (Got.few fk g hR.nd) fun b h' L' es' ep' t' sb R2 c1 c2 => ?_
      have g' : Got ks (i + 1) L' := by
        by_cases c : p.2 ∈ L.map (·.2)
        · rw [c1 c]
          exact g.same hp c
        · exact g.more hp (c2 c)
      refine wpAny_pure ⟨plainId_quiet F.plain_set_update_loop _, pour W S hS ks hn fk hv h0 hk n0 n1 hu k (i + 1) _ (by omega) lt (W.frame _ s' _ _ hst' (Nat.le_add_right _ _) fun b hb o e => ?_)
        (fun b o e => (sb.2 b fun z => by rw [z, n0] at e; cases e).trans (more hm b o e)) ⟨L', es', ep', t', R2, g'⟩ fun s'' L2 es2 ep2 t2 m2 R3 g2 old2 =>
        fin s'' L2 es2 ep2 t2 (Moved.trans W.gtrans ((goes hm).then_heap (Nat.le_add_right _ _) fun b o hb e => (sb.2 b fun z => hb (by rw [z]; exact .head _)).trans e) m2) R3 g2 old2⟩
      rw [sb.2 b fun z => hS (by rw [← z]; exact hb)]
      exact e
end
end WG
set_option Elab.async false
set_option linter.all false
set_option maxRecDepth 100000
set_option maxHeartbeats 3200000
namespace WG
open PySem PySem.Spec PyProof.Rows L2
section
variable {P : Program} {w : World} {A : Around} {E : Value → Shared → Prop} {s : Shared}
theorem heap_free (h : Heap) {b : Addr} (hb : h.objs.size ≤ b) : h.get? b = none := by
  cases q : h.get? b with
  | none => rfl
  | some o => exact absurd (Heap.lt_size q) (Nat.not_lt.mpr hb)
theorem set_made {l : Addr} {items : Array Value} (ks : List (Addr × List Int)) {Q : Value → Shared → Prop} (hh : A.handled = none) (hl : s.heap.IsList l items) (hit : items.toList = ks.map fun p => Value.ref p.1)
    (hk : ∀ p ∈ ks, IsT P w s.heap p.2 p.1) (fk : Few ks) (hu : A.units + 3 < cLine)
    (h : ∀ (h' : Heap) (tk : Nat) L es ep t, St P w h' s.heap.objs.size L es ep t → Got ks ks.length L → (∀ b o, s.heap.get? b = some o → h'.get? b = some o) → Q (.ref s.heap.objs.size) { s with heap := h', toks := tk }) :
    wpAny (model P w) A (call (.type "set") [.ref l]) Q E s := by
  have len : items.size = ks.length := by
    rw [← Array.length_toList, hit, List.length_map]
  obtain ⟨c, tl, hmro⟩ := F.called_set.mro
  have hmade := F.called_set.made
  have hsub := F.called_set.sub
  refine wpAny_call (codeAny_of_tree ?_)
  show wpAny _ _ (callAny (.type "set") _) _ _ _
  refine wpAny_pure ⟨Code.quiet_builtin _ (by decide +kernel), codeAny_builtin F.entry_type_call ?_⟩
  rw [Around.under_plain (weight_type_call_type "set" [.ref l] []) rfl]
  have h1 := F.called_set.notType
  have h2 := F.called_set.canCreate
  have hct := F.typeCall_set_1 (.ref l)
  repeat (any_goals (first | assumption | wp_step))
  refine codeAny_mono (code_set_led1 (.ref l) (E := E) (Q₁ := fun obj s₁ => obj = .ref s.heap.objs.size ∧ s₁ = { s with heap := s.heap.push (newSetO w) }) ⟨rfl, rfl⟩) fun r s₁ hr => ?_
  match r, hr with
  | .error e, hr => exact hr
  | .ok (.ret obj), hr =>
    obtain ⟨rfl, rfl⟩ := hr
    have hS : (s.heap.push (newSetO w)).get? s.heap.objs.size = some (newSetO w) := Heap.get?_push_size _ rfl
    have hT : Shared.TypeIs { s with heap := s.heap.push (newSetO w) } (.ref s.heap.objs.size) "set" := ⟨_, hS, rfl⟩
    have hli := F.called_set.init.lookup
    have hbi := F.called_set.init.bind (.ref s.heap.objs.size)
    repeat (any_goals (first | assumption | wp_step))
    refine codeAny_mono (codeAny_call_builtin (R := wants (fun r s₂ => r = .none ∧ ∃ h' tk L es ep t, s₂ = { s with heap := h', toks := tk } ∧ St P w h' s.heap.objs.size L es ep t ∧ Got ks ks.length L ∧
      ∀ b o, s.heap.get? b = some o → h'.get? b = some o) E) F.called_set.init.plain F.entry_set_init (check_set_init_1 hT ?_)) fun r₂ s₂ hr₂ => ?_
    · obtain ⟨⟨ocls, odict, odata, oslots⟩, hol, hcl, nl, hdl⟩ := hl
      simp only at hcl hdl
      subst hcl hdl
      have hol' : (s.heap.push (newSetO w)).get? l = some { cls := .type "list", dict := odict, data := .seq items nl, slots := oslots } := Heap.get?_push_of_some _ hol
      have hsls := F.sub_list_set
      have hslf := F.sub_list_frozenset
      have hne : (Value.type "list" == Value.type "dict") = false := by decide
      have hl1 : (s.heap.push (newSetO w)).IsList l items := ⟨_, hol', rfl, nl, rfl⟩
      unfold Builtin.«set.__init__» noKeywords Builtin.Frozenset.updateFrom
      generalize hPI : pyIter = PI
      wp_walk
      subst hPI
      refine wpAny_pyIter_list hl1 ?_
      refine wpAny_bind (wpAny_runValue ?_)
      have lS : l < s.heap.objs.size := Heap.lt_size hol
      have z1 : (s.heap.push (newSetO w)).objs.size = s.heap.objs.size + 1 := Heap.size_push ..
      have val : ∀ (i : Nat) (v : Value), items[i]? = some v → ∃ p, ks[i]? = some p ∧ v = .ref p.1 := fun i v hv => by
        rw [← Array.getElem?_toList, hit, List.getElem?_map] at hv
        obtain ⟨p, hp, e⟩ := Option.map_eq_some_iff.mp hv
        exact ⟨p, hp, e.symm⟩
      refine pour ((Walks.list (by simp [hh] : A.in1.in1.in1.handled = none) _ l (by rw [z1]; exact Nat.ne_of_lt (Nat.lt_succ_of_lt lS)) items).toS) s.heap.objs.size (by rw [z1]; simp only [List.mem_cons, List.not_mem_nil, or_false, not_or]; exact ⟨Nat.ne_of_lt (Nat.lt_succ_self _), Nat.ne_of_gt lS⟩) ks len fk val s.heap hk (heap_free _ (Nat.le_refl _))
        (fun b hb => heap_free _ (by rw [List.mem_singleton.mp hb, z1]; exact Nat.le_succ _)) hu (items.size - 0) 0 _ rfl (Nat.zero_le _)
        ⟨⟨_, Heap.get?_push_size _ rfl, rfl, rfl⟩, hl1.push _⟩ (fun b o e => Heap.get?_push_of_some _ (Heap.get?_push_of_some _ e)) ⟨[], #[], 0, _, St.none (Heap.get?_push_of_some _ hS), Got.zero ks⟩ ?_
      rintro ⟨h', g2, d', tk', os'⟩ L es ep t hm hS' g' old
      have eg : g2 = s.gens := hm.gens
      have ed : d' = s.drawn := hm.drawn
      have eo : os' = s.os := hm.os
      subst eg ed eo
      show wpAny _ _ _ _ _ _
      refine wpAny_pure ?_
      show wpAny _ _ (ret Value.none) _ _ _
      rw [len] at g'
      exact wpAny_pure ⟨rfl, h', tk', L, es, ep, t, rfl, hS', g', old⟩
    · match r₂, hr₂ with
      | .error e, hr₂ => exact hr₂
      | .ok (.ret r), hr₂ =>
        obtain ⟨rfl, h', tk, L, es, ep, t, rfl, hS', g', old⟩ := hr₂
        repeat (any_goals (first | assumption | wp_step))
        exact h _ _ _ _ _ _ hS' g' old
end
end WG
set_option Elab.async false
set_option linter.all false
set_option maxRecDepth 100000
set_option maxHeartbeats 3200000
namespace WG
open PySem PySem.Spec PyProof.Rows L2
theorem unmap {α β : Type} {f : α → β} {l m : List β} (h : l.Perm m) : ∀ {xs : List α}, m = xs.map f → ∃ ys : List α, l = ys.map f ∧ ys.Perm xs := by
  induction h with
  | nil =>
    intro xs e
    cases xs with
    | nil => exact ⟨[], rfl, .nil⟩
    | cons x xs => cases e
  | cons x h ih =>
    intro xs e
    cases xs with
    | nil => cases e
    | cons y ys =>
      injection e with e1 e2
      obtain ⟨zs, r, p⟩ := ih e2
      exact ⟨y :: zs, by rw [r, e1]; rfl, p.cons y⟩
  | swap x y l =>
    intro xs e
    match xs, e with
    | [], e => cases e
    | [_], e => cases e
    | u :: v :: ws, e =>
      injection e with e1 e2
      injection e2 with e2 e3
      exact ⟨v :: u :: ws, by rw [e1, e2, e3]; rfl, .swap u v ws⟩
  | trans h1 h2 i1 i2 =>
    intro xs e
    obtain ⟨ys, r, p⟩ := i2 e
    obtain ⟨zs, r', p'⟩ := i1 r
    exact ⟨zs, r', p'.trans p⟩
section
variable {P : Program} {w : World} {A : Around} {E : Value → Shared → Prop} {s : Shared}
theorem isPair_of {h : Heap} {k : List Int} {b : Addr} (x : IsT P w h k b) (l2 : k.length = 2) : ∃ i j, Srt.IsPair h (.ref b) i j := by
  obtain ⟨o, items, n, ho, hc, hd, hi⟩ := x
  match k, l2, ints_of_items hi with
  | [i, j], _, q =>
    generalize hz : items.toList = z at q
    cases q with
    | cons _ t q =>
      cases q with
      | cons _ u q =>
        cases q
        exact ⟨i, j, b, o, t, u, n, rfl, ho, hc, by rw [hd, show items = #[.int i t, .int j u] from Array.toList_inj.mp hz]⟩
theorem sortS {a : Addr} {L : List (Addr × List Int)} {es : Array (Int × Value)} {ep : Nat} {t : SetTable} {Q : Value → Shared → Prop} (R : St P w s.heap a L es ep t) (hh : A.handled = none)
    (l2 : ∀ p ∈ L, p.2.length = 2)
    (hQ : ∀ s' p (out : Array Value) (c : Nat) (L' : List (Addr × List Int)), (∀ b o, s.heap.get? b = some o → s'.heap.get? b = some o) → s'.gens = s.gens → s'.os = s.os → s.heap.objs.size ≤ p →
      s'.heap.get? p = some (seqObj "list" out c) → out.toList = L'.map (fun q => Value.ref q.1) → L'.Perm L → Q (.ref p) s') :
    wpAny (model P w) A (call (.builtin "sorted") [.ref a]) Q E s := by
  obtain ⟨o, ho, hex, hd⟩ := R.ob
  have sz := rows_len R.rows
  have rm := R.room
  have lm := R.tab.mok.le
  refine Calls.call_function_entry kind_sorted plain_sorted entry_sorted (args_sorted1 _) ?_
  unfold Builtin.«sorted»
  refine wpAny_bind (m := checkCount "sorted" 1 1 _) (wpAny_pure ?_)
  refine wpAny_bind (collect_set (A := A.in1) hh ⟨o, ho, hex.1, hd⟩ R.fits (by unfold scanBound; omega) R.tab.ris R.led fun s1 vs k1 hz g1 o1 pm => ?_)
  have er : es.toList.map (·.2) = L.map fun q => Value.ref q.1 := by
    rw [R.rows]
    unfold rowsOf
    rw [List.map_map]
    rfl
  obtain ⟨L1, rfl, p1⟩ := unmap pm er
  have l1 : (L1.map fun q : Addr × List Int => Value.ref q.1).length = L.length := by rw [List.length_map, p1.length_eq]
  have small : (L1.map fun q : Addr × List Int => Value.ref q.1).length ≤ sizeLine := by rw [l1, sizeLine_eq]; omega
  refine wpAny_bind (wpAny_newList ?_ small)
  generalize hv : (L1.map fun q : Addr × List Int => Value.ref q.1) = vs at small l1
  have hoL : (s1.heap.push (seqObj "list" vs.toArray 0)).get? s1.heap.objs.size = some (seqObj "list" vs.toArray 0) := Heap.get?_push_size _ rfl
  have two : ∀ v ∈ vs, ∃ x y, Srt.IsPair (s1.heap.push (seqObj "list" vs.toArray 0)) v x y := fun v m => by
    rw [← hv] at m
    obtain ⟨q, hq, rfl⟩ := List.mem_map.mp m
    exact isPair_of (P := P) (w := w) (isT_keep (R.tup q (p1.mem_iff.mp hq)) fun b u e => Heap.get?_push_of_some _ (k1 b u e)) (l2 q (p1.mem_iff.mp hq))
  refine wpAny_bind (wpAny_holding (wpAny_call_entry slot_list_sort ⟨_, hoL, rfl⟩ entry_list_sort (Srt.list_sort_any (s := { s1 with heap := s1.heap.push (seqObj "list" vs.toArray 0) }) hoL small (fun h2 => Srt.pairs_sortable (by omega) two fun o e => ?_) fun out hp => ⟨_, rfl, ?_⟩) (args_list_sort _)))
  · have e' : some o = some (seqObj "list" vs.toArray 0) := e.symm.trans hoL
    cases e'
    exact fun c => absurd (Value.type.inj c) (by decide)
  · obtain ⟨c, hc⟩ := sortedHeap_at (vs := vs) (out := out.toArray) hoL
    obtain ⟨L', e', p'⟩ := unmap hp hv.symm
    refine wpAny_pure ⟨_, rfl, hQ _ s1.heap.objs.size out.toArray c L' (fun b u e => ?_) g1 o1 hz hc e' (p'.trans p1)⟩
    have q := k1 b u e
    have lt := Heap.lt_size q
    show (sortedHeap (s1.heap.push (seqObj "list" vs.toArray 0)) s1.heap.objs.size vs out.toArray).get? b = some u
    rw [sortedHeap_old (Nat.ne_of_lt lt) (by rw [size_push']; exact Nat.lt_succ_of_lt lt)]
    exact Heap.get?_push_of_some _ q
end
/-! ### the rules -/
structure StH (P : Program) (w : World) (h : Heap) (a : Addr) (L : List (Addr × List Int)) : Prop where
  ex : ∃ (es : Array (Int × Value)) (ep : Nat) (t : SetTable), (∃ o, h.get? a = some o ∧ o.ExactSet ∧ o.data = .set es ep t) ∧ es.toList = rowsOf P w L ∧ Tb t (L.map fun p => thash P w p.2) ∧ (L.map (·.2)).Nodup ∧ t.plain = true ∧
    (w.params.followText "set-order" = true ∨ t.led = true) ∧ L.length * 5 < t.mask * 3 ∧ (t.mask = 7 ∨ t.mask = 31 ∨ t.mask = 127 ∨ t.mask = 511)
def StO (P : Program) (w : World) (a : Addr) (L : List (Addr × List Int)) : HO := .ext fun h => StH P w h a L
theorem StH.full {P : Program} {w : World} {h : Heap} {a : Addr} {L : List (Addr × List Int)} (R : StH P w h a L) (ht : ∀ p ∈ L, IsT P w h p.2 p.1) : ∃ es ep t, St P w h a L es ep t := by
  obtain ⟨es, ep, t, h1, h2, h3, h4, h5, h6, h7, h8⟩ := R.ex
  exact ⟨es, ep, t, ⟨h1, h2, h3, h4, ht, h5, h6, h7, h8⟩⟩
theorem stO_new {P : Program} {w : World} {H : Hp} {h : Heap} {a : Addr} {L : List (Addr × List Int)} (R : StH P w h a L) : ObjOk P w H h a (StO P w a L) := by
  have ⟨es, ep, t, ⟨o, ho, r⟩, q⟩ := R.ex
  refine ⟨R, ⟨o, ho⟩, fun h1 h2 p k => ?_⟩
  have ⟨es', ep', t', ⟨o', ho', r'⟩, q'⟩ := StH.ex p
  exact ⟨es', ep', t', ⟨o', k o' ho', r'⟩, q'⟩
section
variable {X : Cx}
/-- set(xs), xs a list of tuples of ints among which there are at most 300 -/
def rSetS (K : PySem.W.Frag) (P : Program) (w : World) : List V → Hp → VK → Prop := fun xs H Q => ∃ (l : Addr) (ks : List (Addr × List Int)), xs = [V.ref l] ∧ SqL K H l (ks.map fun p => V.ref p.1) ∧ (∀ p ∈ ks, SqT K H p.1 (p.2.map V.int)) ∧ Few ks ∧
  ∀ a L, H a = none → (∀ p ∈ L, p ∈ ks) → (∀ p ∈ ks, p.2 ∈ L.map (·.2)) → Q (.ref a) (upd H a (StO P w a L))
theorem cr_setS (hc : X.calm = true) (hu : X.A.units + 64 < cLine) : CallR X (.type "set") (rSetS X.K X.prog X.w) := by
  rintro pins s σ H xs us Q I r ⟨l, ks, rfl, hl, hk, fk, q⟩
  rw [Vals.ref1 r]
  obtain ⟨its, rv, pl, hz⟩ := I.list hl
  refine set_made (P := X.prog) (w := X.w) ks (I.ok.hd hc) pl.isList (by simpa using refs_of_vals rv) (fun p hp => I.isT (hk p hp)) fk (by omega) fun h' tk L es ep t R g k => ?_
  exact ⟨.ref s.heap.objs.size, upd H s.heap.objs.size (StO X.prog X.w s.heap.objs.size L), I.laid (t' := tk) k (Nat.le_refl _) (stO_new ⟨es, ep, t, R.ob, R.rows, R.tab, R.nd, R.plain, R.led, R.room, R.kind⟩), rfl,
    q _ L (I.hok.fresh (Nat.le_refl _)) (fun p hp => List.mem_of_mem_take (g.sub p hp)) fun p hp => g.all p (by rw [List.take_length]; exact hp)⟩
/-- sorted(such a set), of pairs -/
def rSortS (K : PySem.W.Frag) (P : Program) (w : World) : List V → Hp → VK → Prop := fun vs H Q => ∃ (a : Addr) (L : List (Addr × List Int)), vs = [V.ref a] ∧ H a = some (StO P w a L) ∧ (∀ p ∈ L, SqT K H p.1 (p.2.map V.int)) ∧ (∀ p ∈ L, p.2.length = 2) ∧
  ∀ (L' : List (Addr × List Int)) (p : Addr), L'.Perm L → L'.length ≤ 306 → H p = none → Q (.ref p) (upd H p (.lst (L'.map fun q => V.ref q.1)))
theorem cr_sortS (hc : X.calm = true) : CallR X (.builtin "sorted") (rSortS X.K X.prog X.w) := by
  rintro pins s σ H vs us Q I r ⟨a, L, rfl, ha, hk, l2, q⟩
  have R0 : StH X.prog X.w s.heap a L := (I.hok a _ ha).1
  obtain ⟨es, ep, t, R⟩ := R0.full fun p hp => I.isT (hk p hp)
  rw [Vals.ref1 r]
  refine sortS R (I.ok.hd hc) l2 fun s' p out c L' k g o hp hg hout pm => ?_
  have few : L'.length ≤ 306 := by
    have := R.room
    have := R.tab.mok.le
    rw [pm.length_eq]
    omega
  have hn : H p = none := I.hok.fresh hp
  have J : Inv X pins σ (upd H p (.lst (L'.map fun q => V.ref q.1))) { s with heap := s'.heap, gens := s'.gens, drawn := s'.drawn, toks := s'.toks } :=
    I.call (ch := []) (Un.laid k hp hn) (I.hok.laid k hp ⟨by rw [List.length_map, sizeLine_eq]; omega, out.toList, c, by rw [hout]; exact vals_of_refs L', hg⟩) (by rw [g]; exact I.bare) (fun _ z => nomatch z)
  have e : s' = { s with heap := s'.heap, gens := s'.gens, drawn := s'.drawn, toks := s'.toks } := by
    cases s'
    cases s
    cases o
    rfl
  rw [e]
  exact ⟨.ref p, _, J, rfl, q L' p pm few hn⟩
end
end WG
set_option Elab.async false
set_option linter.all false
set_option maxRecDepth 100000
set_option maxHeartbeats 3200000
namespace WG
open PySem PySem.Spec PyProof.Rows L2
section
variable {P : Program} {w : World} {A : Around} {E : Value → Shared → Prop} {s : Shared} {vs : List Value} {l I S : Addr}
/-- all that stood still stands -/
abbrev Grew (h h' : Heap) : Prop := ∀ b o, h.get? b = some o → h'.get? b = some o
/-- i is the first of the least -/
def Least (kf : Nat → Int) (n i : Nat) : Prop := ∀ j, j < n → kf i ≤ kf j ∧ (j < i → kf i < kf j)
/-- each is a list, so long -/
def Lens (h : Heap) (vs : List Value) (kf : Nat → Int) : Prop := ∀ i v, vs[i]? = some v → ∃ a its, v = .ref a ∧ h.IsList a its ∧ kf i = (its.size : Int) ∧ (its.size : Int) < 2 ^ 63
theorem isList_grew {h h' : Heap} {a : Addr} {its : Array Value} (g : Grew h h') (x : h.IsList a its) : h'.IsList a its := by
  obtain ⟨o, ho, r⟩ := x
  exact ⟨o, g _ _ ho, r⟩
theorem len_turn {h0 : Heap} {kf : Nat → Int} (L : Lens h0 vs kf) {i : Nat} {v : Value} (hv : vs[i]? = some v) (g : Grew h0 s.heap) {Q : Value → Shared → Prop} (h : ∀ t k, Q (.int (kf i) t) { s with toks := k }) :
    wpAny (model P w) A (call (.builtin "len") [v]) Q E s := by
  obtain ⟨a, its, rfl, hl, e, small⟩ := L i v hv
  refine Calls.call_len_list (isList_grew g hl) small ?_
  rw [← e]
  exact h _ _
theorem min_on (h0 : Heap) (kf : Nat → Int) (L : Lens h0 vs kf) (hh : A.handled = none) (hl : h0.IsList l vs.toArray) (zI : h0.get? I = none) (zS : h0.get? S = none) (ne : S ≠ I) {R : Result → Shared → Prop} {s0 : Shared}
    (fin : ∀ i v h' tk, vs[i]? = some v → Least kf vs.length i → Grew h0 h' → R (.ok (.ret v)) { s0 with heap := h', toks := tk }) :
    ∀ (r j i : Nat) (h : Heap) (tk : Nat) (vb : Value) (tb : Tok) (c : Nat), vs.length - (j + 1) = r → j + 1 ≤ vs.length → Grew h0 h → h.get? S = some (seqObj "list" #[vb, .int (kf i) tb] c) → h.IsListIter I l (j + 1) →
      vs[i]? = some vb → i ≤ j → Least kf (j + 1) i → codeAny (model P w) A (.builtin "min.loop" ⟨[.ref I, .builtin "len", .ref S], []⟩) R { s0 with heap := h, toks := tk } := by
  have hlI : l ≠ I := fun e => by
    obtain ⟨o, ho, _⟩ := hl
    rw [e, zI] at ho
    cases ho
  have W := Walks.list (prog := P) (w := w) (A := A.in1) hh I l hlI vs.toArray
  have hsz : vs.toArray.size = vs.length := List.size_toArray ..
  have on : ∀ {h h' : Heap}, (∀ b o, b ∉ [I] → h.get? b = some o → h'.get? b = some o) → Grew h0 h → Grew h0 h' := fun k g b o e => k b o (fun q => by
    rw [List.mem_singleton.mp q, zI] at e
    cases e) (g b o e)
  have onS : ∀ {h : Heap} {f : Obj → Obj}, Grew h0 h → Grew h0 (h.update S f) := fun g b o e => (Heap.get?_update_ne _ _ _ _ fun q => by
    rw [q, zS] at e
    cases e).trans (g b o e)
  intro r
  induction r with
  | zero =>
    intro j i h tk vb tb c hr hj g hS hit hvb hij best
    have hin : j + 1 = vs.length := by omega
    refine codeAny_builtin PySem.F.entry_min_loop ?_
    rw [Around.under_plainId PySem.F.plain_min_loop _]
    show wpAny _ A.in1 (seqItems? (.ref S) >>= _) _ _ _
    refine wpAny_bind (wpAny_seqItems hS rfl ?_)
    show wpAny _ A.in1 (tryCatch (pyNext (.ref I)) _ >>= _) _ _ _
    refine wpAny_bind (wpAny_tryCatch (W.done _ _ _ ⟨by rw [hsz, ← hin]; exact hit, isList_grew g hl⟩ fun h' tk' k => ?_))
    have hS' := k S _ (fun q => ne (List.mem_singleton.mp q)) hS
    show wpAny _ A.in1 (updateSeq S (fun _ => #[]) >>= _) _ _ _
    refine wpAny_bind ?_
    refine wpAny_updateSeq hS' rfl (wpAny_bind (wpAny_letGo (wpAny_pure ?_)))
    rw [hin] at best
    exact fin i vb _ _ hvb best (onS (on k g))
  | succ r ih =>
    intro j i h tk vb tb c hr hj g hS hit hvb hij best
    have hlt : j + 1 < vs.length := by omega
    refine codeAny_builtin PySem.F.entry_min_loop ?_
    rw [Around.under_plainId PySem.F.plain_min_loop _]
    show wpAny _ A.in1 (seqItems? (.ref S) >>= _) _ _ _
    refine wpAny_bind (wpAny_seqItems hS rfl ?_)
    show wpAny _ A.in1 (tryCatch (pyNext (.ref I)) _ >>= _) _ _ _
    refine wpAny_bind (wpAny_tryCatch (W.item (j + 1) _ _ _ (by rw [hsz]; exact hlt) ⟨hit, isList_grew g hl⟩ fun v h' tk' hP hst' k => ?_))
    have hv : vs[j + 1]? = some v := by simpa using hP
    have g' := on k g
    have hS' := k S _ (fun q => ne (List.mem_singleton.mp q)) hS
    show wpAny _ A.in1 (tryCatch (holding [v] (call (.builtin "len") [v])) _ >>= _) _ _ _
    refine wpAny_bind (wpAny_tryCatch (wpAny_holding (len_turn L hv g' fun t2 tk2 => ?_)))
    show wpAny _ A.in1 (tryCatch (holding [v, .int (kf (j + 1)) t2] (richCompare .Lt (.int (kf (j + 1)) t2) (.int (kf i) tb) >>= _)) _ >>= _) _ _ _
    refine wpAny_bind (wpAny_tryCatch (wpAny_holding (wpAny_bind (CmpOf.ints_lt (prog := P) (w := w) (A := A.in1) (P := fun i v => ∃ t, v = .int (kf i) t) kf (fun i v h => h) (j + 1) i _ _ _ _ _ ⟨t2, rfl⟩ ⟨tb, rfl⟩ ?_))))
    refine wpAny_bind (wpAny_holding (wpAny_truthy_bool ?_))
    refine wpAny_bind (wpAny_letGo (wpAny_pure ?_))
    by_cases less : kf (j + 1) < kf i
    · obtain ⟨c2, hc2⟩ : ∃ c2, (h'.update S (Obj.mapSeq fun _ => #[v, .int (kf (j + 1)) t2])).get? S = some (seqObj "list" #[v, .int (kf (j + 1)) t2] c2) := ⟨_, get?_update_seq hS' fun _ => #[v, .int (kf (j + 1)) t2]⟩
      simp only [less, decide_true, if_true]
      refine wpAny_bind ?_
      refine wpAny_updateSeq hS' rfl (wpAny_bind (wpAny_letGo ?_))
      obtain ⟨oI, hoI, rI⟩ := hst'.1
      refine wpAny_pure ⟨plainId_quiet PySem.F.plain_min_loop _, ih (j + 1) (j + 1) _ _ v t2 c2 (by omega) hlt (onS g') hc2 ⟨oI, (Heap.get?_update_ne _ _ _ _ ne.symm).trans hoI, rI⟩ hv (Nat.le_refl _) fun j' hj' => ?_⟩
      by_cases e : j' = j + 1
      · subst e
        exact ⟨Int.le_refl _, fun z => absurd z (Nat.lt_irrefl _)⟩
      · have := (best j' (by omega)).1
        exact ⟨by omega, fun _ => by omega⟩
    · simp only [less, decide_false, Bool.false_eq_true, if_false]
      refine wpAny_bind (wpAny_letGo ?_)
      refine wpAny_pure ⟨plainId_quiet PySem.F.plain_min_loop _, ih (j + 1) i _ _ vb tb c (by omega) hlt g' hS' hst'.1 hvb (by omega) fun j' hj' => ?_⟩
      by_cases e : j' = j + 1
      · subst e
        exact ⟨by omega, fun z => by omega⟩
      · exact best j' (by omega)
theorem min_len (kf : Nat → Int) (L : Lens s.heap vs kf) (hh : A.handled = none) (hl : s.heap.IsList l vs.toArray) (hne : 0 < vs.length) {Q : Value → Shared → Prop}
    (fin : ∀ i v h' tk, vs[i]? = some v → Least kf vs.length i → Grew s.heap h' → Q v { s with heap := h', toks := tk }) :
    wpAny (model P w) A (call (.builtin "min") [.ref l] [(Str.ofString "key", .builtin "len")]) Q E s := by
  have lt : l < s.heap.objs.size := by
    obtain ⟨o, ho, _⟩ := hl
    exact Heap.lt_size ho
  refine kmb_tree PySem.F.kind_min PySem.F.plain_min PySem.F.entry_min (kmb_min_key _ _) ?_
  show wpAny _ A.in1 (Builtin.Builtins.bindParams "min" ["key", "default"] 0 ⟨[], [(Str.ofString "key", .builtin "len")]⟩ >>= _) _ _ s
  refine wpAny_bind (wpAny_of_eq (show Builtin.Builtins.bindParams "min" ["key", "default"] 0 ⟨[], [(Str.ofString "key", .builtin "len")]⟩ = pure [some (.builtin "len"), none] from rfl) ?_)
  refine wpAny_bind (wpAny_pure ?_)
  refine wpAny_bind (wpAny_pyIter_list hl ?_)
  refine wpAny_bind (wpAny_newList ?_ (Nat.zero_le _))
  generalize hit : ({ cls := .type "list_iterator", data := .fields #[.ref l, .int 0 0] } : Obj) = it
  have z1 : (s.heap.push it).objs.size = s.heap.objs.size + 1 := size_push' ..
  have g0 : Grew s.heap ((s.heap.push it).push (seqObj "list" #[] 0)) := fun b x e => Heap.get?_push_of_some _ (Heap.get?_push_of_some _ e)
  have gI : ((s.heap.push it).push (seqObj "list" #[] 0)).get? s.heap.objs.size = some it := Heap.get?_push_of_some _ (Heap.get?_push_size _ (by rw [← hit]; rfl))
  have gS : ((s.heap.push it).push (seqObj "list" #[] 0)).get? (s.heap.push it).objs.size = some (seqObj "list" #[] 0) := Heap.get?_push_size _ rfl
  have zI : s.heap.get? s.heap.objs.size = none := heap_free _ (Nat.le_refl _)
  have zS : s.heap.get? (s.heap.push it).objs.size = none := heap_free _ (by rw [z1]; exact Nat.le_succ _)
  have ne : (s.heap.push it).objs.size ≠ s.heap.objs.size := by rw [z1]; exact Nat.succ_ne_self _
  generalize (s.heap.push it).objs.size = S at gS zS ne ⊢
  generalize (s.heap.push it).push (seqObj "list" #[] 0) = h1 at g0 gI gS ⊢
  have W := Walks.list (prog := P) (w := w) (A := A.in1) hh s.heap.objs.size l (Nat.ne_of_lt lt) vs.toArray
  have named : (toString "min" ++ toString ".loop" : String) = "min.loop" := by decide
  rw [named]
  refine wpAny_pure ⟨plainId_quiet PySem.F.plain_min_loop _, codeAny_builtin PySem.F.entry_min_loop ?_⟩
  rw [Around.under_plainId PySem.F.plain_min_loop _]
  show wpAny _ A.in1 (seqItems? (.ref S) >>= _) _ _ _
  refine wpAny_bind (wpAny_seqItems gS rfl ?_)
  show wpAny _ A.in1 (tryCatch (pyNext (.ref s.heap.objs.size)) _ >>= _) _ _ _
  refine wpAny_bind (wpAny_tryCatch (W.item 0 _ _ _ (by rw [List.size_toArray]; exact hne) ⟨⟨_, gI, by rw [← hit], by rw [← hit]; rfl⟩, isList_grew g0 hl⟩ fun v h' tk' hP hst' k => ?_))
  have hv : vs[0]? = some v := by simpa using hP
  have g1 : Grew s.heap h' := fun b o e => k b o (fun q => by
    rw [List.mem_singleton.mp q, zI] at e
    cases e) (g0 b o e)
  have hS1 := k S _ (fun q => ne (List.mem_singleton.mp q)) gS
  show wpAny _ A.in1 (tryCatch (holding [v] (call (.builtin "len") [v])) _ >>= _) _ _ _
  refine wpAny_bind (wpAny_tryCatch (wpAny_holding (len_turn L hv g1 fun t2 tk2 => ?_)))
  show wpAny _ A.in1 (updateSeq S (fun _ => #[v, .int (kf 0) t2]) >>= _) _ _ _
  obtain ⟨c2, hc2⟩ : ∃ c2, (h'.update S (Obj.mapSeq fun _ => #[v, .int (kf 0) t2])).get? S = some (seqObj "list" #[v, .int (kf 0) t2] c2) := ⟨_, get?_update_seq hS1 fun _ => #[v, .int (kf 0) t2]⟩
  refine wpAny_bind ?_
  refine wpAny_updateSeq hS1 rfl ?_
  obtain ⟨oI, hoI, rI⟩ := hst'.1
  refine wpAny_pure ⟨plainId_quiet PySem.F.plain_min_loop _, min_on s.heap kf L hh hl zI zS ne fin _ 0 0 _ _ v t2 c2 rfl hne (fun b o e => (Heap.get?_update_ne _ _ _ _ fun q => ?_).trans (g1 b o e)) hc2 ⟨oI, (Heap.get?_update_ne _ _ _ _ ne.symm).trans hoI, rI⟩ hv (Nat.le_refl _) fun j hj => ?_⟩
  · rw [q, zS] at e
    cases e
  · have : j = 0 := by omega
    subst this
    exact ⟨Int.le_refl _, fun z => absurd z (Nat.lt_irrefl _)⟩
end
section
variable {X : Cx} {a : Expr} {ta : TE} {p p2 kp pos : Pos}
/-- min(xs, key=len), xs a list of lists: the first of the shortest -/
def tMinLen (K : PySem.W.Frag) (ta : TE) : TE := fun σ H Q => ta σ H fun x H1 => ∃ (l : Addr) (as : List Addr) (ns : List Nat), x = V.ref l ∧ SqL K H1 l (as.map V.ref) ∧ as ≠ [] ∧ Paired (fun b n => ∃ ys, SqL K H1 b ys ∧ ys.length = n) as ns ∧
  ∀ (i : Nat) (b : Addr) (n : Nat), as[i]? = some b → ns[i]? = some n → (∀ j m, ns[j]? = some m → n ≤ m ∧ (j < i → n < m)) → Q (.ref b) H1
theorem refs_only : ∀ {as : List Addr} {us : List Value}, Vals (as.map V.ref) us → us = as.map Value.ref
  | [], _, .nil => rfl
  | _ :: _, _, .cons r t => by
    cases r
    rw [refs_only t]
    rfl
theorem pe_minLen (hc : X.calm = true) (hg : Gl X "min") (hm : X.mg "min" = none) (hg2 : Gl X "len") (hm2 : X.mg "len" = none) (ha : PE X a ta)
    (na : starEach [a] X.env = (false, eval a X.env) :: starEach [] X.env := by rfl) (nb : backTo pos (starEach [a] X.env) = (false, eval a X.env) :: backTo pos (starEach [] X.env) := by rfl) (nc : (backTo pos (starEach [a] X.env)).any (·.1) = false := by rfl) :
    PE X (.Call (.Name "min" p) [a] [⟨some "key", .Name "len" p2, kp⟩] pos) (tMinLen X.K ta) := by
  refine ⟨fun pins s σ H Q I h => ?_⟩
  refine wpAny_Call_Name_kw (ld_blt I hg hm PyProof.Rows.boot_min ?_)
  refine PyProof.Rows.callWith_kw (PyProof.Rows.args_cons (thn (ha.run pins s σ H _ I h) fun v s1 ⟨x, H1, I1, r1, q1⟩ => PyProof.Rows.args_nil ?_) na) nb nc
  obtain ⟨l, as, ns, rfl, hq, hne, hp, q⟩ := q1
  cases r1
  refine PyProof.Rows.kwAll_cons (ld_blt I1 hg2 hm2 PySem.boot_len (PyProof.Rows.kwAll_nil ?_))
  obtain ⟨its, rv, pl, hz⟩ := I1.list hq
  have ei := refs_only rv
  show wpAny _ _ (call (.builtin "min") [.ref l] [(Str.ofString "key", .builtin "len")]) _ _ _
  have lim : sizeLine < 2 ^ 63 := by rw [sizeLine_eq]; decide
  refine min_len (vs := its) (fun i => (ns.getD i 0 : Nat)) (fun i v hv => ?_) (I1.ok.hd hc) pl.isList ?_ fun i v h' tk hv best g => ?_
  · rw [ei, List.getElem?_map] at hv
    obtain ⟨b, hb, rfl⟩ := Option.map_eq_some_iff.mp hv
    obtain ⟨n, hn, ys, hy, ly⟩ := pget hp hb
    obtain ⟨ysv, ry, py, zy⟩ := I1.list hy
    have e : ns.getD i 0 = n := by rw [List.getD_eq_getElem?_getD, hn]; rfl
    refine ⟨b, _, rfl, py.isList, ?_, ?_⟩
    · dsimp only
      rw [e, List.size_toArray, ← ry.length, ly]
    · rw [List.size_toArray, ← ry.length]
      omega
  · rw [ei, List.length_map]
    exact List.length_pos_iff.mpr hne
  · rw [ei, List.getElem?_map] at hv
    obtain ⟨b, hb, rfl⟩ := Option.map_eq_some_iff.mp hv
    obtain ⟨n, hn, _⟩ := pget hp hb
    have val : ∀ {j m : Nat}, ns[j]? = some m → ns.getD j 0 = m := fun {j m} h => by
      rw [List.getD_eq_getElem?_getD, h]
      rfl
    refine ⟨.ref b, H1, I1.kept (t' := tk) g, rfl, q i b n hb hn fun j m hm => ?_⟩
    have lj : j < its.length := by
      rw [ei, List.length_map, hp.length]
      exact (List.getElem?_eq_some_iff.mp hm).1
    have q1 := best j lj
    dsimp only at q1
    rw [val hn, val hm] at q1
    exact ⟨by omega, fun z => by have := q1.2 z; omega⟩
end
end WG
set_option Elab.async false
set_option linter.all false
set_option maxRecDepth 100000
set_option maxHeartbeats 3200000
namespace WG
open PySem PySem.Spec PyProof.Rows L2
open LamX (TabB Tabs TabS ExtN CodeO lam_make2)
/-! ### a lambda with one parameter, called -/
/-- what is asked of its names -/
structure Lam1 (scope : Scope) (x : Str) : Prop where
  kind : scope.kind = .function
  co : scope.isCoroutine = false
  gen : scope.isGenerator = false
  cell : ∀ y ∈ scope.names, y.2 ≠ .cell
  loc : scope.names.lookup x = some .local
  free : ∀ y ∈ scope.names, y.2 ≠ .free
section
variable {prog : Program} {w : World} {A : Around} {E : Value → Shared → Prop} {s : Shared}
theorem lam_call {f c' : Addr} {q x : Str} {params : Arguments} {body : Expr} {scope : Scope} {pm ctv v : Value} {Q : Value → Shared → Prop} (L : Lam1 scope x)
    (of : s.heap.get? f = some (PySem.W.kla_obj "<lambda>" q params body scope [] pm c' ctv)) (hc : s.heap.CodeRec (.ref c') q) (hd : A.depth < recursionLimit) (lim : s.heap.NoLimit)
    (hbind : bindArgs (PySem.W.kla_fn "<lambda>" q params body scope [] pm (.ref c') ctv) ⟨[v], []⟩ = pure [(x, v)])
    (h : ∀ h₁ : Heap, h₁.Ns s.heap.objs.size (fun y => ([(x, v)] : List (Str × Value)).reverse.lookup y) → (∀ b o, s.heap.get? b = some o → h₁.get? b = some o) →
      wpAny (model prog w) (A.deeper (PySem.W.envX q scope s.heap.objs.size f (.ref c') [])) (eval body (PySem.W.envX q scope s.heap.objs.size f (.ref c') [])) Q (fun _ _ => False) { s with heap := h₁, toks := s.toks + 1 }) :
    wpAny (model prog w) A (call (.ref f) [v]) Q E s := by
  have rc : codeAny (model prog w) A (.call (.ref f) ⟨[v], []⟩) (fun r s' => ∃ u, r = .ok (.ret u) ∧ Q u s') s := by
    refine PySem.W.kla_callFunE hd of rfl L.co L.gen rfl hc ?_
    rw [hbind]
    refine wpAny_pure (wpAny_newFunctionEnv L.cell (fun y hy => ?_) (fun h₁ hns hsb => ⟨lim.fresh _ hsb, ?_⟩) L.kind)
    · rw [List.mem_singleton.mp hy]
      exact L.loc
    · show codeAny _ _ (.expr body (PySem.W.envX q scope s.heap.objs.size f (.ref c') [])) _ _
      have kp : ∀ b o, s.heap.get? b = some o → h₁.get? b = some o := fun b o e => hsb.extBut b o (Nat.ne_of_lt (Heap.lt_size e)) (Heap.get?_push_of_some _ e)
      exact PySem.W.kla_codeExpr (wpAny_mono (h h₁ hns kp) (fun v s' q => ⟨v, rfl, q⟩) fun _ _ z => z.elim)
  refine wpAny_call (codeAny_mono rc fun r s' hq => ?_)
  obtain ⟨u, rfl, q⟩ := hq
  exact q
/-- x[i], x a tuple in the lambda's frame -/
theorem lam_item {env : Env} {m : Str → Option Value} {x : Str} {a : Addr} {items : Array Value} {i : Int} {j : Nat} {y : Value} {k2 : Nat} {p1 p2 p3 : Pos} {Q : Value → Shared → Prop} (hk : env.scope.kind = .function) (hl : env.kindOf x = some .local) (hn : s.heap.Ns env.locals m) (hv : m x = some (.ref a)) (ht : IsTup s.heap a items)
    (h1 : -(2 ^ 63) ≤ i) (h2 : i < 2 ^ 63) (hj : seqIndex? i items.size = some j) (hy : items[j]? = some y) (hdb : (x == ("__debug__" : Str)) = false) (h : ∀ tk, Q y { s with toks := tk }) :
    wpAny (model prog w) A (eval (.Subscript (.Name x p1) (.Constant (.int i) k2 p2) p3) env) Q E s := by
  refine Subscript_ (wpAny_Name (wpAny_loadName_local hk hl hn hv (wpAny_Constant_int ?_)) hdb)
  have ht' : IsTup ({ s with toks := s.toks + 1 } : Shared).heap a items := ht
  exact tail_any (T := "tuple") ht'.typeIs PyProof.Rows.slot_tuple_getitem.lookup (getItem_tuple ht' h1 h2 hj hy (h _)) rfl
/-- x[:2], x a tuple of three in the lambda's frame -/
theorem lam_cut2 {env : Env} {m : Str → Option Value} {x : Str} {a : Addr} {v0 v1 v2 : Value} {k2 : Nat} {p1 p2 p3 p4 : Pos} {Q : Value → Shared → Prop} (hk : env.scope.kind = .function) (hl : env.kindOf x = some .local) (hn : s.heap.Ns env.locals m) (hv : m x = some (.ref a)) (ht : IsTup s.heap a #[v0, v1, v2])
    (hdb : (x == ("__debug__" : Str)) = false) (h : ∀ t h' tk, (∀ b o, s.heap.get? b = some o → h'.get? b = some o) → IsTup h' t #[v0, v1] → Q (.ref t) { s with heap := h', toks := tk }) :
    wpAny (model prog w) A (eval (.Subscript (.Name x p1) (.Slice none (some (.Constant (.int 2) k2 p2)) none p4) p3) env) Q E s := by
  refine Subscript_ (wpAny_Name (wpAny_loadName_local hk hl hn hv ?_) hdb)
  refine wpAny_Slice ?_
  rw [evalPart_none]
  refine wpAny_pure ?_
  rw [evalPart_some]
  refine wpAny_Constant_int ?_
  refine wpAny_pure ?_
  have ht' : IsTup (s.heap.push { cls := .type "slice", data := .fields #[.none, .int 2 s.toks, .none] }) a #[v0, v1, v2] := by
    obtain ⟨o, e, c⟩ := ht
    exact ⟨o, Heap.get?_push_of_some _ e, c⟩
  refine tail_any (T := "tuple") (ops := [.ref s.heap.objs.size, .ref a]) (show Shared.TypeIs ({ s with heap := s.heap.push { cls := .type "slice", data := .fields #[.none, .int 2 s.toks, .none] }, toks := s.toks + 1 } : Shared) (.ref a) "tuple" from ht'.typeIs) PyProof.Rows.slot_tuple_getitem.lookup ?_ (by with_unfolding_all rfl)
  refine HT.getItem_tuple_cut (lo := none) (hi := some 2) ht' (Heap.IsSliceOf.new ..) .none (.int 2 _) (fun z => ?_) ?_ (by show 3 ≤ sizeLine; decide)
  · have z2 := z.2
    have e : HT.sIx (#[v0, v1, v2] : Array Value).size (#[v0, v1, v2] : Array Value).size (some 2) = 2 := rfl
    rw [e] at z2
    have z3 : (2 : Nat) = 3 := z2
    omega
  · exact h _ _ _ (fun b o e => Heap.get?_push_of_some _ (Heap.get?_push_of_some _ e)) (IsTup.new _ _)
end
/-! ### sorted(xs, key=lambda d: d[1], reverse=True) -/
theorem sqL_ext {K : PySem.W.Frag} {H H' : Hp} {a : Addr} {xs : List V} (e : ExtN H H') (h : SqL K H a xs) : SqL K H' a xs := by
  rcases h with (h | ⟨o, h⟩) | h
  · exact .inl (.inl (e _ _ h fun _ z => by cases z))
  · exact .inl (.inr ⟨o, e _ _ h fun _ z => by cases z⟩)
  · exact .inr h
section
variable {X : Cx} {a : Expr} {ta : TE} {p p2 kp kp2 pos lpos q1 q2 q3 q4 : Pos} {x : Str} {params : Arguments} {scope : Scope} {k2 k3 : Nat} {T : List (Addr × Str)}
def byKey (l : List (Addr × Nat)) : List (Addr × Nat) := l.mergeSort (PySem.W.dataLe true fun t => PyData.int (t.2 : Nat))
def tSortLam (K : PySem.W.Frag) (T : List (Addr × Str)) (ta : TE) : TE := fun σ H Q => ta σ H fun v H1 => Tabs T H1 ∧ ∃ (l : Addr) (ts : List (Addr × Nat)), v = V.ref l ∧ SqL K H1 l (ts.map fun t => V.ref t.1) ∧ (∀ t ∈ ts, ∃ b, H1 t.1 = some (.tup [.ref b, .int (t.2 : Nat)])) ∧
  ∀ H2 r, ExtN H1 H2 → Tabs T H2 → H2 r = none → Q (.ref r) (upd H2 r (.lst ((byKey ts).map fun t => V.ref t.1)))
theorem eachRefs : ∀ ts : List (Addr × Nat), PySem.W.EachIs (fun (v : Value) (t : Addr × Nat) => v = .ref t.1) (ts.map fun t => Value.ref t.1) ts
  | [] => .nil
  | t :: r => .cons rfl (eachRefs r)
theorem refs_of : ∀ {out : List Value} {ts : List (Addr × Nat)}, PySem.W.EachIs (fun (v : Value) (t : Addr × Nat) => v = .ref t.1) out ts → out = ts.map fun t => Value.ref t.1
  | _, _, .nil => rfl
  | _, _, .cons r t => by rw [r, refs_of t]; rfl
theorem vals_refs : ∀ ts : List (Addr × Nat), Vals (ts.map fun t => V.ref t.1) (ts.map fun t => Value.ref t.1)
  | [] => .nil
  | _ :: r => .cons rfl (vals_refs r)
theorem pe_sortLam {c P : Addr} {j : Nat} (L : Lam1 scope x) (hbind : ∀ (q : Str) (pm cv ctv v : Value), bindArgs (PySem.W.kla_fn "<lambda>" q params (.Subscript (.Name x q1) (.Constant (.int 1) k2 q2) q3) scope [] pm cv ctv) ⟨[v], []⟩ = pure [(x, v)])
    (hc : X.calm = true) (hr : Room j X.A) (hg : Gl X "sorted") (hm : X.mg "sorted" = none) (ha : PE X a ta)
    (TB : TabB X.base X.mg c P) (hcode : X.env.code = .ref c) (hmT : (P, X.env.qual ++ "<lambda>") ∈ T) (hu : ∀ p ∈ T, p.1 = P → p.2 = X.env.qual ++ "<lambda>") (hdef : defaultsOf params X.env = ([], []) := by rfl) (hcl : cloFrom X.env.cells scope.names [] = [] := by rfl) (hdb : (x == ("__debug__" : Str)) = false := by decide)
    (na : starEach [a] X.env = (false, eval a X.env) :: starEach [] X.env := by rfl) (nb : backTo pos (starEach [a] X.env) = (false, eval a X.env) :: backTo pos (starEach [] X.env) := by rfl) (nc : (backTo pos (starEach [a] X.env)).any (·.1) = false := by rfl) :
    PE X (.Call (.Name "sorted" p) [a] [⟨some "key", .Lambda params (.Subscript (.Name x q1) (.Constant (.int 1) k2 q2) q3) scope lpos, kp⟩, ⟨some "reverse", .Constant (.bool true) k3 q4, kp2⟩] pos) (tSortLam X.K T ta) := by
  refine ⟨fun pins s σ H Q I h => ?_⟩
  refine wpAny_Call_Name_kw (ld_blt I hg hm PyProof.Rows.boot_sorted ?_)
  refine PyProof.Rows.callWith_kw (PyProof.Rows.args_cons (thn (ha.run pins s σ H _ I h) fun v s1 ⟨y, H1, I1, r1, q1⟩ => PyProof.Rows.args_nil ?_) na) nb nc
  obtain ⟨hT, l, ts, rfl, hq, htup, q⟩ := q1
  cases r1
  refine PyProof.Rows.kwAll_cons (lam_make2 I1 TB hcode hmT hu hT hdef (fun y hy e => absurd e (L.free y hy)) fun f c' pm ctv H2 s2 I2 eN T2 hf hfn hfr hco => PyProof.Rows.kwAll_cons (wpAny_Constant_bool (PyProof.Rows.kwAll_nil ?_)))
  rw [hcl] at hf
  show wpAny _ _ (call (.builtin "sorted") [.ref l] [(Str.ofString "key", .ref f), (Str.ofString "reverse", .bool true)]) _ _ _
  have hq2 := sqL_ext eN hq
  obtain ⟨its, rv, pl, hz⟩ := I2.list hq2
  have ei : its = ts.map fun t => Value.ref t.1 := by
    have e : (ts.map fun t => V.ref t.1) = (ts.map (·.1)).map V.ref := by rw [List.map_map]; rfl
    rw [e] at rv
    have := refs_only rv
    rw [this, List.map_map]
    rfl
  subst ei
  obtain ⟨⟨oc, vs, t, hoc, hdc, hvc⟩, _, _⟩ := I2.hok c' _ hco
  refine PySem.W.sorted_key_data (β := Addr × Nat) (k := fun t => PyData.int (t.2 : Nat)) (b := true) pl.isList (eachRefs ts) (fun d hd d' hd' => ?_) (.inr fun d hd => ?_) ?_ (fun t ht => ?_) (PyProof.Rows.ksk_s2 _ _ _) (fun _ => PyProof.Rows.ksk_l2 _ _ _) (fun u => PyProof.Rows.ksk_t2 f u true) (fun v t hv ht hp tk kp => ?_) fun out cc h' tk kp fresh hD hlen each => ?_
  · obtain ⟨t, _, rfl⟩ := List.mem_map.mp hd
    obtain ⟨u, _, rfl⟩ := List.mem_map.mp hd'
    simp [PySem.W.alike]
  · obtain ⟨t, _, rfl⟩ := List.mem_map.mp hd
    exact ⟨by simp, fun xs => by simp⟩
  · rw [← List.length_map (as := ts) (f := fun t => V.ref t.1)]
    exact hz
  · have := hr.un
    simp only [PyData.depth]
    omega
  · subst hv
    obtain ⟨b, hb⟩ := htup t ht
    obtain ⟨_, us, rus, o, e1, e2, n, e3⟩ := (show ObjOk X.prog X.w H2 s2.heap t.1 (.tup [.ref b, .int (t.2 : Nat)]) from I2.hok t.1 _ (eN _ _ hb fun _ z => by cases z))
    obtain ⟨u0, us1, rfl, r0, rus⟩ : ∃ u0 us1, us = u0 :: us1 ∧ RelV (.ref b) u0 ∧ Vals [.int (t.2 : Nat)] us1 := by
      cases rus with
      | cons a b => exact ⟨_, _, rfl, a, b⟩
    obtain ⟨u1, us2, rfl, r1, rus⟩ : ∃ u1 us2, us1 = u1 :: us2 ∧ RelV (.int (t.2 : Nat)) u1 ∧ Vals [] us2 := by
      cases rus with
      | cons a b => exact ⟨_, _, rfl, a, b⟩
    cases rus
    obtain ⟨tk1, rfl⟩ := r1
    have dep : X.A.in1.in1.depth < recursionLimit := by
      have := hr.dp
      show X.A.depth < recursionLimit
      omega
    refine lam_call (s := { s2 with heap := hp, toks := tk }) L (kp _ _ hf) ⟨c', oc, vs, _, rfl, kp _ _ hoc, hdc, hvc⟩ dep (I2.nolimit.keeps kp) (hbind _ _ _ _ _) fun h₁ hns kp1 => ?_
    refine lam_item (i := 1) (j := 1) (items := #[u0, .int (t.2 : Nat) tk1]) (y := .int (t.2 : Nat) tk1) L.kind ?_ hns ?_ ⟨o, kp1 _ _ (kp _ _ e1), e2, n, e3⟩ (by decide) (by decide) rfl rfl hdb fun tk3 => ?_
    · exact L.loc
    · show List.lookup x [(x, Value.ref t.1)] = _
      rw [List.lookup_cons, beq_self_eq_true]
    · exact ⟨h₁, tk3, rfl, kp1, .int _ _⟩
  · have e1 := refs_of each
    have e2 : out.toArray = ((byKey ts).map fun t => Value.ref t.1).toArray := by rw [e1]; rfl
    have hl2 : ((byKey ts).map fun t => V.ref t.1).length ≤ sizeLine := by
      rw [List.length_map]
      unfold byKey
      rw [List.length_mergeSort]
      rw [← List.length_map (as := ts) (f := fun t => V.ref t.1)]
      exact hz
    rw [e2] at hD
    exact ⟨.ref _, _, I2.laid (t' := tk) (o := .lst ((byKey ts).map fun t => V.ref t.1)) kp (Nat.le_succ _) ⟨hl2, _, cc, vals_refs _, hD⟩, rfl, q H2 _ eN T2 (I2.hok.fresh (Nat.le_succ _))⟩
end
end WG
set_option Elab.async false
set_option linter.all false
set_option maxRecDepth 100000
set_option maxHeartbeats 2000000
namespace WG
open PySem PySem.Spec PyProof.Rows L2
/-! ### find_left_out -/
def touchP (l : List ((Nat × Nat) × (Nat × Nat))) (cs : List Nat) : Bool := l.all fun c => cs.contains c.1.1 || cs.contains c.2.1
def IsLeft (l : List (List Nat)) (c : List Nat) : Prop := ∃ i : Nat, l[i]? = some c ∧ ∀ (j : Nat) m, l[j]? = some m → c.length ≤ m.length ∧ (j < i → c.length < m.length)
theorem rowsBy_range : ∀ n, List.range n ∈ Vahype.rowsBy n
  | 0 => by simp [Vahype.rowsBy]
  | n + 1 => by
    show List.range (n + 1) ∈ (Vahype.rowsBy n).flatMap fun r => [r, r ++ [n]]
    rw [List.range_succ]
    exact List.mem_flatMap.mpr ⟨_, rowsBy_range n, by simp⟩
theorem con_in {s : Vahypa.Lst} {n : Nat} {c : (Nat × Nat) × (Nat × Nat)} (h : c ∈ consP s n) : c.1 ∈ spotsP s ∧ c.2 ∈ spotsP s := by
  obtain ⟨q, hq, h⟩ := List.mem_flatMap.mp h
  obtain ⟨o, ho, rfl⟩ := List.mem_map.mp h
  refine ⟨?_, ?_⟩
  · obtain ⟨z, hz, rfl⟩ := List.mem_map.mp hq
    exact List.mem_of_mem_take (List.mem_filter.mp hz).1
  · exact List.mem_of_mem_take (List.mem_filter.mp ho).1
theorem spot_lt {s : Vahypa.Lst} {o : Nat × Nat} (h : o ∈ spotsP s) : o.1 < s.words.length := by
  obtain ⟨w, hw, _⟩ := spots_in h
  exact (List.getElem?_eq_some_iff.mp hw).1
/-- few keys -/
def keyOf (p : Nat × Nat) : List Int := [(p.1 : Int), (p.2 : Int)]
theorem few_pairs {ks : List (Addr × List Int)} (h : ∀ p ∈ ks, ∃ a b : Nat, a < 10 ∧ b < 10 ∧ p.2 = keyOf (a, b)) : Few ks := by
  intro l nd hl
  have at2 : ∀ k ∈ l, ∃ a b : Nat, a < 10 ∧ b < 10 ∧ k = keyOf (a, b) := fun k hk => by
    obtain ⟨p, hp, rfl⟩ := List.mem_map.mp (hl k hk)
    exact h p hp
  have q := nat_nodup_len (l.map fun k => (k.getD 0 0 * 10 + k.getD 1 0).toNat) (List.range 100) (by
    refine List.pairwise_map.mpr (List.Pairwise.imp_of_mem (fun {x y} hx hy ne e => ?_) nd)
    obtain ⟨a, b, ha, hb, rfl⟩ := at2 x hx
    obtain ⟨a', b', ha', hb', rfl⟩ := at2 y hy
    refine ne ?_
    simp only [keyOf, List.getD_cons_zero, List.getD_cons_succ] at e
    have e1 : a = a' := by omega
    have e2 : b = b' := by omega
    rw [e1, e2]) fun x hx => by
    obtain ⟨k, hk, rfl⟩ := List.mem_map.mp hx
    obtain ⟨a, b, ha, hb, rfl⟩ := at2 k hk
    refine List.mem_range.mpr ?_
    simp only [keyOf, List.getD_cons_zero, List.getD_cons_succ]
    omega
  rw [List.length_map, List.length_range] at q
  omega
theorem keys_of {H : Hp} : ∀ {bs : List Addr} {ps : List (Nat × Nat)}, Paired (PairAt H) bs ps → ∃ ks : List (Addr × List Int), ks.map (·.1) = bs ∧ ks.map (·.2) = ps.map keyOf ∧ ∀ p ∈ ks, ∃ q ∈ ps, p.2 = keyOf q ∧ PairAt H p.1 q
  | _, _, .nil => ⟨[], rfl, rfl, nofun⟩
  | b :: _, q :: _, .cons r t => by
    obtain ⟨ks, h1, h2, h3⟩ := keys_of t
    refine ⟨(b, keyOf q) :: ks, by rw [List.map_cons, h1], by rw [List.map_cons, h2]; rfl, fun p hp => ?_⟩
    rcases List.mem_cons.mp hp with rfl | hp
    · exact ⟨q, .head _, rfl, r⟩
    · obtain ⟨q', m, e, z⟩ := h3 p hp
      exact ⟨q', .tail _ m, e, z⟩
theorem pboth {α β γ : Type} {F : α → β → Prop} {f : γ → α} {g : γ → β} : ∀ {l : List γ}, (∀ q ∈ l, F (f q) (g q)) → Paired F (l.map f) (l.map g)
  | [], _ => .nil
  | q :: _, h => .cons (h q (.head _)) (pboth fun q' m => h q' (.tail _ m))
theorem pmapR {α β γ : Type} {F : α → β → Prop} {G : α → γ → Prop} {f : β → γ} (h : ∀ a b, F a b → G a (f b)) : ∀ {l : List α} {m : List β}, Paired F l m → Paired G l (m.map f)
  | _, _, .nil => .nil
  | _, _, .cons r t => .cons (h _ _ r) (pmapR h t)
theorem touch_range {s : Vahypa.Lst} {n : Nat} : touchP (consP s n) (List.range s.words.length) = true := List.all_eq_true.mpr fun c hc => by
  have := spot_lt (con_in hc).1
  simp [this]
abbrev s_find_left_out : Stmt := top 7
abbrev N_find_left_out : List Str := ["wordlist", "length", "pairs", "fitting", "first", "second", "chosen"]
theorem sc_find_left_out : FnScope N_find_left_out ["wordlist", "length"] (defScope s_find_left_out) := ⟨rfl, rfl, rfl, by decide +kernel, rfl, by decide +kernel, by decide +kernel⟩
def sp_find_left_out (D : Ads) : Sp := fun vs H Q _ => ∃ a s n, vs = [.ref a, .int (n : Nat)] ∧ ListAt D H a s ∧ Fine s ∧ s.words.length ≤ 10 ∧ ∀ H' r cs, Same H H' → NvAt H' r cs → IsLeft ((Vahype.rowsBy s.words.length).filter (touchP (consP s n))) cs → Q (.ref r) H'
section
variable {P : Program} {w : World} {K : PySem.W.Frag} {mg : Str → Option Value} {base : Heap} {D : Ads}
theorem df_find_left_out {f : Addr} {fd : FuncData} (F : At K mg "find_left_out" s_find_left_out ["wordlist", "length"] f fd) (T : Txt K mg D)
    (c_find_contradictions : Df P w K mg base CX0 2 "find_contradictions" ["wordlist", "length"] (sp_find_contradictions D)) (c_list_word_sets : Df P w K mg base CX0 1 "list_word_sets" ["count"] sp_list_word_sets)
    (c_touches_all : Df P w K mg base CX0 1 "touches_all" ["chosen", "pairs"] (sp_touches_all K)) : Df P w K mg base CX0 3 "find_left_out" ["wordlist", "length"] (sp_find_left_out D) := by
  refine df0 (N := N_find_left_out) F sc_find_left_out (fun vs H Q E h => ?_) (fun cdv A outer s H vs Q E hr h => ⟨_, (pss_cons (ps_set (i := 2) sc_find_left_out.nd rfl (Or.inr rfl) (pe_callB (cr_sortS (by rfl)) (by rfl) T.n_sorted (by decide +kernel) (pa_cons (pe_callTy (cr_setS (by rfl) (by exact hr.units)) (by rfl) T.n_set (by decide +kernel) (pa_cons (pe_lc (own := [("first", 4), ("second", 5)]) (g := gTup K 2 (gCons (gName 4) (gCons (gName 5) gNil))) (te := tTup (tCons (tOp (rIxT K) (tVar 4) (tC (.int 0))) (tCons (tOp (rIxT K) (tVar 5) (tC (.int 0))) tNil))) rfl sc_find_left_out.nd (pi_list (pe_d0 c_find_contradictions hr (by decide) rfl (pa_cons (pv 0) (pa_cons (pv 1) pa_nil)))) (blkOk_by (own := [("first", 4), ("second", 5)]) (N := N_find_left_out) (sc := defScope s_find_left_out) (by decide +kernel)) (fun _ _ _ _ _ => by exact (pg_tup rfl (pgs_cons (pg_name (i := 4) sc_find_left_out.nd rfl (Or.inl rfl)) (pgs_cons (pg_name (i := 5) sc_find_left_out.nd rfl (Or.inl rfl)) pgs_nil)))) (fun _ _ _ _ _ => pts_nil) (fun _ _ _ _ _ => by exact (pe_tup (pa_cons (pe_ix ix_tup (pv 4) pe_int (fun _ _ => rfl)) (pa_cons (pe_ix ix_tup (pv 5) pe_int (fun _ _ => rfl)) pa_nil))))) pa_nil)) pa_nil)))
(pss_cons (ps_setLc (i := 3) (own := [("chosen", 6)]) (tt := tB (tCall (sp_touches_all K) [] E0 (tCons (tVar 6) (tCons (tVar 2) tNil)))) (te := tVar 6) rfl sc_find_left_out.nd rfl rfl (sw_true rfl rfl rfl (by decide +kernel)) (pi_list (pe_d0 c_list_word_sets hr (by decide) rfl (pa_cons (pe_callB call_len_seq (by rfl) T.n_len (by decide +kernel) (pa_cons (pe_fld (pv 0) rfl) pa_nil)) pa_nil))) (blkOk_by (own := [("chosen", 6)]) (N := N_find_left_out) (sc := defScope s_find_left_out) (by decide +kernel)) (fun _ _ _ _ _ => (pg_name (i := 6) sc_find_left_out.nd rfl (Or.inl rfl))) (fun _ _ _ _ _ => pts_one (pt_val (pe_d0 c_touches_all hr (by decide) rfl (pa_cons (pv 6) (pa_cons (pv 2) pa_nil))))) (fun _ _ _ _ _ => (pv 6)))
(pss_one (ps_ret (pe_minLen rfl (by rfl) T.n_min (by rfl) T.n_len (pv 3)))))), ?_⟩)
  · obtain ⟨a, s, n, rfl, _⟩ := h
    rfl
  · obtain ⟨a, s, n, rfl, hL, hF, h10, k⟩ := h
    -- the pairs of words
    refine ⟨_, rfl, _, rfl, a, s, n, rfl, hL, hF, fun H1 l e1 nl ⟨cs, hl, hcs⟩ => ⟨l, rfl, ⟨_, SqL.of hl⟩, fun O hO => ?_⟩⟩
    have eO : Same H1 (upd H1 O (.lst [])) := same_upd hO
    have nO : ∀ {b : Addr} {u : HO}, H1 b = some u → b ≠ O := fun hb => ne_of_none hb hO
    have clen : (consP s n).length ≤ 360 * 360 := by
      have z := spots_len hF
      refine Nat.le_trans (flat_len2 _ 360 (fun q => by rw [List.length_map]; exact Nat.le_trans (unp_len _ _ _ _) z) _) ?_
      exact Nat.mul_le_mul_left 360 (Nat.le_trans (ptd_len _ _ _) z)
    refine lc_it (walk_list (K := K) (a := l) (xs := cs.map V.ref)) (fun j H' => But O H1 H' ∧ RefsAt PairAt H' O (((consP s n).take j).map fun c => (c.1.1, c.2.1))) ⟨fun b u nb hb => eO b u hb, [], upd_same, .nil⟩ ?_ ?_ ?_
    · rintro j H' _ ⟨e, _⟩
      exact SqL.of (e _ _ (nO hl) hl)
    · rintro j x H2 H3 hj ⟨e2, bs, hb, hbp⟩ ⟨rfl, hx⟩
      obtain ⟨t, ht, rfl⟩ := refs_get hx
      obtain ⟨c, hc, b1, b2, k1, k2, k3⟩ := pget hcs ht
      refine ⟨t, _, rfl, SqT.of (e2 _ _ (nO k1) k1), rfl, _, _, rfl, _, _, rfl, rfl, ?_⟩
      refine ⟨rfl, _, rfl, b1, _, 0, _, rfl, rfl, SqT.of (e2 _ _ (nO k2) k2), rfl, _, rfl, b2, _, 0, _, rfl, rfl, SqT.of (e2 _ _ (nO k3) k3), rfl, by show 2 ≤ sizeLine; decide, fun u hu => ?_⟩
      have nuO : O ≠ u := ne_of_none hb hu
      refine ⟨_, (upd_ne nuO).trans hb, ?_, fun b' v' nb hb' => ?_, bs ++ [u], ?_, ?_⟩
      · rw [List.length_map, hbp.length, List.length_map, List.length_take]
        exact Nat.lt_of_le_of_lt (by omega : _ ≤ 200000) (by decide)
      · have := e2 _ _ nb hb'
        rw [upd_ne nb, upd_ne (ne_of_none this hu)]
        exact this
      · rw [upd_same, List.map_append]
        rfl
      · rw [take_more hc, List.map_append]
        refine psnoc (Paired.mapP hbp fun x y hxy => ?_) ?_
        · show upd _ O _ x = _
          have hxy : H3 x = _ := hxy
          have nx : x ≠ O := fun z => by rw [z, hb] at hxy; cases hxy
          rw [upd_ne nx, upd_ne (ne_of_none hxy hu)]
          exact hxy
        · show upd _ O _ u = _
          rw [upd_ne (Ne.symm nuO), upd_same]
    · rintro H2 ⟨e2, bs, hb, hbp⟩
      rw [List.length_map, hcs.length, List.take_length] at hbp
      obtain ⟨ks, hk1, hk2, hk3⟩ := keys_of hbp
      have small : ∀ q ∈ (consP s n).map (fun c => (c.1.1, c.2.1)), q.1 < 10 ∧ q.2 < 10 := fun q hq => by
        obtain ⟨c, hc, rfl⟩ := List.mem_map.mp hq
        have h1 := spot_lt (con_in hc).1
        have h2 := spot_lt (con_in hc).2
        exact ⟨by dsimp only; omega, by dsimp only; omega⟩
      have sq : SqL K H2 O (ks.map fun p => V.ref p.1) := by
        have e : (ks.map fun p => V.ref p.1) = bs.map V.ref := by rw [← hk1, List.map_map]; rfl
        rw [e]
        exact SqL.of hb
      refine ⟨O, ks, rfl, sq, fun p hp => ?_, few_pairs fun p hp => ?_, fun S L hS sub all => ?_⟩
      · obtain ⟨q, _, e, z⟩ := hk3 p hp
        rw [e]
        exact SqT.of z
      · obtain ⟨q, m, e, _⟩ := hk3 p hp
        exact ⟨q.1, q.2, (small q m).1, (small q m).2, e⟩
      have eS : Same H2 (upd H2 S (StO P w S L)) := same_upd hS
      refine ⟨S, L, rfl, upd_same, fun p hp => ?_, fun p hp => ?_, fun L' pl pm few hpl => ?_⟩
      · obtain ⟨q, _, e, z⟩ := hk3 p (sub p hp)
        rw [e]
        exact SqT.of (eS _ _ z)
      · obtain ⟨q, _, e, _⟩ := hk3 p (sub p hp)
        rw [e]
        rfl
      have eL : Same (upd H2 S (StO P w S L)) (upd (upd H2 S (StO P w S L)) pl (.lst (L'.map fun q => V.ref q.1))) := same_upd hpl
      have e02 : Same H H2 := fun b u hb => e2 _ _ (nO (e1 _ _ hb)) (e1 _ _ hb)
      have e0L := (e02.trans eS).trans eL
      -- the list of pairs as it stands now
      have qs : RefsAt PairAt (upd (upd H2 S (StO P w S L)) pl (.lst (L'.map fun q => V.ref q.1))) pl (L'.map fun q => ((q.2.getD 0 0).toNat, (q.2.getD 1 0).toNat)) := by
        refine ⟨L'.map (·.1), by rw [upd_same, List.map_map]; rfl, pboth fun q hq => ?_⟩
        obtain ⟨q', _, e, z⟩ := hk3 q (sub q (pm.mem_iff.mp hq))
        have z' := eL _ _ (eS _ _ z)
        rw [e]
        exact z'
      have same : ∀ r : List Nat, ((L'.map fun q => ((q.2.getD 0 0).toNat, (q.2.getD 1 0).toNat)).all fun p => r.contains p.1 || r.contains p.2) = touchP (consP s n) r := fun r => by
        unfold touchP
        rw [Bool.eq_iff_iff, List.all_eq_true, List.all_eq_true]
        refine ⟨fun h c hc => ?_, fun h p hp => ?_⟩
        · have m : keyOf (c.1.1, c.2.1) ∈ ks.map (·.2) := by
            rw [hk2]
            exact List.mem_map.mpr ⟨(c.1.1, c.2.1), List.mem_map.mpr ⟨c, hc, rfl⟩, rfl⟩
          obtain ⟨p, hp, e⟩ := List.mem_map.mp m
          have m2 := all p hp
          rw [e] at m2
          obtain ⟨p2, hp2, e2⟩ := List.mem_map.mp m2
          exact h (c.1.1, c.2.1) (List.mem_map.mpr ⟨p2, pm.mem_iff.mpr hp2, by rw [show p2.2 = keyOf (c.1.1, c.2.1) from e2]; rfl⟩)
        · obtain ⟨q, hq, rfl⟩ := List.mem_map.mp hp
          obtain ⟨q', m, e, _⟩ := hk3 q (sub q (pm.mem_iff.mp hq))
          obtain ⟨c, hc, rfl⟩ := List.mem_map.mp m
          have := h c hc
          rw [e]
          exact this
      generalize hps : (L'.map fun q => ((q.2.getD 0 0).toNat, (q.2.getD 1 0).toNat)) = ps at qs same
      -- fitting
      obtain ⟨dx, wl, ppl, h1, ⟨ws, h2, h2p⟩, h3⟩ := hL.same e0L
      have wlen : (ws.map V.ref).length = s.words.length := by rw [List.length_map, h2p.length]
      refine ⟨_, rfl, a, D.cL, dx, _, _, rfl, h1, T.kL, T.lW, fL_words _ _ _ _, wl, _, rfl, .inl (SqL.of h2), (ws.map V.ref).length, rfl, by rw [wlen]; exact h10, fun H6 l6 e6 n6 ⟨rs, hr6, hrp⟩ => ⟨l6, rfl, ⟨_, SqL.of hr6⟩, fun O2 hO2 => ?_⟩⟩
      rw [wlen] at hrp
      have eO2 : Same H6 (upd H6 O2 (.lst [])) := same_upd hO2
      refine lc_it (walk_list (K := K) (a := l6) (xs := rs.map V.ref)) (fun j H' => Same H6 H' ∧ ∃ gs, H' O2 = some (.lst (gs.map V.ref)) ∧ Paired (NvAt H6) gs (((Vahype.rowsBy s.words.length).take j).filter (touchP (consP s n)))) ⟨eO2, [], upd_same, .nil⟩ ?_ ?_ ?_
      · rintro j H' _ ⟨e, _⟩
        exact SqL.of (e _ _ hr6)
      · rintro j x H7 H8 hj ⟨e7, gs, hg, hgp⟩ ⟨rfl, hx⟩
        obtain ⟨t, ht, rfl⟩ := refs_get hx
        obtain ⟨r, hrr, hra⟩ := pget hrp ht
        refine ⟨rfl, _, rfl, _, rfl, t, pl, r, ps, rfl, SqL.of (e7 _ _ hra), qs.same PairAt.same (e6.trans e7), _, rfl, ?_⟩
        rw [same r, take_more hrr, List.filter_append]
        cases hc : touchP (consP s n) r with
        | false =>
          refine iteF ⟨e7, gs, hg, ?_⟩
          simp only [List.filter_cons, hc, List.filter_nil, Bool.false_eq_true, if_false, List.append_nil]
          exact hgp
        | true =>
          refine iteT ⟨_, rfl, _, hg, ?_, fun b u hbu => ?_, gs ++ [t], ?_, ?_⟩
          · rw [List.length_map, hgp.length]
            have z := pow_le10 h10
            have z2 := rowsBy_len s.words.length
            have z3 : (((Vahype.rowsBy s.words.length).take j).filter (touchP (consP s n))).length ≤ (Vahype.rowsBy s.words.length).length := Nat.le_trans (List.length_filter_le _ _) (by rw [List.length_take]; omega)
            exact Nat.lt_of_le_of_lt (by omega : _ ≤ 1024) (by decide)
          · rw [upd_ne (ne_of_none hbu hO2)]
            exact e7 _ _ hbu
          · rw [upd_same, List.map_append]
            rfl
          · simp only [List.filter_cons, hc, List.filter_nil, if_true]
            exact psnoc hgp hra
      · rintro H7 ⟨e7, gs, hg, hgp⟩
        rw [List.length_map, hrp.length, List.take_length] at hgp
        have hne : gs ≠ [] := fun e => by
          have m : List.range s.words.length ∈ (Vahype.rowsBy s.words.length).filter (touchP (consP s n)) := List.mem_filter.mpr ⟨rowsBy_range _, touch_range⟩
          have z := hgp.length
          rw [e] at z
          have := List.length_pos_of_mem m
          rw [← z] at this
          exact absurd this (Nat.lt_irrefl _)
        -- min(fitting, key=len)
        refine ⟨_, rfl, O2, gs, _, rfl, SqL.of hg, hne, pmapR (fun b r h => ⟨nv r, SqL.of (e7 _ _ h), by unfold nv; rw [List.length_map]⟩) hgp, fun i b m hb hm best => ?_⟩
        rw [List.getElem?_map] at hm
        obtain ⟨r, hr, rfl⟩ := Option.map_eq_some_iff.mp hm
        obtain ⟨r', hr', hra⟩ := pget hgp hb
        have er : r = r' := Option.some.inj (hr.symm.trans hr')
        refine k H7 b r ((e0L.trans e6).trans e7) (by rw [er]; exact e7 _ _ hra) ⟨i, hr, fun j m hm => ?_⟩
        exact best j m.length (by rw [List.getElem?_map, hm]; rfl)
end
end WG
set_option Elab.async false
set_option linter.all false
set_option maxRecDepth 100000
set_option maxHeartbeats 2000000
namespace WG
open Vahype (Spot spotsOf)
/-! ### contradictions, as the document's words tell them -/
def pr (a : Spot) : Nat × Nat := (a.w, a.g)
theorem spot_at {s : Vahypa.Lst} {a : Spot} (h : a ∈ spotsOf s) : ∃ w, s.words[a.w]? = some w ∧ a.yes = w.cuts.contains a.g ∧ 1 ≤ a.g ∧ a.g < w.x.length ∧ s.l ≤ a.g ∧ a.g + s.r ≤ w.x.length := by
  obtain ⟨⟨w, i⟩, hw, hb⟩ := List.mem_flatMap.mp h
  obtain ⟨g, hg, rfl⟩ := List.mem_map.mp hb
  obtain ⟨g1, g2⟩ := List.mem_filter.mp hg
  obtain ⟨k, hk, rfl⟩ := List.mem_map.mp g1
  have := List.mem_range.mp hk
  unfold Vahypa.within at g2
  have g3 := of_decide_eq_true g2
  refine ⟨w, List.mem_zipIdx_iff_getElem?.mp hw, rfl, ?_, ?_, g3.1, g3.2⟩
  · show 1 ≤ k + 1
    omega
  · show k + 1 < w.x.length
    dsimp only at this
    omega
theorem yes_is {s : Vahypa.Lst} {a : Spot} (h : a ∈ spotsOf s) : yesP s (pr a) = a.yes := by
  obtain ⟨w, hw, e, _⟩ := spot_at h
  unfold yesP pr
  rw [hw, e]
theorem before_is (x : VahypBase.Bytes) {n g : Nat} (hg : g ≤ x.length) : ((x.take g).reverse.take n).reverse = (x.drop (g - n)).take (g - (g - n)) := by
  rw [List.take_reverse, List.reverse_reverse, List.drop_take, List.length_take, Nat.min_eq_left hg]
theorem alike_is {s : Vahypa.Lst} {n : Nat} {a b : Spot} (ha : a ∈ spotsOf s) (hb : b ∈ spotsOf s) : Vahype.alike s n a b = decide (spLook s n (pr b) = spLook s n (pr a)) := by
  obtain ⟨w, hw, _, _, l1, _⟩ := spot_at ha
  obtain ⟨v, hv, _, _, l2, _⟩ := spot_at hb
  have ew : Vahypc.wordAt s a.w = w.x := by unfold Vahypc.wordAt; rw [hw]; rfl
  have ev : Vahypc.wordAt s b.w = v.x := by unfold Vahypc.wordAt; rw [hv]; rfl
  unfold Vahype.alike spLook look pr
  dsimp only
  rw [ew, ev, Bool.eq_iff_iff]
  unfold Vahype.before Vahype.behind
  rw [before_is w.x (Nat.le_of_lt l1), before_is v.x (Nat.le_of_lt l2)]
  simp only [Bool.and_eq_true, beq_iff_eq, decide_eq_true_eq, Vahype.Side.mk.injEq, Prod.mk.injEq]
  exact ⟨fun h => ⟨h.1.1.symm, h.1.2.symm, h.2.1.symm, h.2.2.symm⟩, fun h => ⟨⟨h.1.symm, h.2.1.symm⟩, h.2.2.1.symm, h.2.2.2.symm⟩⟩
theorem flatMap_on {α β : Type} {f g : α → List β} : ∀ {l : List α}, (∀ x ∈ l, f x = g x) → l.flatMap f = l.flatMap g
  | [], _ => rfl
  | x :: l, h => by
    rw [List.flatMap_cons, List.flatMap_cons, h x (.head _), flatMap_on fun y hy => h y (.tail _ hy)]
theorem cons_is (s : Vahypa.Lst) (n : Nat) : consP s n = (Vahype.conflicts s n).map fun c => (pr c.1, pr c.2) := by
  unfold consP ptd unp Vahype.conflicts
  simp only [List.take_length]
  have es : spotsP s = (spotsOf s).map pr := rfl
  rw [es, List.flatMap_map, List.filter_map, List.flatMap_map, List.map_flatMap]
  have e1 : (spotsOf s).filter (yesP s ∘ pr) = (spotsOf s).filter fun a => a.yes := List.filter_congr fun a ha => yes_is ha
  rw [e1]
  refine flatMap_on fun a ha => ?_
  have ha := (List.mem_filter.mp ha).1
  rw [List.filter_map, List.map_map, List.map_map]
  have e2 : (spotsOf s).filter ((fun o => !yesP s o && decide (spLook s n o = spLook s n (pr a))) ∘ pr) = (spotsOf s).filter fun b => !b.yes && Vahype.alike s n a b := List.filter_congr fun b hb => by
    show (!yesP s (pr b) && decide (spLook s n (pr b) = spLook s n (pr a))) = _
    rw [yes_is hb, alike_is ha hb]
  rw [e2]
  rfl
/-! ### words left out -/
theorem touch_is (s : Vahypa.Lst) (n : Nat) (cs : List Nat) : touchP (consP s n) cs = Vahype.coversAll (Vahype.conflicts s n) cs := by
  unfold touchP Vahype.coversAll
  rw [cons_is, List.all_map]
  rfl
def fmin (z : List Nat) (m : List (List Nat)) : List Nat := m.foldl (fun z r => if r.length < z.length then r else z) z
theorem fmin_left : ∀ (m : List (List Nat)) (z : List Nat), IsLeft (z :: m) (fmin z m)
  | [], z => ⟨0, rfl, fun j k hj => by
    cases j with
    | zero => cases hj; exact ⟨Nat.le_refl _, nofun⟩
    | succ j => simp at hj⟩
  | r :: m, z => by
    show IsLeft (z :: r :: m) (fmin (if r.length < z.length then r else z) m)
    by_cases c : r.length < z.length
    · rw [if_pos c]
      obtain ⟨i, hi, best⟩ := fmin_left m r
      refine ⟨i + 1, hi, fun j k hj => ?_⟩
      cases j with
      | zero =>
        cases hj
        have := (best 0 r rfl).1
        exact ⟨by omega, fun _ => by omega⟩
      | succ j =>
        have := best j k hj
        exact ⟨this.1, fun h => this.2 (by omega)⟩
    · rw [if_neg c]
      obtain ⟨i, hi, best⟩ := fmin_left m z
      cases i with
      | zero =>
        refine ⟨0, hi, fun j k hj => ⟨?_, nofun⟩⟩
        match j, hj with
        | 0, hj => exact (best 0 k hj).1
        | 1, hj =>
          cases hj
          have := (best 0 z rfl).1
          omega
        | j + 2, hj => exact (best (j + 1) k hj).1
      | succ i =>
        refine ⟨i + 2, hi, fun j k hj => ?_⟩
        match j, hj with
        | 0, hj =>
          have := best 0 k hj
          exact ⟨this.1, fun _ => this.2 (by omega)⟩
        | 1, hj =>
          cases hj
          have := (best 0 z rfl).2 (by omega)
          exact ⟨by omega, fun _ => by omega⟩
        | j + 2, hj =>
          have := best (j + 1) k hj
          exact ⟨this.1, fun h => this.2 (by omega)⟩
theorem left_one {l : List (List Nat)} {c d : List Nat} (h1 : IsLeft l c) (h2 : IsLeft l d) : c = d := by
  obtain ⟨i, hi, b1⟩ := h1
  obtain ⟨j, hj, b2⟩ := h2
  rcases Nat.lt_trichotomy i j with k | k | k
  · have := (b2 i c hi).2 k
    have := (b1 j d hj).1
    omega
  · rw [k, hj] at hi
    exact (Option.some.inj hi).symm
  · have := (b1 j d hj).2 k
    have := (b2 i c hi).1
    omega
theorem fold_fmin (p : List Nat → Bool) : ∀ (l : List (List Nat)) (z : List Nat), l.foldl (fun (b : Option (List Nat)) r => if p r && (match b with
    | none => true
    | some z => decide (r.length < z.length)) then some r else b) (some z) = some (fmin z (l.filter p))
  | [], z => rfl
  | r :: l, z => by
    rw [List.foldl_cons, List.filter_cons]
    cases hp : p r with
    | false =>
      simp only [Bool.false_and, Bool.false_eq_true, if_false]
      exact fold_fmin p l z
    | true =>
      simp only [Bool.true_and, if_true, decide_eq_true_eq]
      show _ = some (fmin (if r.length < z.length then r else z) (l.filter p))
      by_cases c : r.length < z.length
      · rw [if_pos c, if_pos c]
        exact fold_fmin p l r
      · rw [if_neg c, if_neg c]
        exact fold_fmin p l z
theorem fold_first (p : List Nat → Bool) : ∀ (l : List (List Nat)) {c : List Nat}, IsLeft (l.filter p) c → l.foldl (fun (b : Option (List Nat)) r => if p r && (match b with
    | none => true
    | some z => decide (r.length < z.length)) then some r else b) none = some c
  | [], c, h => by
    obtain ⟨i, hi, _⟩ := h
    simp at hi
  | r :: l, c, h => by
    rw [List.foldl_cons]
    rw [List.filter_cons] at h
    cases hp : p r with
    | false =>
      rw [hp] at h
      simp only [Bool.false_and, Bool.false_eq_true, if_false] at h ⊢
      exact fold_first p l h
    | true =>
      rw [hp] at h
      simp only [Bool.and_true, if_true] at h ⊢
      rw [fold_fmin p l r, left_one h (fmin_left _ _)]
theorem left_is {s : Vahypa.Lst} {n : Nat} {c : List Nat} (h : IsLeft ((Vahype.rowsBy s.words.length).filter (touchP (consP s n))) c) : Vahype.leftOut s n = c := by
  have e : touchP (consP s n) = Vahype.coversAll (Vahype.conflicts s n) := funext fun r => touch_is s n r
  rw [e] at h
  exact congrArg (fun o : Option (List Nat) => o.getD []) (fold_first (Vahype.coversAll (Vahype.conflicts s n)) _ h)
end WG
set_option Elab.async false
set_option linter.all false
set_option maxRecDepth 100000
set_option maxHeartbeats 2000000
namespace WG
open Vahype (Spot spotsOf)
open Vahypa (Pat)
/-! ### pieces and evidence, as the document's words tell them -/
def patP (p : Pc) : Pat := ⟨p.2.2.1, p.1, p.2.2.2, (List.range (p.1.length + 1)).map fun k => if k = p.2.1 then 1 else 0⟩
theorem piece_is {x : VahypBase.Bytes} {o n g : Nat} (h1 : o + n ≤ x.length) (h2 : o ≤ g) (f l : Bool) : Vahypc.piece x o n g f l = patP ((x.drop o).take n, g - o, f, l) := by
  unfold Vahypc.piece patP
  have len : ((x.drop o).take n).length = n := by rw [List.length_take, List.length_drop]; omega
  dsimp only
  rw [len]
  congr 1
  refine List.map_congr_left fun k hk => ?_
  by_cases c : o + k = g
  · rw [if_pos c, if_pos (by omega)]
  · rw [if_neg c, if_neg (by omega)]
theorem map_if {α β : Type} {f : α → β} {c : Prop} [Decidable c] {a : α} : (if c then [a] else []).map f = if c then [f a] else [] := by split <;> rfl
theorem pt_is {x : VahypBase.Bytes} {o n g : Nat} (h1 : o + n ≤ x.length) (h2 : o ≤ g) : (ptPieces x g o (o + n)).map patP =
    [Vahypc.piece x o n g false false] ++ ((if o = 0 then [Vahypc.piece x o n g true false] else []) ++ ((if o + n = x.length then [Vahypc.piece x o n g false true] else []) ++ (if o = 0 ∧ o + n = x.length then [Vahypc.piece x o n g true true] else []))) := by
  unfold ptPieces
  rw [show o + n - o = n by omega]
  simp only [piece_is h1 h2, List.map_append, map_if, List.append_assoc, List.map_cons, List.map_nil]
theorem range_cut {β : Type} (f : Nat → List β) (lo : Nat) : ∀ (N hi : Nat), hi ≤ N → (List.range N).flatMap (fun o => if lo ≤ o ∧ o < hi then f o else []) = (List.range (hi - lo)).flatMap fun i => f (lo + i)
  | 0, hi, h => by
    have : hi - lo = 0 := by omega
    rw [this]
    rfl
  | N + 1, hi, h => by
    rw [List.range_succ, List.flatMap_append, List.flatMap_cons, List.flatMap_nil, List.append_nil]
    by_cases c : hi ≤ N
    · rw [range_cut f lo N hi c, if_neg (by omega), List.append_nil]
    · have e : hi = N + 1 := by omega
      subst e
      have e1 : (List.range N).flatMap (fun o => if lo ≤ o ∧ o < N + 1 then f o else []) = (List.range N).flatMap (fun o => if lo ≤ o ∧ o < N then f o else []) := flatMap_on fun o ho => by
        have := List.mem_range.mp ho
        by_cases z : lo ≤ o
        · rw [if_pos ⟨z, by omega⟩, if_pos ⟨z, this⟩]
        · rw [if_neg (fun q => z q.1), if_neg (fun q => z q.1)]
      rw [e1, range_cut f lo N N (Nat.le_refl _)]
      by_cases z : lo ≤ N
      · rw [if_pos ⟨z, by omega⟩, show N + 1 - lo = (N - lo) + 1 by omega, List.range_succ, List.flatMap_append, List.flatMap_cons, List.flatMap_nil, List.append_nil, show lo + (N - lo) = N by omega]
      · rw [if_neg (fun q => z q.1), show N - lo = 0 by omega, show N + 1 - lo = 0 by omega]
        rfl
theorem pieces_is {x : VahypBase.Bytes} {g : Nat} (hg : g ≤ x.length) (m : Nat) : Vahypc.piecesAt x m g = (pcs x g m).map patP := by
  unfold Vahypc.piecesAt pcs
  rw [List.map_flatMap]
  refine flatMap_on fun k _ => ?_
  dsimp only
  unfold pcsTo
  rw [List.map_flatMap]
  have hi : (g - (k + 1)) + cnt x g (k + 1) ≤ x.length + 1 := by
    unfold cnt
    split <;> omega
  have q := range_cut (fun o => (ptPieces x g o (o + (k + 1))).map patP) (g - (k + 1)) (x.length + 1) ((g - (k + 1)) + cnt x g (k + 1)) hi
  rw [show g - (k + 1) + cnt x g (k + 1) - (g - (k + 1)) = cnt x g (k + 1) by omega] at q
  rw [← q]
  refine flatMap_on fun o ho => ?_
  have := List.mem_range.mp ho
  by_cases c : o + (k + 1) ≤ x.length ∧ o ≤ g ∧ g ≤ o + (k + 1)
  · have : g - (k + 1) ≤ o ∧ o < g - (k + 1) + cnt x g (k + 1) := by
      unfold cnt
      rw [if_pos (by omega)]
      omega
    rw [if_pos c, if_pos this, pt_is c.1 c.2.1]
  · have : ¬ (g - (k + 1) ≤ o ∧ o < g - (k + 1) + cnt x g (k + 1)) := by
      unfold cnt
      split <;> omega
    rw [if_neg c, if_neg this]
theorem pcs_ok {x : VahypBase.Bytes} {g m : Nat} (hg : g ≤ x.length) {p : Pc} (h : p ∈ pcs x g m) : 1 ≤ p.1.length ∧ p.2.1 ≤ p.1.length := by
  obtain ⟨k, _, h⟩ := List.mem_flatMap.mp h
  obtain ⟨i, hi, h⟩ := List.mem_flatMap.mp h
  have hi := List.mem_range.mp hi
  have e : p.1 = (x.drop (g - (k + 1) + i)).take (g - (k + 1) + i + (k + 1) - (g - (k + 1) + i)) ∧ p.2.1 = g - (g - (k + 1) + i) := by
    unfold ptPieces at h
    simp only [List.mem_append, List.mem_singleton] at h
    rcases h with ((h | h) | h) | h
    · rw [h]
      exact ⟨rfl, rfl⟩
    all_goals
      split at h
      · rw [List.mem_singleton.mp h]
        exact ⟨rfl, rfl⟩
      · cases h
  rw [e.1, e.2, List.length_take, List.length_drop]
  unfold cnt at hi
  split at hi <;> omega
theorem lev_is (p : Pc) (k : Nat) : (patP p).levels[k]?.getD 0 = if k ≤ p.1.length ∧ k = p.2.1 then 1 else 0 := by
  unfold patP
  dsimp only
  rw [List.getElem?_map]
  by_cases c : k < p.1.length + 1
  · rw [List.getElem?_range c]
    by_cases z : k = p.2.1
    · rw [if_pos ⟨by omega, z⟩]
      simp [z]
    · rw [if_neg (fun q => z q.2)]
      simp [z]
  · rw [List.getElem?_eq_none (by rw [List.length_range]; omega), if_neg (fun q => c (by omega))]
    rfl
/-- a piece is met at a gap just where it fits so -/
theorem tells_is {p : Pc} (h1 : 1 ≤ p.1.length) (h2 : p.2.1 ≤ p.1.length) (x : VahypBase.Bytes) (g : Nat) : ((List.range (x.length + 1)).any fun o => Vahypa.tells (patP p) x o g == 1) = fitsP p x g := by
  rw [Bool.eq_iff_iff, List.any_eq_true]
  have one : ∀ o, (Vahypa.tells (patP p) x o g == 1) = true ↔ Vahypa.fitsAt (patP p) x o = true ∧ o ≤ g ∧ g - o = p.2.1 := fun o => by
    unfold Vahypa.tells
    rw [beq_iff_eq]
    by_cases c : Vahypa.fitsAt (patP p) x o = true ∧ o ≤ g
    · rw [if_pos c, lev_is]
      by_cases z : g - o = p.2.1
      · rw [if_pos ⟨by omega, z⟩]
        exact ⟨fun _ => ⟨c.1, c.2, z⟩, fun _ => rfl⟩
      · rw [if_neg (fun q => z q.2)]
        exact ⟨fun q => (by cases q), fun q => absurd q.2.2 z⟩
    · rw [if_neg c]
      exact ⟨fun q => (by cases q), fun q => absurd ⟨q.1, q.2.1⟩ c⟩
  have two : ∀ o, Vahypa.fitsAt (patP p) x o = true ↔ (o + p.1.length ≤ x.length ∧ (x.drop o).take p.1.length = p.1) ∧ (p.2.2.1 = false ∨ o = 0) ∧ (p.2.2.2 = false ∨ o + p.1.length = x.length) := fun o => by
    unfold Vahypa.fitsAt patP
    simp only [Bool.and_eq_true, decide_eq_true_eq, beq_iff_eq, Bool.or_eq_true, Bool.not_eq_true']
    exact ⟨fun q => ⟨⟨q.1, q.2.1⟩, q.2.2⟩, fun q => ⟨q.1.1, q.1.2, q.2⟩⟩
  have three : fitsP p x g = true ↔ p.2.1 ≤ g ∧ (x.drop (g - p.2.1)).take p.1.length = p.1 ∧ (p.2.2.1 = false ∨ g - p.2.1 = 0) ∧ (p.2.2.2 = false ∨ g - p.2.1 + p.1.length = x.length) := by
    unfold fitsP
    simp only [Bool.and_eq_true, decide_eq_true_eq, Bool.or_eq_true, Bool.not_eq_true']
  rw [three]
  constructor
  · rintro ⟨o, _, ho⟩
    obtain ⟨f, le, e⟩ := (one o).mp ho
    obtain ⟨⟨_, t⟩, a, b⟩ := (two o).mp f
    have eo : g - p.2.1 = o := by omega
    rw [eo]
    exact ⟨by omega, t, a, b⟩
  · rintro ⟨le, t, a, b⟩
    have len := congrArg List.length t
    rw [List.length_take, List.length_drop] at len
    refine ⟨g - p.2.1, List.mem_range.mpr (by omega), (one _).mpr ⟨(two _).mpr ⟨⟨by omega, t⟩, a, b⟩, by omega, by omega⟩⟩
theorem count_map {α β : Type} (f : α → β) (q : β → Bool) (l : List α) : ((l.map f).filter q).length = (l.filter (q ∘ f)).length := by
  rw [List.filter_map, List.length_map]
theorem evidence_sum {f : Pat → Nat × Nat} : ∀ (l : List Pat) (a b : Nat), l.foldl (fun (e : Nat × Nat) p => (e.1 + (f p).1, e.2 + (f p).2)) (a, b) = (a + (l.map fun p => (f p).1).sum, b + (l.map fun p => (f p).2).sum)
  | [], a, b => by simp
  | p :: l, a, b => by
    rw [List.foldl_cons, evidence_sum l, List.map_cons, List.map_cons, List.sum_cons, List.sum_cons]
    simp only [Nat.add_assoc]
theorem others_is (s : Vahypa.Lst) (i : Nat) (q : Nat × Nat → Bool) : ((othersP s i).filter q).length = ((spotsOf s).filter fun a => a.w != i && q (pr a)).length := by
  unfold othersP
  have es : spotsP s = (spotsOf s).map pr := rfl
  rw [es, List.filter_filter, count_map]
  congr 1
  refine List.filter_congr fun a _ => ?_
  show (q (pr a) && !decide (a.w = i)) = _
  rw [Bool.and_comm]
  congr 1
theorem evidence_is {s : Vahypa.Lst} {a : Spot} (ha : a ∈ spotsOf s) (m : Nat) : Vahype.evidenceOf s m a = (forT s (othersP s a.w) (pcs (Vahypc.wordAt s a.w) a.g m), agT s (othersP s a.w) (pcs (Vahypc.wordAt s a.w) a.g m)) := by
  obtain ⟨w, hw, _, _, lt, _⟩ := spot_at ha
  have ew := wordAt_of hw
  have hg : a.g ≤ (Vahypc.wordAt s a.w).length := by rw [ew]; omega
  unfold Vahype.evidenceOf
  rw [pieces_is hg]
  have q := evidence_sum (f := fun p => (((Vahype.seen s a.w p).filter fun b => b.yes).length, ((Vahype.seen s a.w p).filter fun b => !b.yes).length)) ((pcs (Vahypc.wordAt s a.w) a.g m).map patP) 0 0
  refine q.trans ?_
  rw [Nat.zero_add, Nat.zero_add, List.map_map, List.map_map]
  have seen : ∀ p ∈ pcs (Vahypc.wordAt s a.w) a.g m, Vahype.seen s a.w (patP p) = (spotsOf s).filter fun b => b.w != a.w && fitsP p (Vahypc.wordAt s b.w) b.g := fun p hp => by
    obtain ⟨h1, h2⟩ := pcs_ok hg hp
    unfold Vahype.seen
    refine List.filter_congr fun b _ => ?_
    dsimp only
    rw [tells_is h1 h2]
  unfold forT agT
  congr 2
  · refine List.map_congr_left fun p hp => ?_
    show ((Vahype.seen s a.w (patP p)).filter fun b => b.yes).length = forN s (othersP s a.w) p
    unfold forN
    rw [seen p hp, others_is, List.filter_filter]
    congr 1
    refine List.filter_congr fun b hb => ?_
    rw [yes_is hb]
    show _ = (b.w != a.w && (fitsP p (Vahypc.wordAt s b.w) b.g && b.yes))
    generalize (b.w != a.w) = u
    generalize fitsP p (Vahypc.wordAt s b.w) b.g = v
    generalize b.yes = z
    cases u <;> cases v <;> cases z <;> rfl
  · refine List.map_congr_left fun p hp => ?_
    show ((Vahype.seen s a.w (patP p)).filter fun b => !b.yes).length = agN s (othersP s a.w) p
    unfold agN
    rw [seen p hp, others_is, List.filter_filter]
    congr 1
    refine List.filter_congr fun b hb => ?_
    rw [yes_is hb]
    show _ = (b.w != a.w && (fitsP p (Vahypc.wordAt s b.w) b.g && !b.yes))
    generalize (b.w != a.w) = u
    generalize fitsP p (Vahypc.wordAt s b.w) b.g = v
    generalize b.yes = z
    cases u <;> cases v <;> cases z <;> rfl
end WG
set_option Elab.async false
set_option linter.all false
set_option maxRecDepth 100000
set_option maxHeartbeats 2000000
namespace WG
open VahypBase (Bytes Toks Fault isLetter)
/-! ### a list that is read keeps the bounds -/
theorem ebind {α β : Type} {e : Except Fault α} {f : α → Except Fault β} {y : β} (h : e.bind f = .ok y) : ∃ x, e = .ok x ∧ f x = .ok y := by
  cases e with
  | error z => cases h
  | ok x => exact ⟨x, rfl, h⟩
theorem emap {α β : Type} {e : Except Fault α} {f : α → β} {y : β} (h : e.map f = .ok y) : ∃ x, e = .ok x ∧ f x = y := by
  cases e with
  | error z => cases h
  | ok x => exact ⟨x, rfl, Except.ok.inj h⟩
theorem wordBy_ok : ∀ (n : Nat) (l x : Bytes) (cs : List Nat) (w : Vahypa.Word), Vahypa.wordBy n l x cs = some w → cs.Pairwise (· < ·) → (∀ c ∈ cs, 1 ≤ c ∧ c ≤ x.length) → (∀ b ∈ x, isLetter b = true) →
    ((∀ c ∈ cs, c < x.length) ∨ ∃ b r, l = b :: r ∧ isLetter b = true) → w.cuts.Pairwise (· < ·) ∧ (∀ c ∈ w.cuts, 1 ≤ c ∧ c < w.x.length) ∧ ∀ b ∈ w.x, isLetter b = true
  | 0, _, _, _, _, h, _, _, _, _ => by cases h
  | n + 1, [], x, cs, w, h, h1, h2, h3, h4 => by
    cases h
    rcases h4 with h4 | ⟨b, r, e, _⟩
    · exact ⟨h1, fun c hc => ⟨(h2 c hc).1, h4 c hc⟩, h3⟩
    · cases e
  | n + 1, b :: r, x, cs, w, h, h1, h2, h3, h4 => by
    unfold Vahypa.wordBy at h
    dsimp only at h
    by_cases c1 : isLetter b = true
    · rw [if_pos c1] at h
      refine wordBy_ok n r (x ++ [b]) cs w h h1 (fun c hc => ?_) (fun d hd => ?_) (.inl fun c hc => ?_)
      · rw [List.length_append, List.length_singleton]
        have := h2 c hc
        omega
      · rcases List.mem_append.mp hd with hd | hd
        · exact h3 d hd
        · rw [List.mem_singleton.mp hd]
          exact c1
      · rw [List.length_append, List.length_singleton]
        have := h2 c hc
        omega
    · rw [if_neg c1] at h
      by_cases c2 : b == 45 ∧ x ≠ [] ∧ cs.contains x.length = false
      · rw [if_pos c2] at h
        cases r with
        | nil => cases h
        | cons d r =>
          dsimp only at h
          by_cases c3 : isLetter d = true
          · rw [if_pos c3] at h
            have no : ∀ c ∈ cs, c ≠ x.length := fun c hc e => by
              have z := c2.2.2
              rw [← e] at z
              simp [hc] at z
            refine wordBy_ok n (d :: r) x (cs ++ [x.length]) w h (List.pairwise_append.mpr ⟨h1, List.pairwise_singleton _ _, fun c hc e he => ?_⟩) (fun c hc => ?_) h3 (.inr ⟨d, r, rfl, c3⟩)
            · rw [List.mem_singleton.mp he]
              have := (h2 c hc).2
              have := no c hc
              omega
            · rcases List.mem_append.mp hc with hc | hc
              · exact h2 c hc
              · rw [List.mem_singleton.mp hc]
                have := List.length_pos_iff.mpr c2.2.1
                omega
          · rw [if_neg c3] at h
            cases h
      · rw [if_neg c2] at h
        cases h
/-- a word as the document tells words -/
structure WordOk (w : Vahypa.Word) : Prop where
  lo : 2 ≤ w.x.length
  hi : w.x.length ≤ 16
  asc : w.cuts.Pairwise (· < ·)
  cut : ∀ c ∈ w.cuts, 1 ≤ c ∧ c < w.x.length
  let_ : ∀ b ∈ w.x, isLetter b = true
theorem WordOk.few {w : Vahypa.Word} (h : WordOk w) : w.cuts.length ≤ 16 := by
  have q := L2.nat_nodup_len w.cuts (List.range 16) (List.Pairwise.imp (fun {a b} (q : a < b) => Nat.ne_of_lt q) h.asc) fun c hc => by
    have := h.cut c hc
    have := h.hi
    exact List.mem_range.mpr (by omega)
  rwa [List.length_range] at q
theorem wordOf_ok {b : Bytes} {w : Vahypa.Word} (h : Vahypa.wordOf b = some w) : WordOk w := by
  unfold Vahypa.wordOf at h
  obtain ⟨v, hv, h⟩ := Option.bind_eq_some_iff.mp h
  by_cases c : v.x.length < 2 ∨ Vahypa.LETTERS < v.x.length
  · rw [if_pos c] at h
    cases h
  · rw [if_neg c] at h
    cases h
    unfold Vahypa.LETTERS at c
    obtain ⟨h1, h2, h3⟩ := wordBy_ok _ _ _ _ _ hv List.Pairwise.nil nofun nofun (.inl nofun)
    exact ⟨by omega, by omega, h1, h2, h3⟩
theorem takeWords_ok : ∀ (n : Nat) (ws : List Vahypa.Word) (l : Toks) (z : List Vahypa.Word × Toks), Vahypa.takeWords n ws l = .ok z → ws.length ≤ 24 → (∀ w ∈ ws, WordOk w) → z.1.length ≤ 24 ∧ ∀ w ∈ z.1, WordOk w
  | 0, _, _, _, h, _, _ => by cases h
  | n + 1, ws, l, z, h, h1, h2 => by
    unfold Vahypa.takeWords at h
    by_cases c : VahypBase.nextWord "word" l = true
    · rw [if_pos c] at h
      by_cases c2 : Vahypa.WORDS ≤ ws.length
      · rw [if_pos c2] at h
        cases h
      · rw [if_neg c2] at h
        obtain ⟨x, _, h⟩ := ebind h
        cases hw : Vahypa.wordOf x.2.1 with
        | none =>
          rw [hw] at h
          cases h
        | some w =>
          rw [hw] at h
          dsimp only at h
          by_cases c3 : ws.any (fun v => v.x == w.x) = true
          · rw [if_pos c3] at h
            cases h
          · rw [if_neg c3] at h
            obtain ⟨m, _, h⟩ := ebind h
            unfold Vahypa.WORDS at c2
            refine takeWords_ok n _ _ _ h (by rw [List.length_append, List.length_singleton]; omega) fun v hv => ?_
            rcases List.mem_append.mp hv with hv | hv
            · exact h2 v hv
            · rw [List.mem_singleton.mp hv]
              exact wordOf_ok hw
    · rw [if_neg c] at h
      cases h
      exact ⟨h1, h2⟩
theorem takePats_ok : ∀ (n : Nat) (ps : List Vahypa.Pat) (l : Toks) (z : List Vahypa.Pat), Vahypa.takePats n ps l = .ok z → ps.length ≤ 40 → z.length ≤ 40
  | 0, _, _, _, h, _ => by cases h
  | n + 1, ps, l, z, h, h1 => by
    unfold Vahypa.takePats at h
    by_cases c : VahypBase.next .last l = true
    · rw [if_pos c] at h
      cases h
      exact h1
    · rw [if_neg c] at h
      obtain ⟨m, _, h⟩ := ebind h
      by_cases c2 : Vahypa.PATS ≤ ps.length
      · rw [if_pos c2] at h
        cases h
      · rw [if_neg c2] at h
        obtain ⟨x, _, h⟩ := ebind h
        cases hp : Vahypa.patOf x.2.1 with
        | none =>
          rw [hp] at h
          cases h
        | some p =>
          rw [hp] at h
          dsimp only at h
          split at h
          · cases h
          · obtain ⟨m, _, h⟩ := ebind h
            unfold Vahypa.PATS at c2
            exact takePats_ok n _ _ _ h (by rw [List.length_append, List.length_singleton]; omega)
theorem takeMargin_ok {l : Toks} {z : Nat × Toks} (h : Vahypa.takeMargin l = .ok z) : z.1 ≤ 5 := by
  unfold Vahypa.takeMargin at h
  obtain ⟨x, _, h⟩ := ebind h
  split at h
  · split at h
    · rename_i c
      cases h
      exact c.2
    · cases h
  · cases h
/-- what is read -/
structure Read (s : Vahypa.Lst) : Prop where
  fine : Fine s
  word : ∀ w ∈ s.words, WordOk w
theorem read_ok {b : Bytes} {s : Vahypa.Lst} (h : Vahypa.read b = .ok s) : Read s := by
  unfold Vahypa.read at h
  obtain ⟨l, _, h⟩ := ebind h
  obtain ⟨l2, _, h⟩ := ebind h
  obtain ⟨a, ha, h⟩ := ebind h
  obtain ⟨z, hz, h⟩ := ebind h
  obtain ⟨l3, _, h⟩ := ebind h
  obtain ⟨ws, hws, h⟩ := ebind h
  obtain ⟨ps, hps, rfl⟩ := emap h
  obtain ⟨h1, h2⟩ := takeWords_ok _ _ _ _ hws (Nat.zero_le _) nofun
  have h3 := takePats_ok _ _ _ _ hps (Nat.zero_le _)
  exact ⟨⟨h1, h3, fun w hw => ⟨(h2 w hw).lo, (h2 w hw).hi⟩, fun w hw => (h2 w hw).few, takeMargin_ok ha, takeMargin_ok hz⟩, h2⟩
end WG
set_option Elab.async false
set_option linter.all false
set_option maxRecDepth 100000
set_option maxHeartbeats 2000000
namespace WG
open VahypBase (Bytes)
/-! ### the calls of a list of numbers -/
def Big (z : Int) : Prop := -1000000000000000000 ≤ z ∧ z ≤ 1000000000000000000
/-- bytes as whole numbers -/
def bi (b : Bytes) : List Int := b.map fun c => (c.toNat : Int)
inductive Seg : List Int → Vahype.Call → Prop
  | load (b : Bytes) : b.length ≤ 8192 → Seg (0 :: (b.length : Int) :: bi b) (.load b)
  | conflicts (n : Int) : Big n → Seg [1, n] (.conflicts n)
  | leftOut (n : Int) : Big n → Seg [2, n] (.leftOut n)
  | evidence (i g m : Int) : Big i → Big g → Big m → Seg [3, i, g, m] (.evidence i g m)
  | doubts (m : Int) : Big m → Seg [4, m] (.doubts m)
  | keptOut (m i : Int) : Big m → Big i → Seg [5, m, i] (.keptOut m i)
  | cross (m : Int) : Big m → Seg [6, m] (.cross m)
theorem within_is {lo hi z : Int} (h : PyInside.within lo hi z = true) : lo ≤ z ∧ z ≤ hi := by
  unfold PyInside.within at h
  simpa using h
theorem bi_of : ∀ {l : List Int}, (∀ z ∈ l, 0 ≤ z ∧ z ≤ 255) → l = bi (VahypeNeutral.bytesOf l)
  | [], _ => rfl
  | z :: l, h => by
    have e := bi_of fun y hy => h y (.tail _ hy)
    have hz := h z (.head _)
    show z :: l = ((UInt8.ofNat z.toNat).toNat : Int) :: bi (VahypeNeutral.bytesOf l)
    rw [← e]
    congr 1
    rw [UInt8.toNat_ofNat']
    omega
theorem whole_id (c : List (List Int)) : PyVahype.whole c = c := by
  unfold PyVahype.whole
  split <;> rfl
theorem shape_inv {p : Int} {n k : Nat} (h : PyVahype.shape p = some (n, k)) : (p = 0 ∧ n = 0 ∧ k = 1) ∨ (p = 1 ∧ n = 1 ∧ k = 0) ∨ (p = 2 ∧ n = 1 ∧ k = 0) ∨ (p = 3 ∧ n = 3 ∧ k = 0) ∨ (p = 4 ∧ n = 1 ∧ k = 0) ∨ (p = 5 ∧ n = 2 ∧ k = 0) ∨ (p = 6 ∧ n = 1 ∧ k = 0) := by
  unfold PyVahype.shape at h
  by_cases c0 : p = 0
  · rw [if_pos c0] at h; cases h; exact .inl ⟨c0, rfl, rfl⟩
  rw [if_neg c0] at h
  by_cases c1 : p = 1
  · rw [if_pos c1] at h; cases h; exact .inr (.inl ⟨c1, rfl, rfl⟩)
  rw [if_neg c1] at h
  by_cases c2 : p = 2
  · rw [if_pos c2] at h; cases h; exact .inr (.inr (.inl ⟨c2, rfl, rfl⟩))
  rw [if_neg c2] at h
  by_cases c3 : p = 3
  · rw [if_pos c3] at h; cases h; exact .inr (.inr (.inr (.inl ⟨c3, rfl, rfl⟩)))
  rw [if_neg c3] at h
  by_cases c4 : p = 4
  · rw [if_pos c4] at h; cases h; exact .inr (.inr (.inr (.inr (.inl ⟨c4, rfl, rfl⟩))))
  rw [if_neg c4] at h
  by_cases c5 : p = 5
  · rw [if_pos c5] at h; cases h; exact .inr (.inr (.inr (.inr (.inr (.inl ⟨c5, rfl, rfl⟩)))))
  rw [if_neg c5] at h
  by_cases c6 : p = 6
  · rw [if_pos c6] at h; cases h; exact .inr (.inr (.inr (.inr (.inr (.inr ⟨c6, rfl, rfl⟩)))))
  rw [if_neg c6] at h
  cases h
theorem each1 {p x : Int} (e : (PyVahype.bound p).1 = [(-1000000000000000000, 1000000000000000000)]) {xs : List (List Int)} (h : PyInside.call PyVahype.bound ([p, x] :: xs) = true) : Big x := by
  unfold PyInside.call at h
  simp only [e, PyInside.each, Bool.and_eq_true] at h
  exact within_is h.1.1
theorem seg_of {c : List (List Int)} (h : PyFlat.okCall PyVahype.shape c) (hb : PyInside.call PyVahype.bound c = true) : ∃ k, Seg (PyFlat.put1 c) k ∧ VahypeNeutral.callOf c = some k := by
  obtain ⟨p, a, xs, rfl, hs⟩ := h
  rcases shape_inv hs with ⟨rfl, la, lx⟩ | ⟨rfl, la, lx⟩ | ⟨rfl, la, lx⟩ | ⟨rfl, la, lx⟩ | ⟨rfl, la, lx⟩ | ⟨rfl, la, lx⟩ | ⟨rfl, la, lx⟩
  · match a, xs, la, lx with
    | [], [b], _, _ =>
      unfold PyInside.call at hb
      simp only [PyVahype.bound, if_true, PyInside.each, PyInside.lists, Bool.and_eq_true, decide_eq_true_eq, List.all_eq_true, true_and, and_true] at hb
      have by_ : ∀ z ∈ b, 0 ≤ z ∧ z ≤ 255 := fun z hz => within_is (hb.2 z hz)
      have eb := bi_of by_
      have ln : (VahypeNeutral.bytesOf b).length = b.length := List.length_map _
      refine ⟨.load (VahypeNeutral.bytesOf b), ?_, ?_⟩
      · have q := Seg.load (VahypeNeutral.bytesOf b) (by rw [ln]; exact hb.1.2)
        rw [ln, ← eb] at q
        show Seg (0 :: ((b.length : Int) :: b ++ [])) _
        rw [List.append_nil]
        exact q
      · show (if NeutralIO.bytes b = true then some (Vahype.Call.load (VahypeNeutral.bytesOf b)) else none) = _
        rw [if_pos]
        unfold NeutralIO.bytes
        rw [List.all_eq_true]
        intro z hz
        have := by_ z hz
        simp [this]
  · match a, xs, la, lx with
    | [x], [], _, _ => exact ⟨_, .conflicts x (each1 rfl hb), rfl⟩
  · match a, xs, la, lx with
    | [x], [], _, _ => exact ⟨_, .leftOut x (each1 rfl hb), rfl⟩
  · match a, xs, la, lx with
    | [x, y, z], [], _, _ =>
      unfold PyInside.call at hb
      have e : (PyVahype.bound 3).1 = [(-1000000000000000000, 1000000000000000000), (-1000000000000000000, 1000000000000000000), (-1000000000000000000, 1000000000000000000)] := rfl
      simp only [e, PyInside.each, Bool.and_eq_true] at hb
      exact ⟨_, .evidence x y z (within_is hb.1.1) (within_is hb.1.2.1) (within_is hb.1.2.2.1), rfl⟩
  · match a, xs, la, lx with
    | [x], [], _, _ => exact ⟨_, .doubts x (each1 rfl hb), rfl⟩
  · match a, xs, la, lx with
    | [x, y], [], _, _ =>
      unfold PyInside.call at hb
      have e : (PyVahype.bound 5).1 = [(-1000000000000000000, 1000000000000000000), (-1000000000000000000, 1000000000000000000)] := rfl
      simp only [e, PyInside.each, Bool.and_eq_true] at hb
      exact ⟨_, .keptOut x y (within_is hb.1.1) (within_is hb.1.2.1), rfl⟩
  · match a, xs, la, lx with
    | [x], [], _, _ => exact ⟨_, .cross x (each1 rfl hb), rfl⟩
/-- the calls of a list, each with its numbers -/
abbrev Sg := List Int × Vahype.Call
def playK : Vahype.Obj → List Sg → List (List Int)
  | _, [] => []
  | o, g :: r => VahypeNeutral.encode (Vahype.step o g.2).2 :: playK (Vahype.step o g.2).1 r
theorem segs_of : ∀ {cs : List (List (List Int))}, (∀ c ∈ cs, PyFlat.okCall PyVahype.shape c) → cs.all (PyInside.call PyVahype.bound) = true →
    ∃ sg : List Sg, PyFlat.put cs = sg.flatMap (·.1) ∧ (∀ g ∈ sg, Seg g.1 g.2) ∧ sg.length = cs.length ∧ ∀ o, PyFlat.played VahypeNeutral.step o (cs.map PyVahype.whole) = playK o sg
  | [], _, _ => ⟨[], rfl, nofun, rfl, fun _ => rfl⟩
  | c :: cs, h, hb => by
    rw [List.all_cons, Bool.and_eq_true] at hb
    obtain ⟨sg, e1, e2, e3, e4⟩ := segs_of (fun d hd => h d (.tail _ hd)) hb.2
    obtain ⟨k, hk, ek⟩ := seg_of (h c (.head _)) hb.1
    refine ⟨(PyFlat.put1 c, k) :: sg, ?_, fun g hg => ?_, congrArg (· + 1) e3, fun o => ?_⟩
    · show PyFlat.put1 c ++ PyFlat.put cs = PyFlat.put1 c ++ sg.flatMap (·.1)
      rw [e1]
    · rcases List.mem_cons.mp hg with rfl | hg
      · exact hk
      · exact e2 g hg
    · rw [List.map_cons, whole_id]
      have es : VahypeNeutral.step o c = ((Vahype.step o k).1, VahypeNeutral.encode (Vahype.step o k).2) := by
        unfold VahypeNeutral.step
        rw [ek]
      show (VahypeNeutral.step o c).2 :: PyFlat.played VahypeNeutral.step (VahypeNeutral.step o c).1 (cs.map PyVahype.whole) = _
      rw [es, e4]
      rfl
theorem asked_is {l : List Int} (h : PyVahype.answers_asked l = true) : ∃ sg : List Sg, l = sg.flatMap (·.1) ∧ (∀ g ∈ sg, Seg g.1 g.2) ∧ 1 ≤ sg.length ∧ sg.length ≤ 12 ∧ PyVahype.answers l = PyFlat.told (playK none sg) ∧ (PyVahype.answers l).length ≤ 10000000 := by
  unfold PyVahype.answers_asked at h
  cases hc : PyFlat.calls PyVahype.shape l.length l with
  | none =>
    rw [hc] at h
    cases h
  | some raw =>
    rw [hc] at h
    simp only [Bool.and_eq_true, Bool.not_eq_true'] at h
    obtain ⟨⟨⟨⟨ne, most⟩, inside⟩, _⟩, short⟩ := h
    obtain ⟨e, ok⟩ := PyFlat.put_calls _ _ _ hc
    obtain ⟨sg, e1, e2, e3, e4⟩ := segs_of ok inside
    have lr : 1 ≤ raw.length := by
      cases raw with
      | nil => cases ne
      | cons _ _ => simp
    unfold PyFlat.atMost at most
    unfold PyFlat.short at short
    refine ⟨sg, e.trans e1, e2, by omega, by rw [e3]; exact of_decide_eq_true most, ?_, of_decide_eq_true short⟩
    unfold PyVahype.answers PyVahype.calls
    rw [hc]
    show PyFlat.told (PyFlat.played VahypeNeutral.step VahypeNeutral.start (raw.map PyVahype.whole)) = _
    rw [e4]
    rfl
end WG
set_option Elab.async false
set_option linter.all false
set_option maxRecDepth 100000
set_option maxHeartbeats 2000000
namespace WG
open PySem PySem.Spec PyProof.Rows L2
/-! ### answer_conflicts -/
/-- a new list of these numbers is handed back -/
def Out (H : Hp) (Q : VK) (l : List Int) : Prop := ∀ H' r, Same H H' → H r = none → H' r = some (.lst (l.map V.int)) → Q (.ref r) H'
theorem Out.on {H H1 : Hp} {Q : VK} {l : List Int} (k : Out H Q l) (e : Same H H1) : Out H1 Q l := fun H' r e2 hr h => k H' r (e.trans e2) (e.free hr) h
theorem Out.now {H : Hp} {Q : VK} {l : List Int} {vs : List V} (k : Out H Q l) (e : l.map V.int = vs) : ∀ p, H p = none → Q (.ref p) (upd H p (.lst vs)) := fun p hp => k _ p (same_upd hp) hp (by rw [upd_same, e])
def sp_told (D : Ads) (arg : List V → Vahypa.Lst → List Int → Prop) : Sp := fun vs H Q _ => ∃ a s rest l, vs = .ref a :: rest ∧ ListAt D H a s ∧ Read s ∧ arg rest s l ∧ Out H Q l
/-- what conflicts, leftout and evidence answer -/
def ansOf (s : Vahypa.Lst) (c : Vahype.Call) : List Int := VahypeNeutral.encode (Vahype.looked s c)
theorem far_out {n : Int} {f : Nat → VahypBase.Answer} (h : ¬ (0 ≤ n ∧ n ≤ 6)) : Vahype.withFar n f = VahypBase.one (-3) := by
  unfold Vahype.withFar VahypBase.index Vahype.FAR
  rw [if_neg (by omega)]
theorem far_in {n : Int} {f : Nat → VahypBase.Answer} (h : 0 ≤ n ∧ n ≤ 6) : Vahype.withFar n f = f n.toNat := by
  unfold Vahype.withFar VahypBase.index Vahype.FAR
  rw [if_pos (by omega)]
abbrev s_answer_conflicts : Stmt := top 77
abbrev N_answer_conflicts : List Str := ["wordlist", "n", "found", "answer", "first", "second"]
theorem sc_answer_conflicts : FnScope N_answer_conflicts ["wordlist", "n"] (defScope s_answer_conflicts) := ⟨rfl, rfl, rfl, by decide +kernel, rfl, by decide +kernel, by decide +kernel⟩
def sp_answer_conflicts (D : Ads) : Sp := fun vs H Q _ => ∃ a s n, vs = [.ref a, .int n] ∧ ListAt D H a s ∧ Read s ∧ Out H Q (ansOf s (.conflicts n))
section
variable {P : Program} {w : World} {K : PySem.W.Frag} {mg : Str → Option Value} {base : Heap} {D : Ads}
theorem df_answer_conflicts {f : Addr} {fd : FuncData} (F : At K mg "answer_conflicts" s_answer_conflicts ["wordlist", "n"] f fd) (T : Txt K mg D)
    (c_find_contradictions : Df P w K mg base CX0 2 "find_contradictions" ["wordlist", "length"] (sp_find_contradictions D)) : Df P w K mg base CX0 3 "answer_conflicts" ["wordlist", "n"] (sp_answer_conflicts D) := by
  refine df0 (N := N_answer_conflicts) F sc_answer_conflicts (fun vs H Q E h => ?_) (fun cdv A outer s H vs Q E hr h => ⟨_, (pss_cons (ps_if (pt_not (pt_chain op_le op_le pe_int (pv 1) pe_int))
(pss_one (ps_ret (pe_lst (pa_cons (pe_un un_neg pe_int) pa_nil))))
pss_nil)
(pss_cons (ps_set (i := 2) sc_answer_conflicts.nd rfl (Or.inl rfl) (pe_d0 c_find_contradictions hr (by decide) rfl (pa_cons (pv 0) (pa_cons (pv 1) pa_nil))))
(pss_cons (ps_set (i := 3) sc_answer_conflicts.nd rfl (Or.inl rfl) (pe_lst (pa_cons (pe_callB call_len_seq (by rfl) T.n_len (by decide +kernel) (pa_cons (pv 2) pa_nil)) pa_nil)))
(pss_cons (ps_if (pt_cmpR op_gt (pe_callB call_len_seq (by rfl) T.n_len (by decide +kernel) (pa_cons (pv 2) pa_nil)) pe_int (nomark _))
(pss_cons (ps_asg (pe_ix ix_list (pv 2) pe_int (fun _ _ => rfl)) (pg_tup rfl (pgs_cons (pg_name (i := 4) sc_answer_conflicts.nd rfl (Or.inl rfl)) (pgs_cons (pg_name (i := 5) sc_answer_conflicts.nd rfl (Or.inl rfl)) pgs_nil))))
(pss_one (ps_expr (pe_bm PySem.F.plainAttrs_list PySem.F.slot_list_extend PySem.F.type_list_extend mt_extend (pv 3) (pa_cons (pe_lst (pa_cons (pe_ix ix_tup (pv 4) pe_int (fun _ _ => rfl)) (pa_cons (pe_ix ix_tup (pv 4) pe_int (fun _ _ => rfl)) (pa_cons (pe_ix ix_tup (pv 5) pe_int (fun _ _ => rfl)) (pa_cons (pe_ix ix_tup (pv 5) pe_int (fun _ _ => rfl)) pa_nil))))) pa_nil)))))
pss_nil)
(pss_one (ps_ret (pv 3))))))), ?_⟩)
  · obtain ⟨a, s, n, rfl, _⟩ := h
    rfl
  · obtain ⟨a, s, n, rfl, hL, hR, k⟩ := h
    unfold ansOf Vahype.looked at k
    dsimp only at k
    by_cases far : 0 ≤ n ∧ n ≤ 6
    · rw [far_in far] at k
      refine chain_le (fun _ h => ⟨_, rfl, h⟩) ?_
      refine iteF' (by rw [decide_eq_true far]; rfl) ?_
      obtain ⟨m, rfl⟩ : ∃ m : Nat, n = (m : Int) := ⟨n.toNat, by omega⟩
      rw [Int.toNat_natCast] at k
      -- found = find_contradictions(wordlist, n)
      refine ⟨_, rfl, _, rfl, a, s, m, rfl, hL, hR.fine, fun H1 l e1 nl ⟨cs, hl, hcs⟩ => ?_⟩
      have clen : cs.length = (Vahype.conflicts s m).length := by rw [hcs.length, cons_is, List.length_map]
      refine ⟨_, rfl, l, _, rfl, .inl (SqL.of hl), by show 1 ≤ sizeLine; decide, fun r hr1 => ?_⟩
      have e2 : Same H1 (upd H1 r (.lst [.int (cs.map V.ref).length])) := same_upd hr1
      refine ⟨_, rfl, l, _, rfl, .inl (SqL.of (e2 _ _ hl)), _, _, rfl, rfl, _, rfl, ?_⟩
      cases hc : Vahype.conflicts s m with
      | nil =>
        rw [hc] at k clen
        have c0 : cs = [] := List.eq_nil_of_length_eq_zero clen
        subst c0
        refine iteF' (by decide) ?_
        exact ⟨_, rfl, (k.on e1).now rfl r hr1⟩
      | cons c rest =>
        rw [hc] at k clen
        have hpc : (consP s m)[0]? = some (pr c.1, pr c.2) := by
          rw [cons_is, hc]
          rfl
        obtain ⟨t, ht, b1, b2, k1, k2, k3⟩ := pget2 hcs hpc
        have k1 := e2 _ _ k1
        have k2 : PairAt _ b1 _ := e2 _ _ k2
        have k3 : PairAt _ b2 _ := e2 _ _ k3
        have pos : (0 : Int) < ((cs.map V.ref).length : Nat) := by
          rw [List.length_map, clen, List.length_cons]
          omega
        refine iteT' (decide_eq_true pos) ?_
        refine ⟨_, rfl, l, _, _, .ref t, rfl, rfl, SqL.of (e2 _ _ hl), atI_nat (j := 0) (by rw [List.getElem?_map, ht] <;> rfl), t, _, rfl, SqT.of k1, rfl, _, _, rfl, _, _, rfl, rfl, ?_⟩
        refine ⟨_, rfl, .inl ⟨rfl, _, SqL.of upd_same⟩, _, rfl, b1, _, 0, _, rfl, rfl, SqT.of k2, rfl, _, rfl, b1, _, 1, _, rfl, rfl, SqT.of k2, rfl, _, rfl, b2, _, 0, _, rfl, rfl, SqT.of k3, rfl, _, rfl, b2, _, 1, _, rfl, rfl, SqT.of k3, rfl, by show 4 ≤ sizeLine; decide, fun q hq => ?_⟩
        have nrq : r ≠ q := ne_of_none upd_same hq
        refine ⟨r, q, _, _, rfl, rfl, (upd_ne nrq).trans upd_same, upd_same, by show 1 + 4 ≤ sizeLine; decide, _, rfl, ?_⟩
        refine k _ r (fun b u hb => ?_) (e1.free hr1) ?_
        · have hb1 := e1 _ _ hb
          have nbr := ne_of_none hb1 hr1
          have hb2 := e2 _ _ hb1
          rw [upd_ne nbr, upd_ne (ne_of_none hb2 hq)]
          exact hb2
        · rw [upd_same, List.length_map, clen]
          rfl
    · rw [far_out far] at k
      refine chain_le (fun _ h => ⟨_, rfl, h⟩) ?_
      refine iteT' (by rw [decide_eq_false far]; rfl) ?_
      exact ⟨_, rfl, by show 1 ≤ sizeLine; decide, k.now rfl⟩
end
end WG
set_option Elab.async false
set_option linter.all false
set_option maxRecDepth 100000
set_option maxHeartbeats 2000000
namespace WG
open PySem PySem.Spec PyProof.Rows L2
/-! ### answer_leftout -/
abbrev s_answer_leftout : Stmt := top 78
abbrev N_answer_leftout : List Str := ["wordlist", "n", "chosen"]
theorem sc_answer_leftout : FnScope N_answer_leftout ["wordlist", "n"] (defScope s_answer_leftout) := ⟨rfl, rfl, rfl, by decide +kernel, rfl, by decide +kernel, by decide +kernel⟩
def sp_answer_leftout (D : Ads) : Sp := fun vs H Q _ => ∃ a s n, vs = [.ref a, .int n] ∧ ListAt D H a s ∧ Read s ∧ Out H Q (ansOf s (.leftOut n))
theorem nv_int (l : List Nat) : (VahypBase.nats l).map V.int = nv l := by
  unfold VahypBase.nats nv
  rw [List.map_map]
  rfl
theorem rowsBy_few {n : Nat} {r : List Nat} (h : r ∈ Vahype.rowsBy n) : r.length ≤ n := rowsBy_mem n r h
section
variable {P : Program} {w : World} {K : PySem.W.Frag} {mg : Str → Option Value} {base : Heap} {D : Ads}
theorem df_answer_leftout {f : Addr} {fd : FuncData} (F : At K mg "answer_leftout" s_answer_leftout ["wordlist", "n"] f fd) (T : Txt K mg D)
    (c_find_left_out : Df P w K mg base CX0 3 "find_left_out" ["wordlist", "length"] (sp_find_left_out D)) : Df P w K mg base CX0 4 "answer_leftout" ["wordlist", "n"] (sp_answer_leftout D) := by
  refine df0 (N := N_answer_leftout) F sc_answer_leftout (fun vs H Q E h => ?_) (fun cdv A outer s H vs Q E hr h => ⟨_, (pss_cons (ps_if (pt_not (pt_chain op_le op_le pe_int (pv 1) pe_int))
(pss_one (ps_ret (pe_lst (pa_cons (pe_un un_neg pe_int) pa_nil))))
pss_nil)
(pss_cons (ps_if (pt_cmpR op_gt (pe_callB call_len_seq (by rfl) T.n_len (by decide +kernel) (pa_cons (pe_fld (pv 0) rfl) pa_nil)) (C8.pe_gc rfl T.c_MOST_WORDS_TO_LEAVE_OUT) (nomark _))
(pss_one (ps_ret (pe_lst (pa_cons (pe_un un_neg pe_int) pa_nil))))
pss_nil)
(pss_cons (ps_set (i := 2) sc_answer_leftout.nd rfl (Or.inl rfl) (pe_d0 c_find_left_out hr (by decide) rfl (pa_cons (pv 0) (pa_cons (pv 1) pa_nil))))
(pss_one (ps_ret (pe_op op_cat (pe_lst (pa_cons (pe_callB call_len_seq (by rfl) T.n_len (by decide +kernel) (pa_cons (pv 2) pa_nil)) pa_nil)) (pv 2))))))), ?_⟩)
  · obtain ⟨a, s, n, rfl, _⟩ := h
    rfl
  · obtain ⟨a, s, n, rfl, hL, hR, k⟩ := h
    unfold ansOf Vahype.looked at k
    dsimp only at k
    by_cases far : 0 ≤ n ∧ n ≤ 6
    · rw [far_in far] at k
      refine chain_le (fun _ h => ⟨_, rfl, h⟩) ?_
      refine iteF' (by rw [decide_eq_true far]; rfl) ?_
      obtain ⟨m, rfl⟩ : ∃ m : Nat, n = (m : Int) := ⟨n.toNat, by omega⟩
      rw [Int.toNat_natCast] at k
      obtain ⟨dx, wl, ppl, h1, ⟨ws, h2, h2p⟩, h3⟩ := id hL
      have wlen : (ws.map V.ref).length = s.words.length := by rw [List.length_map, h2p.length]
      refine ⟨_, rfl, a, D.cL, dx, _, _, rfl, h1, T.kL, T.lW, fL_words _ _ _ _, wl, _, rfl, .inl (SqL.of h2), _, _, rfl, rfl, _, rfl, ?_⟩
      rw [wlen]
      by_cases few : 10 < s.words.length
      · refine iteT' (decide_eq_true (by omega)) ?_
        rw [if_pos (by unfold Vahype.FEW; exact few)] at k
        exact ⟨_, rfl, by show 1 ≤ sizeLine; decide, k.now rfl⟩
      · refine iteF' (decide_eq_false (by omega)) ?_
        rw [if_neg (by unfold Vahype.FEW; exact few)] at k
        refine ⟨_, rfl, _, rfl, a, s, m, rfl, hL, hR.fine, by omega, fun H1 r cs e1 hc left => ?_⟩
        rw [left_is left] at k
        have few2 : cs.length ≤ 10 := by
          obtain ⟨i, hi, _⟩ := left
          have := rowsBy_few (List.mem_filter.mp (List.mem_of_getElem? hi)).1
          omega
        have hc : H1 r = some (.lst (nv cs)) := hc
        refine ⟨_, rfl, r, _, rfl, .inl (SqL.of hc), by show 1 ≤ sizeLine; decide, fun u hu => ?_⟩
        have nru : r ≠ u := ne_of_none hc hu
        refine ⟨_, rfl, u, r, _, _, rfl, rfl, upd_same, (upd_ne nru).trans hc, ?_, fun q hq => ?_⟩
        · show 1 + (nv cs).length ≤ sizeLine
          unfold nv
          rw [List.length_map]
          exact Nat.le_trans (by omega : 1 + cs.length ≤ 11) (by decide)
        · have e2 : Same H1 (upd H1 u (.lst [.int (nv cs).length])) := same_upd hu
          refine (k.on (e1.trans e2)).now ?_ q hq
          show V.int (cs.length : Nat) :: (VahypBase.nats cs).map V.int = [V.int (nv cs).length] ++ nv cs
          rw [nv_int]
          unfold nv
          rw [List.length_map]
          rfl
    · rw [far_out far] at k
      refine chain_le (fun _ h => ⟨_, rfl, h⟩) ?_
      refine iteT' (by rw [decide_eq_false far]; rfl) ?_
      exact ⟨_, rfl, by show 1 ≤ sizeLine; decide, k.now rfl⟩
end
end WG
set_option Elab.async false
set_option linter.all false
set_option maxRecDepth 100000
set_option maxHeartbeats 2000000
namespace WG
open Vahype (Spot spotsOf)
open Vahypa (Pat)
open VahypBase (Bytes)
/-! ### goals are the spots that may be parted -/
theorem asc_ext : ∀ {l m : List Nat}, l.Pairwise (· < ·) → m.Pairwise (· < ·) → (∀ x, x ∈ l ↔ x ∈ m) → l = m
  | [], [], _, _, _ => rfl
  | [], y :: m, _, _, h => absurd ((h y).2 (.head _)) (by simp)
  | x :: l, [], _, _, h => absurd ((h x).1 (.head _)) (by simp)
  | x :: l, y :: m, h1, h2, h => by
    obtain ⟨a1, a2⟩ := List.pairwise_cons.mp h1
    obtain ⟨b1, b2⟩ := List.pairwise_cons.mp h2
    have e : x = y := by
      rcases List.mem_cons.mp ((h x).1 (.head _)) with e | q
      · exact e
      · rcases List.mem_cons.mp ((h y).2 (.head _)) with e | q2
        · exact e.symm
        · have := b1 x q
          have := a1 y q2
          omega
    subst e
    congr 1
    refine asc_ext a2 b2 fun z => ⟨fun hz => ?_, fun hz => ?_⟩
    · rcases List.mem_cons.mp ((h z).1 (.tail _ hz)) with e | q
      · have := a1 z hz
        omega
      · exact q
    · rcases List.mem_cons.mp ((h z).2 (.tail _ hz)) with e | q
      · have := b1 z hz
        omega
      · exact q
theorem range_asc (n : Nat) : (List.range n).Pairwise (· < ·) := by first | exact List.pairwise_lt_range | exact List.pairwise_lt_range _
theorem gaps_asc (x : Bytes) : (Vahypa.gaps x).Pairwise (· < ·) := List.pairwise_map.mpr (List.Pairwise.imp (fun {a b} (h : a < b) => Nat.succ_lt_succ h) (range_asc _))
theorem gaps_mem {x : Bytes} {g : Nat} : g ∈ Vahypa.gaps x ↔ 1 ≤ g ∧ g < x.length := by
  unfold Vahypa.gaps
  rw [List.mem_map]
  constructor
  · rintro ⟨k, hk, rfl⟩
    have := List.mem_range.mp hk
    omega
  · rintro ⟨h1, h2⟩
    exact ⟨g - 1, List.mem_range.mpr (by omega), by omega⟩
theorem cuts_gaps {w : Vahypa.Word} (h : WordOk w) (p : Nat → Bool) : w.cuts.filter p = ((Vahypa.gaps w.x).filter p).filter fun g => w.cuts.contains g := by
  refine asc_ext (h.asc.filter _) (((gaps_asc w.x).filter _).filter _) fun x => ?_
  simp only [List.mem_filter, List.contains_eq_mem, decide_eq_true_eq]
  constructor
  · rintro ⟨a, b⟩
    exact ⟨⟨gaps_mem.mpr (h.cut x a), b⟩, a⟩
  · rintro ⟨⟨_, b⟩, a⟩
    exact ⟨a, b⟩
def goalOf (o : Nat × Nat) : Vahypc.Goal := ⟨o.1, o.2⟩
def goalsP (s : Vahypa.Lst) : List (Nat × Nat) := (spotsP s).filter (yesP s)
theorem goals_is {s : Vahypa.Lst} (h : Read s) : Vahypc.goals s = (goalsP s).map goalOf := by
  have e : goalsP s = ((spotsOf s).filter fun a => a.yes).map pr := by
    unfold goalsP
    have es : spotsP s = (spotsOf s).map pr := rfl
    rw [es, List.filter_map]
    congr 1
    exact List.filter_congr fun a ha => yes_is ha
  rw [e]
  unfold Vahypc.goals spotsOf
  rw [List.filter_flatMap, List.map_flatMap, List.map_flatMap]
  refine flatMap_on fun w hw => ?_
  obtain ⟨w, i⟩ := w
  have hm : w ∈ s.words := by
    have q := List.mem_zipIdx' hw
    rw [q.2]
    exact List.getElem_mem _
  dsimp only
  rw [cuts_gaps (h.word w hm), List.filter_map, List.map_map, List.map_map]
  rfl
/-! ### what pieces part -/
def PcOk (p : Pc) : Prop := 1 ≤ p.1.length ∧ p.2.1 ≤ p.1.length
theorem max_one : ∀ (l : List Nat) (f : Nat → Nat) (m : Nat), (∀ o, f o ≤ 1) → m ≤ 1 → l.foldl (fun m o => Nat.max m (f o)) m = if (m == 1 || l.any fun o => f o == 1) = true then 1 else 0
  | [], f, m, _, hm => by
    rw [List.foldl_nil, List.any_nil, Bool.or_false]
    by_cases c : m = 1
    · rw [c]
      rfl
    · rw [if_neg (by simpa using c)]
      omega
  | o :: l, f, m, hf, hm => by
    have h1 := hf o
    have e : (Nat.max m (f o) == 1) = (m == 1 || f o == 1) := by
      rw [Bool.eq_iff_iff, Bool.or_eq_true, beq_iff_eq, beq_iff_eq, beq_iff_eq]
      rcases Nat.le_total m (f o) with z | z
      · rw [show Nat.max m (f o) = f o from Nat.max_eq_right z]
        omega
      · rw [show Nat.max m (f o) = m from Nat.max_eq_left z]
        omega
    rw [List.foldl_cons, max_one l f _ hf (Nat.max_le.mpr ⟨hm, h1⟩), List.any_cons, e, Bool.or_assoc]
theorem tells_le (p : Pc) (x : Bytes) (o g : Nat) : Vahypa.tells (patP p) x o g ≤ 1 := by
  unfold Vahypa.tells
  split
  · rw [lev_is]
    split <;> omega
  · omega
theorem level_from (x : Bytes) (g : Nat) : ∀ (ps : List Pc) (m : Nat), (∀ p ∈ ps, PcOk p) → m ≤ 1 →
    (ps.map patP).foldl (fun m p => (List.range (x.length + 1)).foldl (fun m o => Nat.max m (Vahypa.tells p x o g)) m) m = if (m == 1 || ps.any fun p => fitsP p x g) = true then 1 else 0
  | [], m, _, hm => by
    rw [List.map_nil, List.foldl_nil, List.any_nil, Bool.or_false]
    by_cases c : m = 1
    · rw [c]
      rfl
    · rw [if_neg (by simpa using c)]
      omega
  | p :: ps, m, h, hm => by
    have e : ∀ b : Bool, ((if b = true then 1 else 0) == 1) = b := fun b => by cases b <;> rfl
    rw [List.map_cons, List.foldl_cons, max_one _ _ m (fun o => tells_le p x o g) hm, level_from x g ps _ (fun q hq => h q (.tail _ hq)) (by split <;> omega), e, tells_is (h p (.head _)).1 (h p (.head _)).2, List.any_cons, Bool.or_assoc]
theorem level_is {ps : List Pc} (h : ∀ p ∈ ps, PcOk p) (x : Bytes) (g : Nat) : (Vahypa.levelAt (ps.map patP) x g % 2 == 1) = ps.any fun p => fitsP p x g := by
  unfold Vahypa.levelAt
  rw [level_from x g ps 0 h (Nat.zero_le _)]
  cases hc : ps.any fun p => fitsP p x g <;> simp
theorem parts_is {ps : List Pc} (h : ∀ p ∈ ps, PcOk p) (s : Vahypa.Lst) (x : Bytes) : Vahypa.partsBy s (ps.map patP) x = (Vahypa.gaps x).filter fun g => (ps.any fun p => fitsP p x g) && Vahypa.within s x g := by
  unfold Vahypa.partsBy
  refine List.filter_congr fun g _ => ?_
  rw [level_is h]
theorem parts_one {p : Pc} (h : PcOk p) (s : Vahypa.Lst) (x : Bytes) : Vahypa.partsBy s [patP p] x = (Vahypa.gaps x).filter fun g => fitsP p x g && Vahypa.within s x g := by
  have q := parts_is (ps := [p]) (fun z hz => by rw [List.mem_singleton.mp hz]; exact h) s x
  rw [show [patP p] = [p].map patP from rfl, q]
  refine List.filter_congr fun g _ => ?_
  rw [List.any_cons, List.any_nil, Bool.or_false]
/-- a piece is good: no spot that may not be parted is met -/
theorem good_is {p : Pc} (h : PcOk p) (s : Vahypa.Lst) : Vahypc.good s (patP p) = (spotsP s).all fun o => yesP s o || !fitsP p (Vahypc.wordAt s o.1) o.2 := by
  have es : spotsP s = (spotsOf s).map pr := rfl
  rw [es, List.all_map, Bool.eq_iff_iff]
  unfold Vahypc.good
  rw [List.all_eq_true, List.all_eq_true]
  constructor
  · intro hw a ha
    obtain ⟨w, e, hy, g1, g2, l1, l2⟩ := spot_at ha
    have q := List.all_eq_true.mp (hw w (List.mem_of_getElem? e)) a.g
    show (yesP s (pr a) || !fitsP p (Vahypc.wordAt s a.w) a.g) = true
    rw [yes_is ha, hy, wordAt_of e, parts_one h] at *
    cases hf : fitsP p w.x a.g with
    | false => simp
    | true =>
      have := q (List.mem_filter.mpr ⟨gaps_mem.mpr ⟨g1, g2⟩, by rw [hf]; unfold Vahypa.within; simp [l1, l2]⟩)
      rw [this]
      rfl
  · intro ha w hw
    rw [List.all_eq_true]
    intro g hg
    rw [parts_one h] at hg
    obtain ⟨g1, g2⟩ := List.mem_filter.mp hg
    rw [Bool.and_eq_true] at g2
    obtain ⟨i, hi⟩ := List.mem_iff_getElem?.mp hw
    have hs : (⟨i, g, w.cuts.contains g⟩ : Spot) ∈ spotsOf s := List.mem_flatMap.mpr ⟨(w, i), List.mem_zipIdx_iff_getElem?.mpr hi, List.mem_map.mpr ⟨g, List.mem_filter.mpr ⟨g1, g2.2⟩, rfl⟩⟩
    have q := ha _ hs
    have q : (yesP s (i, g) || !fitsP p (Vahypc.wordAt s i) g) = true := q
    rw [wordAt_of hi, g2.1] at q
    unfold yesP at q
    rw [hi] at q
    simpa using q
/-- a goal is covered where the piece fits so -/
theorem parts1_is {p : Pc} (h : PcOk p) {s : Vahypa.Lst} {o : Nat × Nat} (ho : o ∈ goalsP s) : Vahypc.parts1 s (patP p) (goalOf o) = fitsP p (Vahypc.wordAt s o.1) o.2 := by
  obtain ⟨a, ha, rfl⟩ := List.mem_map.mp (List.mem_filter.mp ho).1
  obtain ⟨w, e, hy, g1, g2, l1, l2⟩ := spot_at ha
  unfold Vahypc.parts1 goalOf
  rw [parts_one h, Bool.eq_iff_iff]
  simp only [List.contains_eq_mem, decide_eq_true_eq, List.mem_filter, Bool.and_eq_true]
  rw [wordAt_of e]
  constructor
  · rintro ⟨_, q, _⟩
    exact q
  · intro q
    exact ⟨gaps_mem.mpr ⟨g1, g2⟩, q, by unfold Vahypa.within; simp [l1, l2]⟩
end WG
set_option Elab.async false
set_option linter.all false
set_option maxRecDepth 100000
set_option maxHeartbeats 2000000
namespace WG
open Vahypa (Pat)
open VahypBase (Bytes)
/-! ### pieces as patterns: told apart, their bytes -/
theorem patP_inj {p q : Pc} (hp : PcOk p) (hq : PcOk q) (e : patP p = patP q) : p = q := by
  have e1 : p.2.2.1 = q.2.2.1 := congrArg Pat.front e
  have e2 : p.1 = q.1 := congrArg Pat.x e
  have e3 : p.2.2.2 = q.2.2.2 := congrArg Pat.halt_ e
  have l : (patP p).levels[p.2.1]?.getD 0 = (patP q).levels[p.2.1]?.getD 0 := by rw [e]
  rw [lev_is, lev_is, if_pos ⟨hp.2, rfl⟩] at l
  have e4 : p.2.1 = q.2.1 := by
    by_cases c : p.2.1 ≤ q.1.length ∧ p.2.1 = q.2.1
    · exact c.2
    · rw [if_neg c] at l
      cases l
  exact Prod.ext e2 (Prod.ext e4 (Prod.ext e1 e3))
theorem digit_one : (Vahypa.digit 1).length = 1 := by decide +kernel
theorem digit_zero : (Vahypa.digit 0).length = 0 := by decide +kernel
theorem digits_len (f : Nat → Nat) (b : Nat) (hf : ∀ k, f k = if k = b then 1 else 0) : ∀ (x : Bytes) (i : Nat), ((x.zipIdx i).flatMap fun c => Vahypa.digit (f c.2) ++ [c.1]).length = x.length + if i ≤ b ∧ b < i + x.length then 1 else 0
  | [], i => by
    rw [List.zipIdx_nil, List.flatMap_nil, List.length_nil, if_neg (by omega)]
  | c :: x, i => by
    rw [List.zipIdx_cons, List.flatMap_cons, List.length_append, digits_len f b hf x (i + 1), List.length_append, List.length_singleton, List.length_cons]
    dsimp only
    rw [hf]
    by_cases c1 : i = b
    · rw [if_pos c1, digit_one, if_neg (by omega), if_pos (by omega)]
      omega
    · rw [if_neg c1, digit_zero]
      by_cases c2 : i + 1 ≤ b ∧ b < i + 1 + x.length
      · rw [if_pos c2, if_pos (by omega)]
        omega
      · rw [if_neg c2, if_neg (by omega)]
        omega
/-- a piece's bytes: its letters, the 1, the points -/
def pcBytes (p : Pc) : Nat := p.1.length + 1 + (if p.2.2.1 = true then 1 else 0) + (if p.2.2.2 = true then 1 else 0)
theorem bytes_is {p : Pc} (h : PcOk p) : Vahypc.bytesOf (patP p) = pcBytes p := by
  unfold Vahypc.bytesOf Vahypa.showPat pcBytes
  have hf : ∀ k, k ≤ p.1.length → (patP p).levels[k]?.getD 0 = if k = p.2.1 then 1 else 0 := fun k hk => by
    rw [lev_is]
    by_cases c : k = p.2.1
    · rw [if_pos ⟨hk, c⟩, if_pos c]
    · rw [if_neg (fun q => c q.2), if_neg c]
  have ex : (patP p).x = p.1 := rfl
  have ef : (patP p).front = p.2.2.1 := rfl
  have eh : (patP p).halt_ = p.2.2.2 := rfl
  rw [ex, ef, eh]
  have same : (p.1.zipIdx.flatMap fun c => Vahypa.digit ((patP p).levels[c.2]?.getD 0) ++ [c.1]) = p.1.zipIdx.flatMap fun c => Vahypa.digit (if c.2 = p.2.1 then 1 else 0) ++ [c.1] := flatMap_on fun c hc => by
    have := List.mem_zipIdx' hc
    rw [hf c.2 (by omega)]
  rw [same, hf p.1.length (Nat.le_refl _)]
  have q := digits_len (fun k => if k = p.2.1 then 1 else 0) p.2.1 (fun _ => rfl) p.1 0
  simp only [List.length_append]
  rw [q]
  have l1 : (if p.2.2.1 = true then ([46] : Bytes) else []).length = if p.2.2.1 = true then 1 else 0 := by split <;> rfl
  have l2 : (if p.2.2.2 = true then ([46] : Bytes) else []).length = if p.2.2.2 = true then 1 else 0 := by split <;> rfl
  rw [l1, l2]
  have := h.2
  by_cases c : p.1.length = p.2.1
  · rw [if_neg (show ¬ (0 ≤ p.2.1 ∧ p.2.1 < 0 + p.1.length) by omega), if_pos c, digit_one]
    omega
  · rw [if_pos (show 0 ≤ p.2.1 ∧ p.2.1 < 0 + p.1.length by omega), if_neg c, digit_zero]
    omega
/-! ### the family -/
def putP (l : List Pc) (p : Pc) : List Pc := if l.contains p = true then l else l ++ [p]
def goodP (s : Vahypa.Lst) (p : Pc) : Bool := (spotsP s).all fun o => yesP s o || !fitsP p (Vahypc.wordAt s o.1) o.2
def aroundP (s : Vahypa.Lst) (m : Nat) : List Pc := (goalsP s).flatMap fun o => pcs (Vahypc.wordAt s o.1) o.2 m
def famP (s : Vahypa.Lst) (m : Nat) : List Pc := ((aroundP s m).foldl putP []).filter (goodP s)
theorem put_is : ∀ (l acc : List Pc), (∀ p ∈ acc, PcOk p) → (∀ p ∈ l, PcOk p) → (l.map patP).foldl Vahypc.putNew (acc.map patP) = (l.foldl putP acc).map patP ∧ ∀ p ∈ l.foldl putP acc, PcOk p
  | [], acc, h, _ => ⟨rfl, h⟩
  | p :: l, acc, h, hl => by
    have hp := hl p (.head _)
    have e : Vahypc.putNew (acc.map patP) (patP p) = (putP acc p).map patP := by
      unfold Vahypc.putNew putP
      have ec : (acc.map patP).contains (patP p) = acc.contains p := by
        rw [Bool.eq_iff_iff]
        simp only [List.contains_eq_mem, decide_eq_true_eq]
        constructor
        · intro q
          obtain ⟨z, hz, ez⟩ := List.mem_map.mp q
          rw [← patP_inj (h z hz) hp ez]
          exact hz
        · intro q
          exact List.mem_map.mpr ⟨p, q, rfl⟩
      rw [ec]
      split
      · rfl
      · rw [List.map_append]
        rfl
    have h2 : ∀ q ∈ putP acc p, PcOk q := fun q hq => by
      unfold putP at hq
      split at hq
      · exact h q hq
      · rcases List.mem_append.mp hq with hq | hq
        · exact h q hq
        · rw [List.mem_singleton.mp hq]
          exact hp
    rw [List.map_cons, List.foldl_cons, e]
    exact put_is l (putP acc p) h2 fun q hq => hl q (.tail _ hq)
theorem around_ok {s : Vahypa.Lst} {m : Nat} {p : Pc} (h : p ∈ aroundP s m) : PcOk p := by
  obtain ⟨o, ho, hp⟩ := List.mem_flatMap.mp h
  obtain ⟨w, hw, _, g2, _⟩ := spots_in (List.mem_filter.mp ho).1
  rw [wordAt_of hw] at hp
  exact pcs_ok (Nat.le_of_lt g2) hp
theorem fam_ok {s : Vahypa.Lst} {m : Nat} {p : Pc} (h : p ∈ famP s m) : PcOk p :=
  (put_is (aroundP s m) [] nofun fun q hq => around_ok hq).2 p (List.mem_filter.mp h).1
theorem family_is {s : Vahypa.Lst} (h : Read s) (m : Nat) : Vahypc.family s m = (famP s m).map patP := by
  unfold Vahypc.family
  have e : ((Vahypc.goals s).flatMap fun x => Vahypc.piecesAt (Vahypc.wordAt s x.w) m x.g) = (aroundP s m).map patP := by
    rw [goals_is h, List.flatMap_map]
    unfold aroundP
    rw [List.map_flatMap]
    refine flatMap_on fun o ho => ?_
    obtain ⟨w, hw, _, g2, _⟩ := spots_in (List.mem_filter.mp ho).1
    show Vahypc.piecesAt (Vahypc.wordAt s o.1) m o.2 = _
    rw [wordAt_of hw]
    exact pieces_is (Nat.le_of_lt g2) m
  obtain ⟨q, ok⟩ := put_is (aroundP s m) [] nofun fun q hq => around_ok hq
  rw [e, show ((aroundP s m).map patP).foldl Vahypc.putNew [] = ((aroundP s m).foldl putP []).map patP from q]
  unfold famP
  rw [List.filter_map]
  congr 1
  exact List.filter_congr fun p hp => good_is (ok p hp) s
/-! ### covers -/
theorem mask_congr {f g : Vahypc.Goal → Bool} : ∀ (k : Nat) (l : List Vahypc.Goal), (∀ x ∈ l, f x = g x) → Vahypc.maskBy f k l = Vahypc.maskBy g k l
  | _, [], _ => rfl
  | k, x :: l, h => by
    unfold Vahypc.maskBy
    rw [h x (.head _), mask_congr (k + 1) l fun y hy => h y (.tail _ hy)]
/-- which goals a piece covers, as a number -/
def maskP (f : Nat × Nat → Bool) : Nat → List (Nat × Nat) → Nat
  | _, [] => 0
  | k, x :: r => (if f x = true then 2 ^ k else 0) + maskP f (k + 1) r
def coverP (s : Vahypa.Lst) (p : Pc) : Nat := maskP (fun o => fitsP p (Vahypc.wordAt s o.1) o.2) 0 (goalsP s)
theorem mask_map {f : Vahypc.Goal → Bool} {g : Nat × Nat → Bool} : ∀ (k : Nat) (l : List (Nat × Nat)), (∀ o ∈ l, f (goalOf o) = g o) → Vahypc.maskBy f k (l.map goalOf) = maskP g k l
  | _, [], _ => rfl
  | k, x :: l, h => by
    rw [List.map_cons]
    unfold Vahypc.maskBy maskP
    rw [h x (.head _), mask_map (k + 1) l fun y hy => h y (.tail _ hy)]
theorem covers_is {p : Pc} (h : PcOk p) {s : Vahypa.Lst} (hs : Read s) : Vahypc.covers s (patP p) = coverP s p := by
  unfold Vahypc.covers coverP
  rw [goals_is hs]
  exact mask_map 0 _ fun o ho => parts1_is h ho
theorem mask_lt (f : Nat × Nat → Bool) : ∀ (l : List (Nat × Nat)) (k : Nat), maskP f k l + 2 ^ k ≤ 2 ^ (k + l.length)
  | [], k => by
    unfold maskP
    rw [List.length_nil, Nat.add_zero, Nat.zero_add]
    exact Nat.le_refl _
  | x :: l, k => by
    have ih := mask_lt f l (k + 1)
    unfold maskP
    rw [List.length_cons, show k + (l.length + 1) = k + 1 + l.length by omega]
    have e : 2 ^ (k + 1) = 2 ^ k + 2 ^ k := by rw [Nat.pow_succ]; omega
    rw [e] at ih
    generalize 2 ^ k = u at ih ⊢
    generalize 2 ^ (k + 1 + l.length) = v at ih ⊢
    split <;> omega
theorem cover_lt (s : Vahypa.Lst) (p : Pc) : coverP s p < 2 ^ (goalsP s).length := by
  have := mask_lt (fun o => fitsP p (Vahypc.wordAt s o.1) o.2) (goalsP s) 0
  rw [Nat.zero_add] at this
  unfold coverP
  omega
/-! ### without a word -/
theorem without_read {s : Vahypa.Lst} (h : Read s) (w : Nat) : Read (Vahype.without s w) := by
  have sub : ∀ v ∈ (Vahype.without s w).words, v ∈ s.words := fun v hv => List.mem_of_mem_eraseIdx hv
  refine ⟨⟨?_, h.fine.np, fun v hv => h.fine.lx v (sub v hv), fun v hv => h.fine.lc v (sub v hv), h.fine.l5, h.fine.r5⟩, fun v hv => h.word v (sub v hv)⟩
  have := h.fine.nw
  have : (Vahype.without s w).words.length ≤ s.words.length := List.length_eraseIdx_le _ _
  omega
end WG
set_option Elab.async false
set_option linter.all false
set_option maxRecDepth 100000
set_option maxHeartbeats 2000000
namespace WG
open VahypBase (Bytes)
/-! ### the pieces around a gap: which they are, that each comes once -/
theorem pt_mem {x : Bytes} {g o e : Nat} {p : Pc} : p ∈ ptPieces x g o e ↔ p.1 = (x.drop o).take (e - o) ∧ p.2.1 = g - o ∧ (p.2.2.1 = true → o = 0) ∧ (p.2.2.2 = true → e = x.length) := by
  obtain ⟨a, b, f, l⟩ := p
  unfold ptPieces
  simp only [List.mem_append, List.mem_singleton]
  constructor
  · rintro (((h | h) | h) | h)
    · cases h; simp
    · split at h
      · rename_i c; have h := List.mem_singleton.mp h; cases h; simp [c]
      · cases h
    · split at h
      · rename_i c; have h := List.mem_singleton.mp h; cases h; simp [c]
      · cases h
    · split at h
      · rename_i c; have h := List.mem_singleton.mp h; cases h; simp [c]
      · cases h
  · rintro ⟨h1, h2, h3, h4⟩
    subst h1
    subst h2
    cases f with
    | false =>
      cases l with
      | false => exact .inl (.inl (.inl rfl))
      | true => exact .inl (.inr (by rw [if_pos (h4 rfl)]; exact List.mem_singleton.mpr rfl))
    | true =>
      cases l with
      | false => exact .inl (.inl (.inr (by rw [if_pos (h3 rfl)]; exact List.mem_singleton.mpr rfl)))
      | true => exact .inr (by rw [if_pos ⟨h3 rfl, h4 rfl⟩]; exact List.mem_singleton.mpr rfl)
theorem pt_nodup (x : Bytes) (g o e : Nat) : (ptPieces x g o e).Nodup := by
  unfold ptPieces
  split <;> split <;> split <;> simp_all
theorem pcs_in {x : Bytes} {g m : Nat} {p : Pc} : p ∈ pcs x g m ↔ ∃ n o, 1 ≤ n ∧ n ≤ m ∧ g - n ≤ o ∧ o ≤ g ∧ o + n ≤ x.length ∧ p ∈ ptPieces x g o (o + n) := by
  unfold pcs
  rw [List.mem_flatMap]
  constructor
  · rintro ⟨k, hk, h⟩
    have hk := List.mem_range.mp hk
    unfold pcsTo at h
    obtain ⟨i, hi, h⟩ := List.mem_flatMap.mp h
    have hi := List.mem_range.mp hi
    unfold cnt at hi
    split at hi
    · exact ⟨k + 1, g - (k + 1) + i, by omega, by omega, by omega, by omega, by omega, h⟩
    · omega
  · rintro ⟨n, o, h1, h2, h3, h4, h5, h⟩
    refine ⟨n - 1, List.mem_range.mpr (by omega), ?_⟩
    unfold pcsTo
    rw [show n - 1 + 1 = n by omega]
    refine List.mem_flatMap.mpr ⟨o - (g - n), List.mem_range.mpr ?_, ?_⟩
    · unfold cnt
      rw [if_pos (by omega)]
      omega
    · rw [show g - n + (o - (g - n)) = o by omega]
      exact h
/-- a piece stands around a gap where it fits there -/
theorem pcs_fits {x : Bytes} {g m : Nat} {p : Pc} (hp : PcOk p) (hm : p.1.length ≤ m) : p ∈ pcs x g m ↔ fitsP p x g = true := by
  obtain ⟨a, b, f, l⟩ := p
  obtain ⟨p1, p2⟩ := hp
  dsimp only at p1 p2 hm
  have flags : ∀ (c : Bool) (q : Prop) [Decidable q], (!c || decide q) = true ↔ (c = true → q) := fun c q _ => by cases c <;> simp
  rw [pcs_in]
  constructor
  · rintro ⟨n, o, h1, h2, h3, h4, h5, h⟩
    obtain ⟨e1, e2, e3, e4⟩ := pt_mem.mp h
    dsimp only at e1 e2 e3 e4
    rw [Nat.add_sub_cancel_left] at e1
    have la : a.length = n := by rw [e1, List.length_take, List.length_drop]; omega
    unfold fitsP
    dsimp only
    rw [show g - b = o by omega, decide_eq_true (show b ≤ g by omega), la, ← e1, decide_eq_true rfl, Bool.true_and, Bool.true_and, Bool.and_eq_true, flags, flags]
    exact ⟨e3, e4⟩
  · intro h
    unfold fitsP at h
    dsimp only at h
    rw [Bool.and_eq_true, Bool.and_eq_true, Bool.and_eq_true, flags, flags, decide_eq_true_eq, decide_eq_true_eq] at h
    obtain ⟨h1, h2, h3, h4⟩ := h
    have la := congrArg List.length h2
    rw [List.length_take, List.length_drop] at la
    refine ⟨a.length, g - b, p1, hm, by omega, by omega, by omega, pt_mem.mpr ⟨?_, ?_, h3, h4⟩⟩
    · dsimp only
      rw [Nat.add_sub_cancel_left]
      exact h2.symm
    · dsimp only
      omega
theorem pcs_small {x : Bytes} {g m : Nat} {p : Pc} (h : p ∈ pcs x g m) : PcOk p ∧ p.1.length ≤ m := by
  obtain ⟨n, o, h1, h2, h3, h4, h5, h⟩ := pcs_in.mp h
  obtain ⟨e1, e2, _, _⟩ := pt_mem.mp h
  rw [Nat.add_sub_cancel_left] at e1
  have la : p.1.length = n := by rw [e1, List.length_take, List.length_drop]; omega
  exact ⟨⟨by omega, by omega⟩, by omega⟩
theorem pcs_nodup (x : Bytes) (g m : Nat) : (pcs x g m).Nodup := by
  have len : ∀ {k : Nat} {p : Pc}, p ∈ pcsTo x g (k + 1) (cnt x g (k + 1)) → p.1.length = k + 1 ∧ ∃ i, i < cnt x g (k + 1) ∧ p.2.1 = g - (g - (k + 1) + i) ∧ g - (k + 1) + i ≤ g := fun {k p} h => by
    unfold pcsTo at h
    obtain ⟨i, hi, h⟩ := List.mem_flatMap.mp h
    have hi := List.mem_range.mp hi
    obtain ⟨e1, e2, _, _⟩ := pt_mem.mp h
    rw [Nat.add_sub_cancel_left] at e1
    have hc := hi
    unfold cnt at hi
    split at hi
    · exact ⟨by rw [e1, List.length_take, List.length_drop]; omega, i, hc, e2, by omega⟩
    · omega
  unfold pcs
  refine List.pairwise_flatMap.mpr ⟨fun k hk => ?_, List.Pairwise.imp (fun {j k} (h : j < k) p hp q hq e => ?_) (range_asc m)⟩
  · unfold pcsTo
    refine List.pairwise_flatMap.mpr ⟨fun i hi => pt_nodup _ _ _ _, ?_⟩
    have hasc := range_asc (cnt x g (k + 1))
    refine List.Pairwise.imp_of_mem (fun {i j} hi hj (h : i < j) p hp q hq e => ?_) hasc
    have hi := List.mem_range.mp hi
    have hj := List.mem_range.mp hj
    obtain ⟨_, a2, _, _⟩ := pt_mem.mp hp
    obtain ⟨_, b2, _, _⟩ := pt_mem.mp hq
    rw [← e, a2] at b2
    unfold cnt at hi hj
    split at hj <;> omega
  · have h1 := (len hp).1
    have h2 := (len hq).1
    rw [e] at h1
    omega
/-! ### the spots at which a piece stands -/
def standP (s : Vahypa.Lst) (p : Pc) : List (Nat × Nat) := (spotsP s).filter fun o => fitsP p (Vahypc.wordAt s o.1) o.2
/-- the pieces around a spot -/
def pcsAt (s : Vahypa.Lst) (m : Nat) (o : Nat × Nat) : List Pc := pcs (Vahypc.wordAt s o.1) o.2 m
theorem stand_is {s : Vahypa.Lst} {m : Nat} {p : Pc} (hp : PcOk p) (hm : p.1.length ≤ m) : ((spotsP s).filter fun o => decide (p ∈ pcsAt s m o)) = standP s p := by
  unfold standP
  refine List.filter_congr fun o _ => ?_
  rw [Bool.eq_iff_iff, decide_eq_true_eq]
  exact pcs_fits hp hm
theorem stand_len (s : Vahypa.Lst) (p : Pc) : (standP s p).length ≤ (spotsP s).length := List.length_filter_le _ _
end WG
set_option Elab.async false
set_option linter.all false
set_option maxRecDepth 100000
set_option maxHeartbeats 2000000
namespace WG
open PySem PySem.Spec PyProof.Rows L2
/-! ### find_goals -/
abbrev s_find_goals : Stmt := top 3
abbrev N_find_goals : List Str := ["wordlist", "spot"]
theorem sc_find_goals : FnScope N_find_goals ["wordlist"] (defScope s_find_goals) := ⟨rfl, rfl, rfl, by decide +kernel, rfl, by decide +kernel, by decide +kernel⟩
def sp_find_goals (D : Ads) : Sp := fun vs H Q _ => ∃ a s, vs = [.ref a] ∧ ListAt D H a s ∧ Fine s ∧ ∀ H' l, Same H H' → H l = none → RefsAt PairAt H' l (goalsP s) → Q (.ref l) H'
section
variable {P : Program} {w : World} {K : PySem.W.Frag} {mg : Str → Option Value} {base : Heap} {D : Ads}
theorem df_find_goals {f : Addr} {fd : FuncData} (F : At K mg "find_goals" s_find_goals ["wordlist"] f fd) (T : Txt K mg D) (c_find_spots : Df P w K mg base CX0 1 "find_spots" ["wordlist"] (sp_find_spots D))
    (c_may_part : Df P w K mg base CX0 1 "may_part" ["wordlist", "spot"] (sp_may_part D)) : Df P w K mg base CX0 2 "find_goals" ["wordlist"] (sp_find_goals D) := by
  refine df0 (N := N_find_goals) F sc_find_goals (fun vs H Q E h => ?_) (fun cdv A outer s H vs Q E hr h => ⟨_, (pss_one (ps_ret (pe_lc (own := [("spot", 1)]) rfl sc_find_goals.nd (pi_list (pe_d0 c_find_spots hr (by decide) rfl (pa_cons (pv 0) pa_nil))) (blkOk_by (own := [("spot", 1)]) (N := N_find_goals) (sc := defScope s_find_goals) (by decide +kernel)) (fun _ _ _ _ _ => (pg_name (i := 1) sc_find_goals.nd rfl (Or.inl rfl))) (fun _ _ _ _ _ => pts_one (pt_val (pe_d0 c_may_part (Room.mono hr (Nat.le_refl _)) (by decide) rfl (pa_cons (pv 0) (pa_cons (pv 1) pa_nil))))) (fun _ _ _ _ _ => (pv 1))))), ?_⟩)
  · obtain ⟨a, s, rfl, _⟩ := h
    rfl
  · obtain ⟨a, s, rfl, hL, hF, k⟩ := h
    refine ⟨_, rfl, a, s, rfl, hL, hF, fun H1 l e1 nl ⟨as, hl, has⟩ => ⟨l, rfl, ⟨_, SqL.of hl⟩, fun O hO => ?_⟩⟩
    have eO : Same H1 (upd H1 O (.lst [])) := same_upd hO
    have hOH : H O = none := e1.free hO
    refine lc_it (walk_list (K := K) (a := l) (xs := as.map V.ref)) (fun j H' => Same H1 H' ∧ ∃ bs, H' O = some (.lst (bs.map V.ref)) ∧ Paired (PairAt H1) bs (((spotsP s).take j).filter (yesP s))) ⟨eO, [], upd_same, .nil⟩ ?_ ?_ ?_
    · rintro j H' _ ⟨e, _⟩
      exact SqL.of (e _ _ hl)
    · rintro j x H2 H3 hj ⟨e2, bs, hb, hbp⟩ ⟨rfl, hx⟩
      obtain ⟨c, hc, rfl⟩ := refs_get hx
      obtain ⟨o, ho, hoa⟩ := pget has hc
      obtain ⟨wo, hwo, _⟩ := spots_in (List.mem_of_getElem? ho)
      have eY : wo.cuts.contains o.2 = yesP s o := by unfold yesP; rw [hwo]
      refine ⟨rfl, _, rfl, _, rfl, a, c, s, o.1, o.2, wo, rfl, hL.same (e1.trans e2), e2 _ _ hoa, hwo, _, rfl, ?_⟩
      rw [eY, take_more ho, List.filter_append]
      cases d : yesP s o with
      | false =>
        refine iteF ⟨e2, bs, hb, ?_⟩
        simp only [List.filter_cons, d, List.filter_nil, Bool.false_eq_true, if_false, List.append_nil]
        exact hbp
      | true =>
        refine iteT ⟨_, rfl, _, hb, ?_, fun b u hbu => ?_, bs ++ [c], ?_, ?_⟩
        · rw [List.length_map, hbp.length]
          have z := spotsTo_len hF s.words.length (Nat.le_refl _)
          rw [spotsTo_all] at z
          have z2 := hF.nw
          have z3 : (((spotsP s).take j).filter (yesP s)).length ≤ (spotsP s).length := Nat.le_trans (List.length_filter_le _ _) (by rw [List.length_take]; omega)
          exact Nat.lt_of_le_of_lt (by omega : _ ≤ 1000) (by decide)
        · rw [upd_ne (ne_of_none hbu hO)]
          exact e2 _ _ hbu
        · rw [upd_same, List.map_append]
          rfl
        · simp only [List.filter_cons, d, List.filter_nil, if_true]
          exact psnoc hbp hoa
    · rintro H2 ⟨e2, bs, hb, hbp⟩
      rw [List.length_map, has.length, List.take_length] at hbp
      exact k H2 O (e1.trans e2) hOH ⟨bs, hb, Paired.mapP hbp fun x y h => PairAt.same _ _ x y e2 h⟩
end
/-! ### count_bytes -/
abbrev s_count_bytes : Stmt := top 13
abbrev N_count_bytes : List Str := ["piece", "part", "before", "first", "last", "points", "point"]
theorem sc_count_bytes : FnScope N_count_bytes ["piece"] (defScope s_count_bytes) := ⟨rfl, rfl, rfl, by decide +kernel, rfl, by decide +kernel, by decide +kernel⟩
def sp_count_bytes : Sp := fun vs H Q _ => ∃ (a : Addr) (p : Pc), vs = [.ref a] ∧ PcAt H a p ∧ p.1.length ≤ 1000 ∧ ∀ H', Same H H' → Q (.int (pcBytes p : Nat)) H'
section
variable {P : Program} {w : World} {K : PySem.W.Frag} {mg : Str → Option Value} {base : Heap} {D : Ads}
theorem df_count_bytes {f : Addr} {fd : FuncData} (F : At K mg "count_bytes" s_count_bytes ["piece"] f fd) (T : Txt K mg D) : Df P w K mg base CX0 1 "count_bytes" ["piece"] sp_count_bytes := by
  refine df0 (N := N_count_bytes) F sc_count_bytes (fun vs H Q E h => ?_) (fun cdv A outer s H vs Q E hr h => ⟨_, (pss_cons (ps_asg (pv 0) (pg_tup rfl (pgs_cons (pg_name (i := 1) sc_count_bytes.nd rfl (Or.inl rfl)) (pgs_cons (pg_name (i := 2) sc_count_bytes.nd rfl (Or.inl rfl)) (pgs_cons (pg_name (i := 3) sc_count_bytes.nd rfl (Or.inl rfl)) (pgs_cons (pg_name (i := 4) sc_count_bytes.nd rfl (Or.inl rfl)) pgs_nil))))))
(pss_cons (ps_setLc (i := 5) (own := [("point", 6)]) rfl sc_count_bytes.nd rfl rfl (sw_true rfl rfl rfl (by decide +kernel)) (pi_tup (pe_tup (pa_cons (pv 3) (pa_cons (pv 4) pa_nil)))) (blkOk_by (own := [("point", 6)]) (N := N_count_bytes) (sc := defScope s_count_bytes) (by decide +kernel)) (fun _ _ _ _ _ => (pg_name (i := 6) sc_count_bytes.nd rfl (Or.inl rfl))) (fun _ _ _ _ _ => pts_one (pt_val (pv 6))) (fun _ _ _ _ _ => (pv 6)))
(pss_one (ps_ret (pe_op op_add (pe_op op_add (pe_callB call_len_str (by rfl) T.n_len (by decide +kernel) (pa_cons (pv 1) pa_nil)) pe_int) (pe_callB call_len_seq (by rfl) T.n_len (by decide +kernel) (pa_cons (pv 5) pa_nil))))))), ?_⟩)
  · obtain ⟨a, p, rfl, _⟩ := h
    rfl
  · obtain ⟨a, ⟨part, b, fi, la⟩, rfl, hp, hpl, k⟩ := h
    have hzp : (tx part).length ≤ sizeLine := by rw [tx_len]; exact Nat.le_trans hpl (by decide)
    refine ⟨_, rfl, a, _, rfl, SqT.of hp, rfl, _, _, rfl, _, _, rfl, _, _, rfl, _, _, rfl, rfl, ?_⟩
    refine ⟨_, rfl, _, rfl, by show 2 ≤ sizeLine; decide, fun t ht => ⟨t, rfl, ⟨_, SqT.of upd_same⟩, fun O hO => ?_⟩⟩
    have nOt : t ≠ O := ne_of_none upd_same hO
    refine lc_it (walk_tup (K := K) (a := t) (xs := [fi, la].map V.bl)) (fun j H' => Same H H' ∧ H' t = some (.tup ([fi, la].map V.bl)) ∧ H' O = some (.lst ((([fi, la].take j).filter id).map V.bl))) ⟨(same_upd ht).trans (same_upd hO), ?_, upd_same⟩ ?_ ?_ ?_
    · rw [upd_ne nOt, upd_same]
      rfl
    · rintro j H' _ ⟨_, e, _⟩
      exact SqT.of e
    · rintro j x H2 H3 hj ⟨e2, h2, h3⟩ ⟨rfl, hx⟩
      rw [List.getElem?_map] at hx
      obtain ⟨c, hc, rfl⟩ := Option.map_eq_some_iff.mp hx
      refine ⟨rfl, _, rfl, c, rfl, ?_⟩
      rw [take_more hc, List.filter_append, List.map_append]
      cases c with
      | false => exact iteF ⟨e2, h2, by simpa using h3⟩
      | true =>
        refine iteT ⟨_, rfl, _, h3, ?_, fun b u hbu => ?_, ?_, ?_⟩
        · rw [List.length_map]
          refine Nat.lt_of_le_of_lt (Nat.le_trans (List.length_filter_le _ _) (Nat.le_trans (List.length_take_le _ _) (Nat.le_of_lt hj))) ?_
          show 2 < sizeLine
          decide
        · have : b ≠ O := fun z => by
            have q := same_upd ht (o := .tup [.bl fi, .bl la]) b u hbu
            rw [z] at q
            have hO' : upd H t (.tup [.bl fi, .bl la]) O = none := hO
            rw [hO'] at q
            cases q
          rw [upd_ne this]
          exact e2 _ _ hbu
        · rw [upd_ne nOt]
          exact h2
        · rw [upd_same]
          rfl
    · rintro H2 ⟨e2, h2, h3⟩
      refine ⟨_, rfl, _, rfl, hzp, _, _, rfl, rfl, _, rfl, O, _, rfl, .inl (SqL.of h3), _, _, rfl, rfl, ?_⟩
      have e : ((tx part).length : Nat) + (1 : Int) + (((([fi, la].take ([fi, la].map V.bl).length).filter id).map V.bl).length : Nat) = ((pcBytes (part, b, fi, la) : Nat) : Int) := by
        unfold pcBytes
        rw [tx_len]
        cases fi <;> cases la <;> simp <;> omega
      have q := k H2 e2
      rw [← e] at q
      exact q
end
end WG
set_option Elab.async false
set_option linter.all false
set_option maxRecDepth 100000
set_option maxHeartbeats 2000000
namespace WG
open PySem PySem.Spec PyProof.Rows L2
/-! ### keys of dicts: pieces -/
def b2n (b : Bool) : Int := if b = true then 1 else 0
def pkK (p : Pc) : NK := .tup [.text (tx p.1), .num (p.2.1 : Nat), .num (b2n p.2.2.1), .num (b2n p.2.2.2)]
theorem b2n_inj {a b : Bool} (h : b2n a = b2n b) : a = b := by cases a <;> cases b <;> simp_all [b2n]
theorem pkK_inj {a b : Pc} (h : pkK a = pkK b) : a = b := by
  obtain ⟨a1, a2, a3, a4⟩ := a
  obtain ⟨b1, b2, b3, b4⟩ := b
  unfold pkK at h
  simp only [PySem.NestedKey.tup.injEq, List.cons.injEq, PySem.NestedKey.text.injEq, PySem.NestedKey.num.injEq, and_true] at h
  obtain ⟨h1, h2, h3, h4⟩ := h
  rw [tx_inj h1, b2n_inj h3, b2n_inj h4, show a2 = b2 by omega]
theorem pc_nk {P : Program} {w : World} {H : Hp} {a : Addr} {p : Pc} (e : PcAt H a p) : NkAt P w H (pkK p) a := by
  intro h ok
  obtain ⟨_, us, rus, o, e1, e2, n, e3⟩ := (show ObjOk P w H h a (pcO p) from ok a _ e)
  refine ⟨.tup e1 e2 e3 ?_, by simp [pkK, PySem.NestedKey.depth, PySem.NestedKey.depthAll]⟩
  cases rus with
  | cons r1 t1 =>
    cases t1 with
    | cons r2 t2 =>
      cases t2 with
      | cons r3 t3 =>
        cases t3 with
        | cons r4 t4 =>
          cases t4
          obtain ⟨_, rfl⟩ := r1
          obtain ⟨_, rfl⟩ := r2
          cases r3
          cases r4
          exact .cons (.text _ _) (.cons (.int _ _) (.cons (.bool rfl) (.cons (.bool rfl) .nil)))
/-- a piece, its tuple, its list -/
abbrev PGrp := Pc × Addr × Addr
def pgD (g : PGrp) : NK × Addr × V := (pkK g.1, g.2.1, .ref g.2.2)
theorem pg_some {k : Pc} : ∀ {G : List PGrp} {v : V}, ndAt (G.map pgD) (pkK k) = some v → ∃ g ∈ G, g.1 = k ∧ v = .ref g.2.2
  | [], v, h => by cases h
  | g :: r, v, h => by
    rw [List.map_cons] at h
    by_cases e : (pgD g).1 = pkK k
    · rw [ndAt_here e] at h
      exact ⟨g, List.mem_cons_self, pkK_inj e, (Option.some.inj h).symm⟩
    · rw [ndAt_past e] at h
      obtain ⟨g', hg, h2⟩ := pg_some h
      exact ⟨g', List.mem_cons_of_mem _ hg, h2⟩
theorem pg_none {k : Pc} : ∀ {G : List PGrp}, ndAt (G.map pgD) (pkK k) = none → k ∉ G.map (·.1)
  | [], _ => by simp
  | g :: r, h => by
    rw [List.map_cons] at h
    by_cases e : (pgD g).1 = pkK k
    · rw [ndAt_here e] at h
      cases h
    · rw [ndAt_past e] at h
      have ih := pg_none h
      intro z
      rcases List.mem_cons.mp z with q | q
      · exact e (by rw [q]; rfl)
      · exact ih q
theorem pg_get {k : Pc} {G : List PGrp} (h : k ∈ G.map (·.1)) : ∃ g ∈ G, g.1 = k ∧ ndAt (G.map pgD) (pkK k) = some (.ref g.2.2) := by
  cases q : ndAt (G.map pgD) (pkK k) with
  | none => exact absurd h (pg_none q)
  | some v =>
    obtain ⟨g, hg, e, rfl⟩ := pg_some q
    exact ⟨g, hg, e, rfl⟩
/-- the dict at d, its lists as C says; H1: what stood ahead, the spots among it -/
structure PmInv (P : Program) (w : World) (H1 : Hp) (d : Addr) (H : Hp) (G : List PGrp) (C : Pc → List (Nat × Nat)) (n : Nat) : Prop where
  same : ∀ b u, H1 b = some u → b ≠ d → H b = some u
  dict : H d = some (ndO P w d (G.map pgD))
  keys : ∀ g ∈ G, PcAt H g.2.1 g.1
  cont : ∀ g ∈ G, ∃ as : List Addr, H g.2.2 = some (.lst (as.map V.ref)) ∧ Paired (PairAt H1) as (C g.1) ∧ H1 g.2.2 = none
  ndA : (G.map fun g => g.2.2).Nodup
  ndK : (G.map fun g => g.1).Nodup
  rest : ∀ k, k ∉ G.map (·.1) → C k = []
  few : G.length ≤ n
theorem PmInv.on {P : Program} {w : World} {H1 H H' : Hp} {d : Addr} {G : List PGrp} {C : Pc → List (Nat × Nat)} {n : Nat} (I : PmInv P w H1 d H G C n) (e : Same H H') : PmInv P w H1 d H' G C n :=
  ⟨fun b u hb nb => e _ _ (I.same b u hb nb), e _ _ I.dict, fun g hg => e _ _ (I.keys g hg), fun g hg => let ⟨as, h1, h2, h3⟩ := I.cont g hg; ⟨as, e _ _ h1, h2, h3⟩, I.ndA, I.ndK, I.rest, I.few⟩
theorem PmInv.as {P : Program} {w : World} {H1 H : Hp} {d : Addr} {G : List PGrp} {C C' : Pc → List (Nat × Nat)} {n m : Nat} (I : PmInv P w H1 d H G C n) (e : ∀ k, C' k = C k) (h : n ≤ m) : PmInv P w H1 d H G C' m := by
  have : C' = C := funext e
  subst this
  exact ⟨I.same, I.dict, I.keys, I.cont, I.ndA, I.ndK, I.rest, Nat.le_trans I.few h⟩
section
variable {P : Program} {w : World} {H1 H : Hp} {d : Addr} {G : List PGrp} {C C' : Pc → List (Nat × Nat)} {n : Nat} {p : Pc} {o : Nat × Nat}
theorem pg_one (nd : (G.map fun g => g.1).Nodup) {g g' : PGrp} (h : g ∈ G) (h' : g' ∈ G) (e : g'.1 = g.1) : g' = g := by
  obtain ⟨i1, hi1⟩ := List.mem_iff_getElem?.mp h'
  obtain ⟨i2, hi2⟩ := List.mem_iff_getElem?.mp h
  have q1 : (G.map fun g => g.1)[i1]? = some g.1 := by rw [List.getElem?_map, hi1, ← e]; rfl
  have q2 : (G.map fun g => g.1)[i2]? = some g.1 := by rw [List.getElem?_map, hi2]; rfl
  have q3 := nd_ix nd q1 q2
  rw [q3, hi2] at hi1
  exact (Option.some.inj hi1).symm
theorem pg_oneA (nd : (G.map fun g => g.2.2).Nodup) {g g' : PGrp} (h : g ∈ G) (h' : g' ∈ G) (e : g'.2.2 = g.2.2) : g' = g := by
  obtain ⟨i1, hi1⟩ := List.mem_iff_getElem?.mp h'
  obtain ⟨i2, hi2⟩ := List.mem_iff_getElem?.mp h
  have q1 : (G.map fun g => g.2.2)[i1]? = some g.2.2 := by rw [List.getElem?_map, hi1, ← e]; rfl
  have q2 : (G.map fun g => g.2.2)[i2]? = some g.2.2 := by rw [List.getElem?_map, hi2]; rfl
  have q3 := nd_ix nd q1 q2
  rw [q3, hi2] at hi1
  exact (Option.some.inj hi1).symm
/-- a piece met before -/
theorem PmInv.old (I : PmInv P w H1 d H G C n) {z c la : Addr} (hc : PairAt H1 c o) (hz : H z = none) {g : PGrp} (hg : g ∈ G) (hgk : g.1 = p) (hla : la = g.2.2) {as : List Addr} (has : H la = some (.lst (as.map V.ref)))
    (eC : ∀ k, C' k = C k ++ if k = p then [o] else []) : PmInv P w H1 d (upd (upd H z (.lst [])) la (.lst (as.map V.ref ++ [.ref c]))) G C' (n + 1) := by
  subst hla
  subst hgk
  have up : ∀ b u, b ≠ g.2.2 → H b = some u → upd (upd H z (.lst [])) g.2.2 (.lst (as.map V.ref ++ [.ref c])) b = some u := fun b u nb hb => by
    rw [upd_ne nb, upd_ne (ne_of_none hb hz)]
    exact hb
  obtain ⟨as', h1, h2, h4⟩ := I.cont g hg
  have eas : as' = as := by
    rw [has] at h1
    have e := HO.lst.inj (Option.some.inj h1)
    exact ((List.map_inj_right (fun x y h => V.ref.inj h)).mp e).symm
  subst eas
  refine ⟨fun b u hb n2 => up b u (ne_of_none hb h4) (I.same b u hb n2), up d _ (ne_of I.dict h1 ext_lst) I.dict, fun g' hg' => up _ _ (ne_of (I.keys g' hg') h1 (by intro z; cases z)) (I.keys g' hg'), fun g' hg' => ?_, I.ndA, I.ndK, fun k hk => ?_, Nat.le_succ_of_le I.few⟩
  · by_cases e : g'.1 = g.1
    · have eg := pg_one I.ndK hg hg' e
      subst eg
      refine ⟨as' ++ [c], ?_, ?_, h4⟩
      · rw [upd_same, List.map_append]
        rfl
      · rw [eC, if_pos rfl]
        exact psnoc h2 hc
    · obtain ⟨as2, k1, k2, k4⟩ := I.cont g' hg'
      have nla : g'.2.2 ≠ g.2.2 := fun q => e (by rw [pg_oneA I.ndA hg hg' q])
      exact ⟨as2, up _ _ nla k1, by rw [eC, if_neg e, List.append_nil]; exact k2, k4⟩
  · have nk : k ≠ g.1 := fun e => hk (by rw [e]; exact List.mem_map.mpr ⟨g, hg, rfl⟩)
    rw [eC, if_neg nk, List.append_nil]
    exact I.rest k hk
/-- a piece met first -/
theorem PmInv.new (I : PmInv P w H1 d H G C n) {kt z c : Addr} (hc : PairAt H1 c o) (hkt : PcAt H kt p) (hz : H z = none) (hno : p ∉ G.map (·.1)) {kvs : List (NK × Addr × V)} (hk : kvs = (G ++ [(p, kt, z)]).map pgD)
    (eC : ∀ k, C' k = C k ++ if k = p then [o] else []) : PmInv P w H1 d (upd (upd (upd H z (.lst [])) d (ndO P w d kvs)) z (.lst [.ref c])) (G ++ [(p, kt, z)]) C' (n + 1) := by
  subst hk
  have ndz : d ≠ z := ne_of_none I.dict hz
  have up : ∀ b u, b ≠ d → H b = some u → upd (upd (upd H z (.lst [])) d (ndO P w d ((G ++ [(p, kt, z)]).map pgD))) z (.lst [.ref c]) b = some u := fun b u nb hb => by
    rw [upd_ne (ne_of_none hb hz), upd_ne nb, upd_ne (ne_of_none hb hz)]
    exact hb
  have pieces : ∀ g ∈ G ++ [(p, kt, z)], g ∈ G ∨ g = (p, kt, z) := fun g hg => by
    rcases List.mem_append.mp hg with q | q
    · exact .inl q
    · exact .inr (by simpa using q)
  refine ⟨fun b u hb n2 => up b u n2 (I.same b u hb n2), ?_, fun g' hg' => ?_, fun g' hg' => ?_, ?_, ?_, fun k hk => ?_, ?_⟩
  · rw [upd_ne ndz, upd_same]
  · rcases pieces g' hg' with q | q
    · exact up _ _ (ne_of (I.keys g' q) I.dict (fun z => by cases z)) (I.keys g' q)
    · subst q
      exact up _ _ (ne_of hkt I.dict (fun z => by cases z)) hkt
  · rcases pieces g' hg' with q | q
    · obtain ⟨as, h1, h2, h4⟩ := I.cont g' q
      have nk : g'.1 ≠ p := fun e => hno (by rw [← e]; exact List.mem_map.mpr ⟨g', q, rfl⟩)
      exact ⟨as, up _ _ (ne_of h1 I.dict (Ne.symm ext_lst)) h1, by rw [eC, if_neg nk, List.append_nil]; exact h2, h4⟩
    · subst q
      refine ⟨[c], upd_same, ?_, ?_⟩
      · show Paired _ _ (C' p)
        rw [eC, I.rest _ hno, if_pos rfl]
        exact .cons hc .nil
      · show H1 z = none
        cases q : H1 z with
        | none => rfl
        | some u =>
          have := I.same z u q (Ne.symm ndz)
          rw [hz] at this
          cases this
  · rw [List.map_append, List.nodup_append]
    refine ⟨I.ndA, by simp, fun x hx y hy' e => ?_⟩
    obtain ⟨g', hg', rfl⟩ := List.mem_map.mp hx
    have e2 : y = z := by simpa using hy'
    obtain ⟨as, h1, _, _⟩ := I.cont g' hg'
    rw [e2] at e
    exact ne_of_none h1 hz e
  · rw [List.map_append, List.nodup_append]
    refine ⟨I.ndK, by simp, fun x hx y hy' e => ?_⟩
    have e2 : y = p := by simpa using hy'
    rw [e2] at e
    rw [e] at hx
    exact hno hx
  · rw [List.map_append, List.mem_append] at hk
    have nk : k ≠ p := fun e => hk (.inr (by rw [e]; simp))
    rw [eC, if_neg nk, List.append_nil]
    exact I.rest k fun q => hk (.inl q)
  · rw [List.length_append, List.length_singleton]
    exact Nat.succ_le_succ I.few
end
/-- the pieces' map: each piece around any spot, with its spots -/
structure PMap (P : Program) (w : World) (H : Hp) (d : Addr) (s : Vahypa.Lst) (m : Nat) : Prop where
  ex : ∃ G : List PGrp, H d = some (ndO P w d (G.map pgD)) ∧ (∀ g ∈ G, PcAt H g.2.1 g.1) ∧ (∀ o ∈ spotsP s, ∀ p ∈ pcsAt s m o, p ∈ G.map (·.1)) ∧
    ∀ g ∈ G, PcOk g.1 → g.1.1.length ≤ m → RefsAt PairAt H g.2.2 (standP s g.1)
theorem PMap.same {P : Program} {w : World} {H H' : Hp} {d : Addr} {s : Vahypa.Lst} {m : Nat} (x : PMap P w H d s m) (e : Same H H') : PMap P w H' d s m := by
  obtain ⟨G, h1, h2, h3, h4⟩ := x.ex
  exact ⟨G, e _ _ h1, fun g hg => e _ _ (h2 g hg), h3, fun g hg ok hm => (h4 g hg ok hm).same PairAt.same e⟩
/-- what is found at a piece -/
theorem PMap.find {P : Program} {w : World} {H : Hp} {d : Addr} {s : Vahypa.Lst} {m : Nat} (x : PMap P w H d s m) {o : Nat × Nat} (ho : o ∈ spotsP s) {p : Pc} (hp : p ∈ pcsAt s m o) :
    ∃ kvs l, H d = some (ndO P w d kvs) ∧ (∀ q ∈ kvs, NkAt P w H q.1 q.2.1) ∧ ndAt kvs (pkK p) = some (.ref l) ∧ RefsAt PairAt H l (standP s p) := by
  obtain ⟨G, h1, h2, h3, h4⟩ := x.ex
  obtain ⟨g, hg, e, hv⟩ := pg_get (h3 o ho p hp)
  have hs := pcs_small hp
  refine ⟨G.map pgD, g.2.2, h1, fun q hq => ?_, hv, ?_⟩
  · obtain ⟨g', hg', rfl⟩ := List.mem_map.mp hq
    exact pc_nk (h2 g' hg')
  · have := h4 g hg (by rw [e]; exact hs.1) (by rw [e]; exact hs.2)
    rw [e] at this
    exact this
/-! ### map_pieces -/
abbrev s_map_pieces : Stmt := top 14
abbrev N_map_pieces : List Str := ["wordlist", "length", "spots_by_piece", "spot", "number", "gap", "piece"]
theorem sc_map_pieces : FnScope N_map_pieces ["wordlist", "length"] (defScope s_map_pieces) := ⟨rfl, rfl, rfl, by decide +kernel, rfl, by decide +kernel, by decide +kernel⟩
def sp_map_pieces (P : Program) (w : World) (D : Ads) : Sp := fun vs H Q _ => ∃ a s m, vs = [.ref a, .int (m : Nat)] ∧ ListAt D H a s ∧ Fine s ∧ m ≤ 3 ∧ ∀ H' d, Same H H' → H d = none → PMap P w H' d s m → Q (.ref d) H'
/-- what stands in the map behind i spots and j pieces of the next -/
def midP (s : Vahypa.Lst) (m i j : Nat) (o : Nat × Nat) (p : Pc) : List (Nat × Nat) := (((spotsP s).take i).filter fun o => decide (p ∈ pcsAt s m o)) ++ if p ∈ (pcsAt s m o).take j then [o] else []
section
variable {P : Program} {w : World} {K : PySem.W.Frag} {mg : Str → Option Value} {base : Heap} {D : Ads}
theorem df_map_pieces {f : Addr} {fd : FuncData} (F : At K mg "map_pieces" s_map_pieces ["wordlist", "length"] f fd) (T : Txt K mg D) (c_find_spots : Df P w K mg base CX0 1 "find_spots" ["wordlist"] (sp_find_spots D))
    (c_find_pieces_around : Df P w K mg base CX0 2 "find_pieces_around" ["letters", "gap", "length"] sp_find_pieces_around) : Df P w K mg base CX0 3 "map_pieces" ["wordlist", "length"] (sp_map_pieces P w D) := by
  refine df0 (N := N_map_pieces) F sc_map_pieces (fun vs H Q E h => ?_) (fun cdv A outer s H vs Q E hr h => ⟨_, (pss_cons (ps_set (i := 2) sc_map_pieces.nd rfl (Or.inl rfl) pe_ndnew)
(pss_cons (ps_for PassesOwn.never rfl (pi_list (pe_d0 c_find_spots hr (by decide) rfl (pa_cons (pv 0) pa_nil))) (pg_name (i := 3) sc_map_pieces.nd rfl (Or.inl rfl))
(pss_cons (ps_asg (pv 3) (pg_tup rfl (pgs_cons (pg_name (i := 4) sc_map_pieces.nd rfl (Or.inl rfl)) (pgs_cons (pg_name (i := 5) sc_map_pieces.nd rfl (Or.inl rfl)) pgs_nil))))
(pss_one (ps_for PassesOwn.never rfl (pi_list (pe_d0 c_find_pieces_around hr (by decide) rfl (pa_cons (pe_fld (pe_ix ix_list (pe_fld (pv 0) rfl) (pv 4) (fun _ _ => rfl)) rfl) (pa_cons (pv 5) (pa_cons (pv 1) pa_nil))))) (pg_name (i := 6) sc_map_pieces.nd rfl (Or.inl rfl))
(pss_one (ps_expr (pe_bm PySem.F.plainAttrs_list PySem.F.slot_list_append PySem.F.type_list_append mt_append (pe_ndsetd hr.units (pv 2) (pv 6) (pe_lst pa_nil) ⟨rfl, rfl, rfl, rfl⟩) (pa_cons (pv 3) pa_nil))))))))
(pss_one (ps_ret (pv 2))))), ?_⟩)
  · obtain ⟨a, s, m, rfl, _⟩ := h
    rfl
  · obtain ⟨a, s, m, rfl, hL, hF, hm, k⟩ := h
    -- spots_by_piece = {}
    intro d hd
    have eA : Same H (upd H d (ndO P w d [])) := same_upd hd
    -- for spot in find_spots(wordlist)
    refine ⟨_, rfl, a, s, rfl, hL.same eA, hF, fun H1 l e1 nl ⟨as, hl, has⟩ => ⟨l, rfl, ⟨_, SqL.of hl⟩, ?_⟩⟩
    have eH1 : Same H H1 := eA.trans e1
    have h1d : H1 d = some (ndO P w d []) := e1 _ _ upd_same
    have nld : l ≠ d := fun z => by rw [z, upd_same] at nl; cases nl
    have big : ∀ {G : List PGrp} {C : Pc → List (Nat × Nat)} {n : Nat} {H2 : Hp}, PmInv P w H1 d H2 G C n → Same H H2 := fun I b u hb => I.same b u (eH1 b u hb) (ne_of_none hb hd)
    have pair2 : ∀ {G : List PGrp} {C : Pc → List (Nat × Nat)} {n : Nat} {H2 : Hp} {c : Addr} {o : Nat × Nat}, PmInv P w H1 d H2 G C n → PairAt H1 c o → PairAt H2 c o := fun I hc => I.same _ _ hc (ne_of hc h1d (by intro z; cases z))
    have hsl := spots_len hF
    refine for_it (walk_list (K := K) (a := l) (xs := as.map V.ref)) (fun i σ H' => ∃ v3 v4 v5 v6 G n, σ = [some (.ref a), some (.int (m : Nat)), some (.ref d), v3, v4, v5, v6] ∧ n ≤ 300 * i ∧ PmInv P w H1 d H' G (fun p => ((spotsP s).take i).filter fun o => decide (p ∈ pcsAt s m o)) n) ?_ ?_ ?_ ?_
    · exact ⟨none, none, none, none, [], 0, rfl, Nat.le_refl _, ⟨fun b u hb _ => hb, h1d, nofun, nofun, List.nodup_nil, List.nodup_nil, fun k _ => by simp, Nat.le_refl _⟩⟩
    · rintro i σ H2 _ ⟨_, _, _, _, G, n, _, _, I⟩
      exact SqL.of (I.same _ _ hl nld)
    · rintro i x σ H2 H2' hi ⟨v3, v4, v5, v6, G, n, rfl, hn, I⟩ ⟨rfl, hx⟩
      obtain ⟨c, hc, rfl⟩ := refs_get hx
      obtain ⟨o, ho, hoa⟩ := pget has hc
      have hoa2 := pair2 I hoa
      have hom := List.mem_of_getElem? ho
      obtain ⟨wo, hwo, ho1, ho2, hwom⟩ := spots_in hom
      have hL2 : ListAt D H2' a s := hL.same (big I)
      obtain ⟨dx, wl, ppl, h1, ⟨ws, h2, h2p⟩, h3⟩ := id hL2
      obtain ⟨wa, hwa, dw, bl, hw1, hw2⟩ := pget2 h2p hwo
      have hwl := hF.lx wo hwom
      have il : i < 360 := by
        rw [List.length_map, has.length] at hi
        omega
      -- number, gap = spot
      refine ⟨_, rfl, c, _, rfl, SqT.of hoa2, rfl, _, _, rfl, _, _, rfl, rfl, ?_⟩
      -- for piece in find_pieces_around(..)
      refine ⟨_, rfl, a, D.cL, dx, _, _, rfl, h1, T.kL, T.lW, fL_words _ _ _ _, _, rfl, wl, _, _, .ref wa, rfl, rfl, SqL.of h2, atI_nat (by rw [List.getElem?_map, hwa] <;> rfl), ?_⟩
      refine ⟨wa, D.cW, dw, _, _, rfl, hw1, T.kW, T.wL, fW_letters _ _, _, rfl, _, rfl, ?_⟩
      refine ⟨wo.x, o.2, m, rfl, hwl.2, by omega, by omega, fun H3 q e3 nq ⟨qs, hq, hqp⟩ => ⟨q, rfl, ⟨_, SqL.of hq⟩, ?_⟩⟩
      have eP : pcsAt s m o = pcs wo.x o.2 m := by unfold pcsAt; rw [wordAt_of hwo]
      rw [← eP] at hqp
      have plen : (pcsAt s m o).length ≤ 300 := by
        rw [eP]
        have z := pcs_len wo.x o.2 m
        have z2 : 4 * (wo.x.length + 1) * m ≤ 4 * 17 * 3 := Nat.mul_le_mul (by omega) hm
        omega
      have nqd : q ≠ d := fun z => by rw [z, I.dict] at nq; cases nq
      have I3 := I.on e3
      have nG : ∀ {G2 : List PGrp} {C : Pc → List (Nat × Nat)} {n : Nat} {H4 : Hp}, PmInv P w H1 d H4 G2 C n → True := fun _ => trivial
      refine for_it (walk_list (K := K) (a := q) (xs := qs.map V.ref)) (fun j σ H' => ∃ v6 G' n', σ = [some (.ref a), some (.int (m : Nat)), some (.ref d), some (.ref c), some (.int (o.1 : Nat)), some (.int (o.2 : Nat)), v6] ∧ n' ≤ n + j ∧ PmInv P w H1 d H' G' (midP s m i j o) n' ∧ H' q = some (.lst (qs.map V.ref)) ∧ (∀ g ∈ G', g.2.2 ≠ q) ∧ Paired (PcAt H') qs (pcsAt s m o)) ?_ ?_ ?_ ?_
      · refine ⟨v6, G, n, rfl, Nat.le_refl _, I3.as (fun p => ?_) (Nat.le_refl _), hq, fun g hg z => ?_, hqp⟩
        · unfold midP
          simp
        · obtain ⟨cas, hcas, _⟩ := I.cont g hg
          rw [z, nq] at hcas
          cases hcas
      · rintro j σ H' _ ⟨_, _, _, _, _, _, e, _⟩
        exact SqL.of e
      · rintro j x σ H4 H5 hj ⟨v6', G', n', rfl, hn', J, hq5, nq5, hqp5⟩ ⟨rfl, hx⟩
        obtain ⟨kt, hkt, rfl⟩ := refs_get hx
        obtain ⟨p, hp, hpa⟩ := pget hqp5 hkt
        have jl : j < 300 := by
          rw [List.length_map, hqp.length] at hj
          omega
        have pn : p ∉ (pcsAt s m o).take j := fun z => by
          have nd : (pcsAt s m o).Nodup := by rw [eP]; exact pcs_nodup _ _ _
          obtain ⟨i1, hi1⟩ := List.mem_iff_getElem?.mp z
          have i1j : i1 < j := by
            have := (List.getElem?_eq_some_iff.mp hi1).1
            rw [List.length_take] at this
            omega
          rw [List.getElem?_take, if_pos i1j] at hi1
          have := nd_ix nd hi1 hp
          omega
        have eC : ∀ k, midP s m i (j + 1) o k = midP s m i j o k ++ if k = p then [o] else [] := fun k => by
          unfold midP
          rw [take_more hp, List.append_assoc]
          congr 1
          by_cases e : k = p
          · subst e
            rw [if_pos (List.mem_append.mpr (.inr (List.mem_singleton.mpr rfl))), if_neg pn, if_pos rfl]
            rfl
          · rw [if_neg e, List.append_nil]
            by_cases e2 : k ∈ (pcsAt s m o).take j
            · rw [if_pos e2, if_pos (List.mem_append.mpr (.inl e2))]
            · rw [if_neg e2, if_neg]
              intro z
              rcases List.mem_append.mp z with z | z
              · exact e2 z
              · exact e (List.mem_singleton.mp z)
        refine ⟨_, rfl, d, _, rfl, J.dict, _, rfl, by show 0 ≤ sizeLine; exact Nat.zero_le _, fun z hz => ?_⟩
        have eZ : Same H5 (upd H5 z (.lst [])) := same_upd hz
        have hkeys : ∀ r ∈ G'.map pgD, NkAt P w (upd H5 z (.lst [])) r.1 r.2.1 := fun r hr => by
          obtain ⟨g, hg, rfl⟩ := List.mem_map.mp hr
          exact pc_nk (PcAt.same _ _ _ _ eZ (J.keys g hg))
        have gl : G'.length < 120000 := by
          have := J.few
          omega
        have conl : ∀ g : PGrp, (midP s m i j o g.1).length ≤ 400 := fun g => by
          unfold midP
          rw [List.length_append]
          have z1 := List.length_filter_le (fun o => decide (g.1 ∈ pcsAt s m o)) ((spotsP s).take i)
          rw [List.length_take] at z1
          split <;> simp <;> omega
        refine ⟨G'.map pgD, pkK p, kt, eZ _ _ J.dict, hkeys, rfl, pc_nk (PcAt.same _ _ _ _ eZ hpa), ?_, fun v hv => ?_, fun hno => ?_⟩
        · rw [List.length_map]
          exact Nat.lt_of_lt_of_le gl (by rw [sizeLine_eq]; decide)
        · obtain ⟨g, hg, hgk, rfl⟩ := pg_some hv
          obtain ⟨cas, hcas, hcp, _⟩ := J.cont g hg
          have ngq := nq5 g hg
          refine ⟨.inl ⟨rfl, _, SqL.of (eZ _ _ hcas)⟩, _, rfl, g.2.2, _, _, rfl, rfl, eZ _ _ hcas, ?_, ?_⟩
          · rw [List.length_map, hcp.length]
            exact Nat.lt_of_le_of_lt (conl g) (by decide)
          · refine ⟨_, G', n' + 1, rfl, by omega, J.old hoa hz hg hgk rfl hcas eC, ?_, nq5, Paired.mapP hqp5 fun x y h => ?_⟩
            · rw [upd_ne (Ne.symm ngq)]
              exact eZ _ _ hq5
            · show upd _ _ _ x = _
              rw [upd_ne (ne_of h hcas (by intro z; cases z))]
              exact eZ _ _ h
        · have hno := pg_none hno
          have nzd : z ≠ d := fun e => by rw [e, J.dict] at hz; cases hz
          have nzq : q ≠ z := ne_of_none hq5 hz
          refine ⟨.inl ⟨rfl, _, SqL.of ((upd_ne nzd).trans upd_same)⟩, _, rfl, z, _, _, rfl, rfl, (upd_ne nzd).trans upd_same, ?_, ?_⟩
          · show 0 < sizeLine
            decide
          · refine ⟨_, G' ++ [(p, kt, z)], n' + 1, rfl, by omega, J.new hoa hpa hz hno (by rw [List.map_append]; rfl) eC, ?_, fun g hg => ?_, Paired.mapP hqp5 fun x y h => ?_⟩
            · rw [upd_ne nzq, upd_ne nqd]
              exact eZ _ _ hq5
            · rcases List.mem_append.mp hg with hg | hg
              · exact nq5 g hg
              · rw [List.mem_singleton.mp hg]
                exact Ne.symm nzq
            · show upd _ _ _ x = _
              rw [upd_ne (ne_of_none h hz), upd_ne (ne_of h J.dict (by intro z; cases z))]
              exact eZ _ _ h
      · rintro σ H4 ⟨v6', G', n', rfl, hn', J, hq5, nq5, hqp5⟩
        have ql : (qs.map V.ref).length = (pcsAt s m o).length := by rw [List.length_map, hqp.length]
        rw [ql] at J hn'
        refine ⟨_, _, _, _, G', n', rfl, by omega, J.as (fun p => ?_) (Nat.le_refl _)⟩
        unfold midP
        rw [List.take_length, take_more ho, List.filter_append]
        congr 1
        simp only [List.filter_cons, List.filter_nil]
        by_cases e : p ∈ pcsAt s m o <;> simp [e]
    · rintro σ H2 ⟨v3, v4, v5, v6, G, n, rfl, hn, I⟩
      have hal : (as.map V.ref).length = (spotsP s).length := by rw [List.length_map, has.length]
      rw [hal, List.take_length] at I
      refine ⟨_, rfl, k H2 d (big I) hd ⟨G, I.dict, I.keys, fun o ho p hp => ?_, fun g hg ok hm => ?_⟩⟩
      · apply Classical.byContradiction
        intro z
        have e := I.rest p z
        have : o ∈ (spotsP s).filter fun o => decide (p ∈ pcsAt s m o) := List.mem_filter.mpr ⟨ho, decide_eq_true hp⟩
        rw [e] at this
        cases this
      · obtain ⟨cas, hcas, hcp, _⟩ := I.cont g hg
        rw [stand_is ok hm] at hcp
        exact ⟨cas, hcas, Paired.mapP hcp fun x y h => pair2 I h⟩
end
end WG
set_option Elab.async false
set_option linter.all false
set_option maxRecDepth 100000
set_option maxHeartbeats 2000000
namespace WG
open PySem PySem.Spec PyProof.Rows L2
/-! ### weigh_by_pieces, weigh_evidence -/
theorem for_stand (s : Vahypa.Lst) (i : Nat) (p : Pc) : forN s (othersP s i) p = ((standP s p).filter fun o => !decide (o.1 = i) && yesP s o).length := by
  unfold forN othersP standP
  rw [List.filter_filter, List.filter_filter]
  congr 1
  refine List.filter_congr fun o _ => ?_
  cases decide (o.1 = i) <;> cases fitsP p (Vahypc.wordAt s o.1) o.2 <;> cases yesP s o <;> rfl
theorem ag_stand (s : Vahypa.Lst) (i : Nat) (p : Pc) : agN s (othersP s i) p = ((standP s p).filter fun o => !decide (o.1 = i) && !yesP s o).length := by
  unfold agN othersP standP
  rw [List.filter_filter, List.filter_filter]
  congr 1
  refine List.filter_congr fun o _ => ?_
  cases decide (o.1 = i) <;> cases fitsP p (Vahypc.wordAt s o.1) o.2 <;> cases yesP s o <;> rfl
abbrev s_weigh_by_pieces : Stmt := top 17
abbrev N_weigh_by_pieces : List Str := ["wordlist", "spot", "length", "spots_by_piece", "number", "gap", "evidence_for", "evidence_against", "piece", "other"]
theorem sc_weigh_by_pieces : FnScope N_weigh_by_pieces ["wordlist", "spot", "length", "spots_by_piece"] (defScope s_weigh_by_pieces) := ⟨rfl, rfl, rfl, by decide +kernel, rfl, by decide +kernel, by decide +kernel⟩
def sp_weigh_by_pieces (P : Program) (w : World) (D : Ads) : Sp := fun vs H Q _ => ∃ a p s i g m wd d, vs = [.ref a, .ref p, .int (m : Nat), .ref d] ∧ ListAt D H a s ∧ Fine s ∧ PairAt H p (i, g) ∧ s.words[i]? = some wd ∧ (i, g) ∈ spotsP s ∧ m ≤ 3 ∧ PMap P w H d s m ∧
  ∀ H' t, Same H H' → H' t = some (.tup [.int (forT s (othersP s i) (pcs wd.x g m) : Nat), .int (agT s (othersP s i) (pcs wd.x g m) : Nat)]) → Q (.ref t) H'
section
variable {P : Program} {w : World} {K : PySem.W.Frag} {mg : Str → Option Value} {base : Heap} {D : Ads}
theorem df_weigh_by_pieces {f : Addr} {fd : FuncData} (F : At K mg "weigh_by_pieces" s_weigh_by_pieces ["wordlist", "spot", "length", "spots_by_piece"] f fd) (T : Txt K mg D)
    (c_find_pieces_around : Df P w K mg base CX0 2 "find_pieces_around" ["letters", "gap", "length"] sp_find_pieces_around) (c_may_part : Df P w K mg base CX0 1 "may_part" ["wordlist", "spot"] (sp_may_part D)) :
    Df P w K mg base CX0 3 "weigh_by_pieces" ["wordlist", "spot", "length", "spots_by_piece"] (sp_weigh_by_pieces P w D) := by
  refine df0 (N := N_weigh_by_pieces) F sc_weigh_by_pieces (fun vs H Q E h => ?_) (fun cdv A outer s H vs Q E hr h => ⟨_, (pss_cons (ps_asg (pv 1) (pg_tup rfl (pgs_cons (pg_name (i := 4) sc_weigh_by_pieces.nd rfl (Or.inl rfl)) (pgs_cons (pg_name (i := 5) sc_weigh_by_pieces.nd rfl (Or.inl rfl)) pgs_nil))))
(pss_cons (ps_set (i := 6) sc_weigh_by_pieces.nd rfl (Or.inl rfl) pe_int)
(pss_cons (ps_set (i := 7) sc_weigh_by_pieces.nd rfl (Or.inl rfl) pe_int)
(pss_cons (ps_for PassesOwn.never rfl (pi_list (pe_d0 c_find_pieces_around hr (by decide) rfl (pa_cons (pe_fld (pe_ix ix_list (pe_fld (pv 0) rfl) (pv 4) (fun _ _ => rfl)) rfl) (pa_cons (pv 5) (pa_cons (pv 2) pa_nil))))) (pg_name (i := 8) sc_weigh_by_pieces.nd rfl (Or.inl rfl))
(pss_one (ps_for PassesOwn.never rfl (pi_list (pe_ix (ix_nd hr.units) (pv 3) (pv 8) (fun _ _ => rfl))) (pg_name (i := 9) sc_weigh_by_pieces.nd rfl (Or.inl rfl))
(pss_one (ps_if (pt_cmpR op_ne (pe_ix ix_tup (pv 9) pe_int (fun _ _ => rfl)) (pv 4) (nomark _))
(pss_one (ps_if (pt_val (pe_d0 c_may_part hr (by decide) rfl (pa_cons (pv 0) (pa_cons (pv 9) pa_nil))))
(pss_one (ps_aug (i := 6) sc_weigh_by_pieces.nd rfl (Or.inl rfl) pe_int ip_add))
(pss_one (ps_aug (i := 7) sc_weigh_by_pieces.nd rfl (Or.inl rfl) pe_int ip_add))))
pss_nil)))))
(pss_one (ps_ret (pe_tup (pa_cons (pv 6) (pa_cons (pv 7) pa_nil))))))))), ?_⟩)
  · obtain ⟨a, p, s, i, g, m, wd, d, rfl, _⟩ := h
    rfl
  · obtain ⟨a, p, s, i, g, m, wd, d, rfl, hL, hF, hp, hw, hsp, hm, hM, k⟩ := h
    obtain ⟨wd', hw', hg1, hg2, hwm0⟩ := spots_in hsp
    have ew : wd' = wd := Option.some.inj (hw'.symm.trans hw)
    subst ew
    refine ⟨_, rfl, p, _, rfl, SqT.of hp, rfl, _, _, rfl, _, _, rfl, rfl, ?_⟩
    obtain ⟨dx, wl, pl, h1, ⟨ws, h2, h2p⟩, h3⟩ := id hL
    obtain ⟨wa, hwa, dw, bl, hw1, hw2⟩ := pget2 h2p hw
    have hwm := hF.lx wd' hwm0
    -- for piece in find_pieces_around(wordlist.words[number].letters, gap, length)
    refine ⟨_, rfl, a, D.cL, dx, _, _, rfl, h1, T.kL, T.lW, fL_words _ _ _ _, _, rfl, wl, _, _, .ref wa, rfl, rfl, SqL.of h2, atI_nat (by rw [List.getElem?_map, hwa] <;> rfl), ?_⟩
    refine ⟨wa, D.cW, dw, _, _, rfl, hw1, T.kW, T.wL, fW_letters _ _, _, rfl, _, rfl, ?_⟩
    refine ⟨wd'.x, g, m, rfl, hwm.2, by omega, Nat.le_of_lt hg2, fun H3 q e3 nq ⟨qs, hq, hqp⟩ => ⟨q, rfl, ⟨_, SqL.of hq⟩, ?_⟩⟩
    have hM3 := hM.same e3
    have hL3 : ListAt D H3 a s := hL.same e3
    refine for_it (walk_list (K := K) (a := q) (xs := qs.map V.ref)) (fun n σ H' => ∃ v8 v9, σ = [some (.ref a), some (.ref p), some (.int (m : Nat)), some (.ref d), some (.int (i : Nat)), some (.int (g : Nat)), some (.int (forT s (othersP s i) ((pcs wd'.x g m).take n) : Nat)), some (.int (agT s (othersP s i) ((pcs wd'.x g m).take n) : Nat)), v8, v9] ∧ H' = H3) ⟨none, none, rfl, rfl⟩ ?_ ?_ ?_
    · rintro n σ H' _ ⟨_, _, _, rfl⟩
      exact SqL.of hq
    · rintro n x σ H4 H5 hn ⟨v8, v9, rfl, rfl⟩ ⟨rfl, hx⟩
      obtain ⟨c, hc, rfl⟩ := refs_get hx
      obtain ⟨pc, hpc, hpca⟩ := pget hqp hc
      have hpcm : pc ∈ pcsAt s m (i, g) := by
        unfold pcsAt
        rw [wordAt_of hw]
        exact List.mem_of_getElem? hpc
      obtain ⟨kvs, l, hd, hkeys, hat, bs, hl, hbp⟩ := hM3.find hsp hpcm
      -- for other in spots_by_piece[piece]
      refine ⟨_, rfl, _, rfl, d, kvs, pkK pc, c, _, rfl, rfl, hd, hkeys, pc_nk hpca, hat, l, rfl, ⟨_, SqL.of hl⟩, ?_⟩
      refine for_it (walk_list (K := K) (a := l) (xs := bs.map V.ref)) (fun j σ H' => ∃ v9, σ = [some (.ref a), some (.ref p), some (.int (m : Nat)), some (.ref d), some (.int (i : Nat)), some (.int (g : Nat)), some (.int ((forT s (othersP s i) ((pcs wd'.x g m).take n) + (((standP s pc).take j).filter fun o => !decide (o.1 = i) && yesP s o).length : Nat) : Int)), some (.int ((agT s (othersP s i) ((pcs wd'.x g m).take n) + (((standP s pc).take j).filter fun o => !decide (o.1 = i) && !yesP s o).length : Nat) : Int)), some (.ref c), v9] ∧ H' = H5) ⟨v9, rfl, rfl⟩ ?_ ?_ ?_
      · rintro j σ H' _ ⟨_, _, rfl⟩
        exact SqL.of hl
      · rintro j x σ H6 H7 hj ⟨v9', rfl, rfl⟩ ⟨rfl, hx⟩
        obtain ⟨e, he, rfl⟩ := refs_get hx
        obtain ⟨o, ho, hoa⟩ := pget hbp he
        obtain ⟨wo, hwo, ho1, ho2, hwom⟩ := spots_in (List.mem_filter.mp (List.mem_of_getElem? ho)).1
        have turn : ∀ (u v : Nat), u = forT s (othersP s i) ((pcs wd'.x g m).take n) + (((standP s pc).take (j + 1)).filter fun o => !decide (o.1 = i) && yesP s o).length → v = agT s (othersP s i) ((pcs wd'.x g m).take n) + (((standP s pc).take (j + 1)).filter fun o => !decide (o.1 = i) && !yesP s o).length →
            ∃ v9, [some (V.ref a), some (.ref p), some (.int (m : Nat)), some (.ref d), some (.int (i : Nat)), some (.int (g : Nat)), some (.int (u : Int)), some (.int (v : Int)), some (.ref c), some (.ref e)] = [some (V.ref a), some (.ref p), some (.int (m : Nat)), some (.ref d), some (.int (i : Nat)), some (.int (g : Nat)), some (.int ((forT s (othersP s i) ((pcs wd'.x g m).take n) + (((standP s pc).take (j + 1)).filter fun o => !decide (o.1 = i) && yesP s o).length : Nat) : Int)), some (.int ((agT s (othersP s i) ((pcs wd'.x g m).take n) + (((standP s pc).take (j + 1)).filter fun o => !decide (o.1 = i) && !yesP s o).length : Nat) : Int)), some (.ref c), v9] ∧ H7 = H7 := fun u v hu hv => by
          subst hu
          subst hv
          exact ⟨_, rfl, rfl⟩
        have eF : ∀ q : Nat × Nat → Bool, (((standP s pc).take (j + 1)).filter q).length = (((standP s pc).take j).filter q).length + if q o = true then 1 else 0 := fun q => by
          rw [take_more ho, List.filter_append, List.length_append, List.filter_cons, List.filter_nil]
          split <;> rfl
        have eY : wo.cuts.contains o.2 = yesP s o := by unfold yesP; rw [hwo]
        refine ⟨_, rfl, e, _, 0, _, rfl, rfl, SqT.of hoa, rfl, _, rfl, rfl, _, rfl, ?_⟩
        have ed : decide (V.int (o.1 : Nat) = V.int (i : Nat)) = decide (o.1 = i) := by
          rw [Bool.eq_iff_iff]
          simp only [decide_eq_true_eq, int_iff]
          omega
        rw [ed]
        by_cases dd : o.1 = i
        · rw [decide_eq_true dd]
          refine iteF (turn _ _ ?_ ?_)
          · rw [eF]; simp [dd]
          · rw [eF]; simp [dd]
        · rw [decide_eq_false dd]
          refine iteT ⟨_, rfl, _, rfl, a, e, s, o.1, o.2, wo, rfl, hL3, hoa, hwo, _, rfl, ?_⟩
          rw [eY]
          cases hy : yesP s o with
          | true =>
            refine iteT ⟨_, rfl, _, _, rfl, rfl, turn _ _ ?_ ?_⟩
            · rw [eF]; simp [dd, hy]; rfl
            · rw [eF]; simp [dd, hy]
          | false =>
            refine iteF ⟨_, rfl, _, _, rfl, rfl, turn _ _ ?_ ?_⟩
            · rw [eF]; simp [dd, hy]
            · rw [eF]; simp [dd, hy]; rfl
      · rintro σ H6 ⟨v9', rfl, rfl⟩
        refine ⟨some (.ref c), v9', ?_, rfl⟩
        have el : (bs.map V.ref).length = (standP s pc).length := by rw [List.length_map, hbp.length]
        rw [el, List.take_length, ← for_stand, ← ag_stand]
        have e1 : forT s (othersP s i) ((pcs wd'.x g m).take (n + 1)) = forT s (othersP s i) ((pcs wd'.x g m).take n) + forN s (othersP s i) pc := by
          unfold forT
          rw [take_more hpc, List.map_append, List.sum_append]
          simp
        have e2 : agT s (othersP s i) ((pcs wd'.x g m).take (n + 1)) = agT s (othersP s i) ((pcs wd'.x g m).take n) + agN s (othersP s i) pc := by
          unfold agT
          rw [take_more hpc, List.map_append, List.sum_append]
          simp
        rw [e1, e2]
    · rintro σ H4 ⟨v8, v9, rfl, rfl⟩
      refine ⟨_, rfl, _, rfl, by show 2 ≤ sizeLine; decide, fun t ht => ?_⟩
      refine k _ t (e3.trans (same_upd ht)) ?_
      have el : (qs.map V.ref).length = (pcs wd'.x g m).length := by rw [List.length_map, hqp.length]
      rw [upd_same, el, List.take_length]
end
abbrev s_weigh_evidence : Stmt := top 16
abbrev N_weigh_evidence : List Str := ["wordlist", "spot", "length"]
theorem sc_weigh_evidence : FnScope N_weigh_evidence ["wordlist", "spot", "length"] (defScope s_weigh_evidence) := ⟨rfl, rfl, rfl, by decide +kernel, rfl, by decide +kernel, by decide +kernel⟩
def sp_weigh_evidence (D : Ads) : Sp := fun vs H Q _ => ∃ a p s i g m wd, vs = [.ref a, .ref p, .int (m : Nat)] ∧ ListAt D H a s ∧ Fine s ∧ PairAt H p (i, g) ∧ s.words[i]? = some wd ∧ (i, g) ∈ spotsP s ∧ m ≤ 3 ∧
  ∀ H' t, Same H H' → H' t = some (.tup [.int (forT s (othersP s i) (pcs wd.x g m) : Nat), .int (agT s (othersP s i) (pcs wd.x g m) : Nat)]) → Q (.ref t) H'
section
variable {P : Program} {w : World} {K : PySem.W.Frag} {mg : Str → Option Value} {base : Heap} {D : Ads}
theorem df_weigh_evidence {f : Addr} {fd : FuncData} (F : At K mg "weigh_evidence" s_weigh_evidence ["wordlist", "spot", "length"] f fd) (T : Txt K mg D)
    (c_weigh_by_pieces : Df P w K mg base CX0 3 "weigh_by_pieces" ["wordlist", "spot", "length", "spots_by_piece"] (sp_weigh_by_pieces P w D)) (c_map_pieces : Df P w K mg base CX0 3 "map_pieces" ["wordlist", "length"] (sp_map_pieces P w D)) :
    Df P w K mg base CX0 4 "weigh_evidence" ["wordlist", "spot", "length"] (sp_weigh_evidence D) := by
  refine df0 (N := N_weigh_evidence) F sc_weigh_evidence (fun vs H Q E h => ?_) (fun cdv A outer s H vs Q E hr h => ⟨_, (pss_one (ps_ret (pe_d0 c_weigh_by_pieces hr (by decide) rfl (pa_cons (pv 0) (pa_cons (pv 1) (pa_cons (pv 2) (pa_cons (pe_d0 c_map_pieces hr (by decide) rfl (pa_cons (pv 0) (pa_cons (pv 2) pa_nil))) pa_nil))))))), ?_⟩)
  · obtain ⟨a, p, s, i, g, m, wd, rfl, _⟩ := h
    rfl
  · obtain ⟨a, p, s, i, g, m, wd, rfl, hL, hF, hp, hw, hsp, hm, k⟩ := h
    refine ⟨_, rfl, _, rfl, _, rfl, _, rfl, _, rfl, a, s, m, rfl, hL, hF, hm, fun H1 d e1 nd hM => ?_⟩
    exact ⟨a, p, s, i, g, m, wd, d, rfl, hL.same e1, hF, PairAt.same _ _ _ _ e1 hp, hw, hsp, hm, hM, fun H' t e2 ht => k H' t (e1.trans e2) ht⟩
end
end WG
set_option Elab.async false
set_option linter.all false
set_option maxRecDepth 100000
set_option maxHeartbeats 2000000
namespace WG
open PySem PySem.Spec PyProof.Rows L2
open Vahype (Spot spotsOf)
/-! ### answer_evidence -/
def duo (x y : Int) : PyData := .tuple [.int x, .int y]
theorem duos_lay : ∀ l : List (Nat × Nat), PyData.canLayAll0 (l.map fun o => duo o.1 o.2) = true
  | [] => by simp [PyData.canLayAll0]
  | z :: zs => by
    have ih := duos_lay zs
    simp only [duo] at ih ⊢
    simp [PyData.canLayAll0, PyData.canLay0, ih]
theorem duos_depth : ∀ l : List (Nat × Nat), PyData.depthAll (l.map fun o => duo o.1 o.2) ≤ 2
  | [] => by simp [PyData.depthAll]
  | z :: zs => by
    have h1 := duos_depth zs
    have h2 : (duo z.1 z.2).depth ≤ 2 := by simp [duo, PyData.depth, PyData.depthAll]
    simp only [List.map_cons, PyData.depthAll]
    omega
theorem duos_shaped (l : List (Nat × Nat)) : SeqAt.shaped (.list (l.map fun o => duo o.1 o.2)) = true := by
  have h1 := duos_depth l
  have h2 : PyData.depth (.list (l.map fun o => duo o.1 o.2)) ≤ 64 := by
    simp only [PyData.depth]
    omega
  show (PyData.canLay0 (.list (l.map fun o => duo o.1 o.2)) && decide (PyData.depth (.list (l.map fun o => duo o.1 o.2)) ≤ 64)) = true
  rw [Bool.and_eq_true]
  exact ⟨by simp only [PyData.canLay0]; exact duos_lay l, decide_eq_true h2⟩
theorem duo_shaped (x y : Int) : SeqAt.shaped (duo x y) = true := by
  show (PyData.canLay0 (duo x y) && decide (PyData.depth (duo x y) ≤ 64)) = true
  simp [duo, PyData.canLay0, PyData.canLayAll0, PyData.depth, PyData.depthAll]
theorem duo_eqv (x y u v : Int) : PyData.eqv (duo x y) (duo u v) = ((x == u) && (y == v)) := by
  simp only [duo, PyData.eqv, PyData.eqvAll, Bool.and_true]
theorem duo_dp {K : PySem.W.Frag} {H : Hp} {a : Addr} {x y : Int} (h : H a = some (.tup [.int x, .int y])) : Dp K H (.ref a) (duo x y) := .tup (SqT.of h) (.cons (.int _) (.cons (.int _) .nil))
theorem duos_dp {K : PySem.W.Frag} {H : Hp} : ∀ {as : List Addr} {l : List (Nat × Nat)}, Paired (PairAt H) as l → DpAll K H (as.map V.ref) (l.map fun o => duo o.1 o.2)
  | _, _, .nil => .nil
  | _, _, .cons h t => .cons (duo_dp h) (duos_dp t)
def findS (s : Vahypa.Lst) (i g : Int) : Option Spot := (VahypBase.index i s.words.length).bind fun j => (spotsOf s).find? fun a => a.w == j && (a.g : Int) == g
theorem found_spot {s : Vahypa.Lst} {i g : Int} {o : Nat × Nat} (ho : o ∈ spotsP s) (hi : (o.1 : Int) = i) (hg : (o.2 : Int) = g) : ∃ a, a ∈ spotsOf s ∧ pr a = o ∧ findS s i g = some a := by
  obtain ⟨a0, h0, e0⟩ := List.mem_map.mp (show o ∈ (spotsOf s).map pr from ho)
  have lt := spot_lt ho
  have some_ : ((spotsOf s).find? fun a => a.w == o.1 && (a.g : Int) == g).isSome = true := by
    rw [List.find?_isSome]
    refine ⟨a0, h0, ?_⟩
    rw [← e0] at hg ⊢
    simp only [pr] at hg ⊢
    simp [hg]
  obtain ⟨a, ha⟩ := Option.isSome_iff_exists.mp some_
  have p := List.find?_some ha
  simp only [Bool.and_eq_true, beq_iff_eq] at p
  refine ⟨a, List.mem_of_find?_eq_some ha, ?_, ?_⟩
  · unfold pr
    rw [p.1, show a.g = o.2 by omega]
  · unfold findS VahypBase.index
    rw [if_pos (by omega), show i.toNat = o.1 by omega]
    exact ha
theorem no_spot {s : Vahypa.Lst} {i g : Int} (h : ∀ o ∈ spotsP s, ¬ ((o.1 : Int) = i ∧ (o.2 : Int) = g)) : findS s i g = none := by
  unfold findS VahypBase.index
  by_cases c : 0 ≤ i ∧ i < (s.words.length : Int)
  · rw [if_pos c]
    show (spotsOf s).find? _ = none
    rw [List.find?_eq_none]
    intro a ha z
    simp only [Bool.and_eq_true, beq_iff_eq] at z
    refine h (pr a) (List.mem_map.mpr ⟨a, ha, rfl⟩) ⟨?_, z.2⟩
    show (a.w : Int) = i
    omega
  · rw [if_neg c]
    rfl
theorem len_out {m : Int} {f : Nat → VahypBase.Answer} (h : ¬ (1 ≤ m ∧ m ≤ 3)) : Vahype.withLength m f = VahypBase.one (-3) := by
  unfold Vahype.withLength Vahype.LENGTH
  rw [if_pos (by omega)]
theorem len_in {m : Int} {f : Nat → VahypBase.Answer} (h : 1 ≤ m ∧ m ≤ 3) : Vahype.withLength m f = f m.toNat := by
  unfold Vahype.withLength Vahype.LENGTH
  rw [if_neg (by omega)]
theorem ans_evidence {s : Vahypa.Lst} {i g m : Int} (h : 1 ≤ m ∧ m ≤ 3) : ansOf s (.evidence i g m) = (match findS s i g with
    | none => [-2]
    | some a => [if a.yes = true then 1 else 0, ((Vahype.evidenceOf s m.toNat a).1 : Int), ((Vahype.evidenceOf s m.toNat a).2 : Int)]) := by
  unfold ansOf Vahype.looked
  dsimp only
  rw [len_in h]
  show VahypeNeutral.encode (match findS s i g with | none => _ | some a => _) = _
  cases findS s i g <;> rfl
abbrev s_answer_evidence : Stmt := top 79
abbrev N_answer_evidence : List Str := ["wordlist", "spot", "m", "evidence_for", "evidence_against"]
theorem sc_answer_evidence : FnScope N_answer_evidence ["wordlist", "spot", "m"] (defScope s_answer_evidence) := ⟨rfl, rfl, rfl, by decide +kernel, rfl, by decide +kernel, by decide +kernel⟩
def sp_answer_evidence (D : Ads) : Sp := fun vs H Q _ => ∃ a p s i g m, vs = [.ref a, .ref p, .int m] ∧ ListAt D H a s ∧ Read s ∧ H p = some (.tup [.int i, .int g]) ∧ Out H Q (ansOf s (.evidence i g m))
section
variable {P : Program} {w : World} {K : PySem.W.Frag} {mg : Str → Option Value} {base : Heap} {D : Ads}
theorem df_answer_evidence {f : Addr} {fd : FuncData} (F : At K mg "answer_evidence" s_answer_evidence ["wordlist", "spot", "m"] f fd) (T : Txt K mg D)
    (c_find_spots : Df P w K mg base CX0 1 "find_spots" ["wordlist"] (sp_find_spots D)) (c_weigh_evidence : Df P w K mg base CX0 4 "weigh_evidence" ["wordlist", "spot", "length"] (sp_weigh_evidence D))
    (c_may_part : Df P w K mg base CX0 1 "may_part" ["wordlist", "spot"] (sp_may_part D)) : Df P w K mg base CX0 5 "answer_evidence" ["wordlist", "spot", "m"] (sp_answer_evidence D) := by
  refine df0 (N := N_answer_evidence) F sc_answer_evidence (fun vs H Q E h => ?_) (fun cdv A outer s H vs Q E hr h => ⟨_, (pss_cons (ps_if (pt_not (pt_chain op_le op_le pe_int (pv 2) pe_int))
(pss_one (ps_ret (pe_lst (pa_cons (pe_un un_neg pe_int) pa_nil))))
pss_nil)
(pss_cons (ps_if (pt_cmpR (op_notInD (hu65 hr)) (pv 1) (pe_d0 c_find_spots hr (by decide) rfl (pa_cons (pv 0) pa_nil)) (by rfl))
(pss_one (ps_ret (pe_lst (pa_cons (pe_un un_neg pe_int) pa_nil))))
pss_nil)
(pss_cons (ps_asg (pe_d0 c_weigh_evidence hr (by decide) rfl (pa_cons (pv 0) (pa_cons (pv 1) (pa_cons (pv 2) pa_nil)))) (pg_tup rfl (pgs_cons (pg_name (i := 3) sc_answer_evidence.nd rfl (Or.inl rfl)) (pgs_cons (pg_name (i := 4) sc_answer_evidence.nd rfl (Or.inl rfl)) pgs_nil))))
(pss_one (ps_ret (pe_lst (pa_cons (pe_ifExp (pt_val (pe_d0 c_may_part hr (by decide) rfl (pa_cons (pv 0) (pa_cons (pv 1) pa_nil)))) pe_int pe_int) (pa_cons (pv 3) (pa_cons (pv 4) pa_nil))))))))), ?_⟩)
  · obtain ⟨a, p, s, i, g, m, rfl, _⟩ := h
    rfl
  · obtain ⟨a, p, s, i, g, m, rfl, hL, hR, hp, k⟩ := h
    by_cases ok : 1 ≤ m ∧ m ≤ 3
    · rw [ans_evidence ok] at k
      refine chain_le (fun _ h => ⟨_, rfl, h⟩) ?_
      refine iteF' (by rw [decide_eq_true ok]; rfl) ?_
      obtain ⟨n, rfl⟩ : ∃ n : Nat, m = (n : Int) := ⟨m.toNat, by omega⟩
      rw [Int.toNat_natCast] at k
      -- if spot not in find_spots(wordlist)
      refine ⟨_, rfl, _, rfl, a, s, rfl, hL, hR.fine, fun H1 l e1 nl ⟨as, hl, has⟩ => ?_⟩
      refine ⟨duo i g, (spotsP s).map (fun o => duo (o.1 : Nat) (o.2 : Nat)), duo_dp (e1 _ _ hp), .lst (SqL.of hl) (duos_dp has), duo_shaped i g, duos_shaped _, _, rfl, ?_⟩
      have ea : (((spotsP s).map fun o => duo o.1 o.2).any fun z => PyData.eqv z (duo i g)) = (spotsP s).any fun o => ((o.1 : Int) == i) && ((o.2 : Int) == g) := by
        rw [List.any_map]
        congr 1
        funext o
        exact duo_eqv _ _ _ _
      rw [ea]
      cases hc : (spotsP s).any fun o => ((o.1 : Int) == i) && ((o.2 : Int) == g) with
      | false =>
        have no : findS s i g = none := no_spot fun o ho z => by
          rw [List.any_eq_false] at hc
          refine hc o ho ?_
          rw [Bool.and_eq_true, beq_iff_eq, beq_iff_eq]
          exact z
        rw [no] at k
        refine iteT' rfl ?_
        exact ⟨_, rfl, by show 1 ≤ sizeLine; decide, (k.on e1).now rfl⟩
      | true =>
        obtain ⟨o, ho, z⟩ := List.any_eq_true.mp hc
        rw [Bool.and_eq_true, beq_iff_eq, beq_iff_eq] at z
        obtain ⟨b, hb, eb, fs⟩ := found_spot ho z.1 z.2
        rw [fs] at k
        dsimp only at k
        rw [evidence_is hb] at k
        obtain ⟨wd, hw, hy, g1, g2, _⟩ := spot_at hb
        rw [wordAt_of hw] at k
        have pp : ∀ {H' : Hp}, Same H H' → PairAt H' p (b.w, b.g) := fun e => by
          have q := e _ _ hp
          rw [← z.1, ← z.2, ← eb] at q
          exact q
        refine iteF' rfl ?_
        -- evidence_for, evidence_against = weigh_evidence(wordlist, spot, m)
        refine ⟨_, rfl, _, rfl, _, rfl, a, p, s, b.w, b.g, n, wd, rfl, hL.same e1, hR.fine, pp e1, hw, List.mem_map.mpr ⟨b, hb, rfl⟩, by omega, fun H2 t e2 ht => ?_⟩
        refine ⟨t, _, rfl, SqT.of ht, rfl, _, _, rfl, _, _, rfl, rfl, ?_⟩
        have e12 := e1.trans e2
        -- return [1 if may_part(wordlist, spot) else 0, ..]
        refine ⟨_, rfl, _, rfl, a, p, s, b.w, b.g, wd, rfl, hL.same e12, pp e12, hw, _, rfl, ?_⟩
        rw [← hy]
        cases hyes : b.yes with
        | true =>
          rw [hyes] at k
          refine iteT ⟨_, rfl, _, rfl, by show 3 ≤ sizeLine; decide, (k.on e12).now rfl⟩
        | false =>
          rw [hyes] at k
          refine iteF ⟨_, rfl, _, rfl, by show 3 ≤ sizeLine; decide, (k.on e12).now rfl⟩
    · have k' : Out H Q [-3] := by
        unfold ansOf Vahype.looked at k
        dsimp only at k
        rw [len_out ok] at k
        exact k
      refine chain_le (fun _ h => ⟨_, rfl, h⟩) ?_
      refine iteT' (by rw [decide_eq_false ok]; rfl) ?_
      exact ⟨_, rfl, by show 1 ≤ sizeLine; decide, k'.now rfl⟩
end
end WG
set_option Elab.async false
set_option linter.all false
set_option maxRecDepth 100000
set_option maxHeartbeats 2000000
namespace WG
open Vahypa (Pat)
open VahypBase (Bytes)
open Vahypc (Cand Choice)
/-! ### a word's score under pieces -/
/-- a word's gaps within the margins -/
def innerP (s : Vahypa.Lst) (x : Bytes) : List Nat := (Vahypa.gaps x).filter (Vahypa.within s x)
theorem filter2 {α : Type} (p q r : α → Bool) (l : List α) (h : ∀ x ∈ l, (q x && p x) = r x) : (l.filter p).filter q = l.filter r := by
  rw [List.filter_filter]
  exact List.filter_congr h
theorem score_is {ps : List Pc} (h : ∀ p ∈ ps, PcOk p) {s : Vahypa.Lst} {w : Vahypa.Word} (hw : WordOk w) (hp : s.pats = ps.map patP) : Vahypa.scoreWord s w =
    ⟨((innerP s w.x).filter fun g => (ps.any fun p => fitsP p w.x g) && w.cuts.contains g).length, ((innerP s w.x).filter fun g => (ps.any fun p => fitsP p w.x g) && !w.cuts.contains g).length,
      ((innerP s w.x).filter fun g => !(ps.any fun p => fitsP p w.x g) && w.cuts.contains g).length⟩ := by
  have e : Vahypa.parts s w.x = (innerP s w.x).filter fun g => ps.any fun p => fitsP p w.x g := by
    unfold Vahypa.parts innerP
    rw [hp, parts_is h, List.filter_filter]
  have ec : ∀ g ∈ Vahypa.gaps w.x, (Vahypa.parts s w.x).contains g = (Vahypa.within s w.x g && ps.any fun p => fitsP p w.x g) := fun g hg => by
    rw [e, Bool.eq_iff_iff]
    unfold innerP
    simp only [List.contains_eq_mem, decide_eq_true_eq, List.mem_filter, Bool.and_eq_true]
    exact ⟨fun q => ⟨q.1.2, q.2⟩, fun q => ⟨⟨hg, q.1⟩, q.2⟩⟩
  unfold Vahypa.scoreWord
  dsimp only
  generalize hL : Vahypa.parts s w.x = L at e ec ⊢
  have m : (w.cuts.filter fun g => Vahypa.within s w.x g && !L.contains g) = (innerP s w.x).filter fun g => !(ps.any fun p => fitsP p w.x g) && w.cuts.contains g := by
    rw [cuts_gaps hw]
    unfold innerP
    rw [List.filter_filter, List.filter_filter]
    refine List.filter_congr fun g hg => ?_
    rw [ec g hg]
    generalize Vahypa.within s w.x g = a
    generalize (ps.any fun p => fitsP p w.x g) = b
    generalize w.cuts.contains g = c
    cases a <;> cases b <;> cases c <;> rfl
  rw [m, e]
  congr 1
  · rw [List.filter_filter]
    congr 1
    refine List.filter_congr fun g _ => ?_
    rw [Bool.and_comm]
  · rw [List.filter_filter]
    congr 1
    refine List.filter_congr fun g _ => ?_
    rw [Bool.and_comm]
/-! ### bits -/
theorem bit_is (m k : Nat) : Vahypc.hasBit m k = m.testBit k := by
  unfold Vahypc.hasBit
  rw [Nat.testBit_eq_decide_div_mod_eq, Bool.eq_iff_iff]
  simp
theorem joinBy_is : ∀ (n a b : Nat), a < 2 ^ n → b < 2 ^ n → Vahypc.joinBy n a b = a ||| b
  | 0, a, b, ha, hb => by
    have h1 : a = 0 := by simpa using ha
    have h2 : b = 0 := by simpa using hb
    subst h1 h2
    rfl
  | n + 1, a, b, ha, hb => by
    rw [Nat.pow_succ] at ha hb
    unfold Vahypc.joinBy
    rw [joinBy_is n (a / 2) (b / 2) (by omega) (by omega)]
    have e1 : (a ||| b) / 2 = a / 2 ||| b / 2 := Nat.or_div_two
    have e2 : (a ||| b) % 2 = 1 ↔ a % 2 = 1 ∨ b % 2 = 1 := Nat.or_mod_two_eq_one
    by_cases c : a % 2 = 1 ∨ b % 2 = 1
    · rw [if_pos c]
      have := e2.mpr c
      omega
    · rw [if_neg c]
      have : ¬ (a ||| b) % 2 = 1 := fun z => c (e2.mp z)
      omega
theorem join_is {a b : Nat} (ha : a < 1024) (hb : b < 1024) : Vahypc.join a b = a ||| b := joinBy_is 10 a b ha hb
/-! ### the table of the best choices -/
theorem best_spec (cs : List Cand) (kd n : Nat) : ∀ (k : Nat) (l : List (Option Choice)), (Vahypc.bestBy cs kd n k l).length = k + l.length ∧ (Vahypc.bestBy cs kd n k l).drop k = l ∧
    ∀ m, m < k → (Vahypc.bestBy cs kd n k l)[m]? = some (Vahypc.bestAt cs kd n m ((Vahypc.bestBy cs kd n k l).drop (m + 1)))
  | 0, l => ⟨(Nat.zero_add _).symm, rfl, fun m h => absurd h (Nat.not_lt_zero _)⟩
  | k + 1, l => by
    obtain ⟨h1, h2, h3⟩ := best_spec cs kd n k (Vahypc.bestAt cs kd n k l :: l)
    have e : Vahypc.bestBy cs kd n (k + 1) l = Vahypc.bestBy cs kd n k (Vahypc.bestAt cs kd n k l :: l) := rfl
    rw [e]
    have d : (Vahypc.bestBy cs kd n k (Vahypc.bestAt cs kd n k l :: l)).drop (k + 1) = l := by
      rw [← List.drop_drop, h2]
      rfl
    refine ⟨by rw [h1, List.length_cons]; omega, d, fun m hm => ?_⟩
    by_cases c : m < k
    · exact h3 m c
    · have em : m = k := by omega
      subst em
      rw [d]
      have z := congrArg (fun z => z[0]?) h2
      rw [List.getElem?_drop] at z
      exact z
end WG
set_option Elab.async false
set_option linter.all false
set_option maxRecDepth 100000
set_option maxHeartbeats 2000000
namespace WG
open SrtO (Swo Srtd Stb eqv eqv_iff)
open Vahype (Doubt intoOrder)
/-! ### a stable order is one -/
theorem stb_one {α : Type} {lt : α → α → Bool} (O : Swo lt) : ∀ {a b : List α}, Srtd lt a → Srtd lt b → Stb lt a b → a = b
  | [], b, _, _, h => (List.nil_perm.mp h.perm).symm
  | x :: a, [], _, _, h => absurd h.perm.length_eq (by simp)
  | x :: a, y :: b, h1, h2, h => by
    obtain ⟨p1, q1⟩ := List.pairwise_cons.mp h1
    obtain ⟨p2, q2⟩ := List.pairwise_cons.mp h2
    have xb : lt x y = false := by
      rcases List.mem_cons.mp (h.perm.mem_iff.mp (.head _)) with e | m
      · rw [e]; exact O.refl y
      · exact p2 x m
    have ya : lt y x = false := by
      rcases List.mem_cons.mp (h.perm.mem_iff.mpr (.head _)) with e | m
      · rw [e]; exact O.refl x
      · exact p1 y m
    have e1 : eqv lt x x = true := eqv_iff.mpr ⟨O.refl x, O.refl x⟩
    have e2 : eqv lt x y = true := eqv_iff.mpr ⟨xb, ya⟩
    have z := h.cls x
    rw [List.filter_cons, List.filter_cons, e1, e2] at z
    simp only [if_true] at z
    have e : x = y := (List.cons.inj z).1
    subst e
    congr 1
    refine stb_one O q1 q2 ⟨List.Perm.cons_inv h.perm, fun u => ?_⟩
    have w := h.cls u
    rw [List.filter_cons, List.filter_cons] at w
    cases hu : eqv lt u x with
    | true =>
      rw [hu] at w
      simp only [if_true] at w
      exact (List.cons.inj w).2
    | false =>
      rw [hu] at w
      simpa using w
/-! ### those doubted most first -/
def ltD (a b : Doubt) : Bool := decide (b.n < a.n)
theorem swoD : Swo ltD := ⟨fun x y h => by
    have := of_decide_eq_true h
    exact decide_eq_false (by omega), fun x y z h1 h2 => by
    have a := of_decide_eq_false h1
    have b := of_decide_eq_false h2
    exact decide_eq_false (by omega)⟩
theorem into_split (d : Doubt) : ∀ {l : List Doubt}, Srtd ltD l → ∃ M N, l = M ++ N ∧ intoOrder d l = M ++ d :: N ∧ (∀ x ∈ M, ltD d x = false) ∧ ∀ x ∈ N, ltD d x = true
  | [], _ => ⟨[], [], rfl, rfl, nofun, nofun⟩
  | e :: r, h => by
    unfold intoOrder
    by_cases c : e.n < d.n
    · rw [if_pos c]
      refine ⟨[], e :: r, rfl, rfl, nofun, fun x hx => ?_⟩
      rcases List.mem_cons.mp hx with rfl | hx
      · exact decide_eq_true c
      · have := of_decide_eq_false ((List.pairwise_cons.mp h).1 x hx)
        exact decide_eq_true (by omega)
    · rw [if_neg c]
      obtain ⟨M, N, e1, e2, e3, e4⟩ := into_split d (List.pairwise_cons.mp h).2
      refine ⟨e :: M, N, by rw [e1]; rfl, by rw [e2]; rfl, fun x hx => ?_, e4⟩
      rcases List.mem_cons.mp hx with rfl | hx
      · exact decide_eq_false c
      · exact e3 x hx
theorem order_from : ∀ (l acc O1 : List Doubt), Srtd ltD acc → Stb ltD acc O1 → Srtd ltD (l.foldl (fun l d => intoOrder d l) acc) ∧ Stb ltD (l.foldl (fun l d => intoOrder d l) acc) (O1 ++ l)
  | [], acc, O1, h1, h2 => ⟨h1, by rw [List.append_nil]; exact h2⟩
  | d :: l, acc, O1, h1, h2 => by
    obtain ⟨M, N, e1, e2, e3, e4⟩ := into_split d h1
    rw [e1] at h1 h2
    have q := order_from l (intoOrder d acc) (O1 ++ [d]) (by rw [e2]; exact SrtO.ins_srtd swoD h1 e3 e4) (by rw [e2]; exact SrtO.ins_stb swoD e4 h2)
    rw [List.append_assoc] at q
    exact q
/-- the order of the doubts is the stable one -/
theorem doubts_order (l : List Doubt) : Srtd ltD (l.foldl (fun l d => intoOrder d l) []) ∧ Stb ltD (l.foldl (fun l d => intoOrder d l) []) l := order_from l [] [] .nil (Stb.refl [])
theorem doubts_one {l out : List Doubt} (h1 : Srtd ltD out) (h2 : Stb ltD out l) : out = l.foldl (fun l d => intoOrder d l) [] :=
  stb_one swoD h1 (doubts_order l).1 (h2.trans ⟨(doubts_order l).2.perm.symm, fun x => ((doubts_order l).2.cls x).symm⟩)
end WG
set_option Elab.async false
set_option linter.all false
set_option maxRecDepth 100000
set_option maxHeartbeats 2000000
namespace WG
open PySem PySem.Spec PyProof.Rows L2
open LamX (TabB Tabs TabS ExtN)
/-! ### tables of code objects, what stays where they grow -/
def qD : Str := (("find_doubts" : Str) ++ ".<locals>.") ++ "<lambda>"
def qC : Str := (("choose_set" : Str) ++ ".<locals>.") ++ "<lambda>"
def tabsT (D : Ads) : List (Addr × Str) := [(D.pD, qD), (D.pC, qC)]
structure TabOk (mg : Str → Option Value) (base : Heap) (D : Ads) : Prop where
  ne : D.pD ≠ D.pC
  d : TabB base mg D.kD D.pD
  c : TabB base mg D.kC D.pC
theorem TabOk.uD {mg : Str → Option Value} {base : Heap} {D : Ads} (x : TabOk mg base D) : ∀ p ∈ tabsT D, p.1 = D.pD → p.2 = qD := fun p hp e => by
  rcases List.mem_cons.mp hp with q | q
  · rw [q]
  · rw [List.mem_singleton.mp q] at e
    exact absurd e.symm x.ne
theorem TabOk.uC {mg : Str → Option Value} {base : Heap} {D : Ads} (x : TabOk mg base D) : ∀ p ∈ tabsT D, p.1 = D.pC → p.2 = qC := fun p hp e => by
  rcases List.mem_cons.mp hp with q | q
  · rw [q] at e
    exact absurd e x.ne
  · rw [List.mem_singleton.mp q]
/-- a def that makes a lambda: its code object is known -/
theorem df0C {P : Program} {w : World} {K : PySem.W.Frag} {mg : Str → Option Value} {base : Heap} {x : Str} {st : Stmt} {f c : Addr} {fd : FuncData} {N ps : List Str} {k : Nat} {sp : Sp} (F : At K mg x st ps f fd) (hk : fd.code = .ref c) (S : FnScope N ps (defScope st)) (len : ∀ vs H Q E, sp vs H Q E → vs.length = ps.length)
    (hbody : ∀ (A : Around) (outer : List Env) (s : Shared) (H : Hp) (vs : List V) (Q : VK) (E : XK), Room k (A.deeper (envOfC x (defScope st) s.heap.objs.size f (.ref c))) → sp vs H Q E →
      ∃ t, PSs (cxOf CX0 P w K mg base N x (defScope st) f (.ref c) A outer s H E).nox (defBody st) t ∧ t { nx := fun _ H' => Q .non H', rt := Q } (start N vs) H) : Df P w K mg base CX0 (k + 1) x ps sp := by
  refine ⟨f, fd, ?_, F.mgf, F.fn.kp, F.b⟩
  obtain ⟨oc, od, kV, doc, pm, an, cdv, ct, osl, rfl, lk, hcd⟩ := F.fn.ex
  have e : cdv = .ref c := hk
  subst e
  refine fn_of lk hcd S len fun A outer s H vs Q E hr hsp => ?_
  obtain ⟨t, h, q⟩ := hbody A outer s H vs Q E hr hsp
  exact ⟨t, h.nox, q⟩
/-- nothing but a table may have stood there -/
def Fresh (H : Hp) (r : Addr) : Prop := ∀ o, H r = some o → ∃ ps, o = HO.tbl ps
theorem Fresh.of {H : Hp} {r : Addr} (h : H r = none) : Fresh H r := fun o e => by rw [h] at e; cases e
theorem extN_fresh {H H' : Hp} {r : Addr} (e : ExtN H H') (h : Fresh H' r) : Fresh H r := fun o q => by
  apply Classical.byContradiction
  intro z
  have n : ∀ ps, o ≠ .tbl ps := fun ps c => z ⟨ps, c⟩
  obtain ⟨ps, c⟩ := h o (e _ _ q n)
  exact n ps c
theorem Fresh.ne {H : Hp} {r b : Addr} {o : HO} (h : Fresh H r) (hb : H b = some o) (n : ∀ ps, o ≠ .tbl ps) : b ≠ r := fun e => by
  rw [e] at hb
  obtain ⟨ps, c⟩ := h o hb
  exact n ps c
theorem lst_tbl {xs : List V} : ∀ ps, HO.lst xs ≠ .tbl ps := fun _ z => by cases z
theorem tup_tbl {xs : List V} : ∀ ps, HO.tup xs ≠ .tbl ps := fun _ z => by cases z
theorem ins_tbl {C dx : Addr} {fs : List (Str × V)} : ∀ ps, HO.ins C dx fs ≠ .tbl ps := fun _ z => by cases z
theorem ext_tbl {φ : Heap → Prop} : ∀ ps, HO.ext φ ≠ .tbl ps := fun _ z => by cases z
theorem dK_tbl {kvs : List (L2.Key × V)} : ∀ ps, HO.dK kvs ≠ .tbl ps := fun _ z => by cases z
theorem tabs_same {T : List (Addr × Str)} {H H' : Hp} (t : Tabs T H) (e : Same H H') : Tabs T H' := LamX.Tabs.ext t e
theorem extN_same {H H' : Hp} (e : Same H H') : ExtN H H' := ExtN.of e
theorem refs_ext {β : Type} {F : Hp → Addr → β → Prop} (hF : ∀ H H' a b, ExtN H H' → F H a b → F H' a b) {H H' : Hp} {l : Addr} {xs : List β} (e : ExtN H H') (h : RefsAt F H l xs) : RefsAt F H' l xs := by
  obtain ⟨as, h1, h2⟩ := h
  exact ⟨as, e _ _ h1 lst_tbl, Paired.mapP h2 fun a b => hF H H' a b e⟩
theorem WordAt.ext {C : Addr} : ∀ (H H' : Hp) (a : Addr) (w : Vahypa.Word), ExtN H H' → WordAt C H a w → WordAt C H' a w := fun _ _ _ _ e ⟨dx, bl, h1, h2⟩ => ⟨dx, bl, e _ _ h1 ins_tbl, e _ _ h2 lst_tbl⟩
theorem PatAt.ext : ∀ (H H' : Hp) (a : Addr) (p : Vahypa.Pat), ExtN H H' → PatAt H a p → PatAt H' a p := fun _ _ _ _ e h => e _ _ h tup_tbl
theorem ListAt.ext {D : Ads} {H H' : Hp} {a : Addr} {s : Vahypa.Lst} (e : ExtN H H') (h : ListAt D H a s) : ListAt D H' a s := by
  obtain ⟨dx, wl, pl, h1, h2, h3⟩ := h
  exact ⟨dx, wl, pl, e _ _ h1 ins_tbl, refs_ext WordAt.ext e h2, refs_ext PatAt.ext e h3⟩
theorem PairAt.ext : ∀ (H H' : Hp) (a : Addr) (p : Nat × Nat), ExtN H H' → PairAt H a p → PairAt H' a p := fun _ _ _ _ e h => e _ _ h tup_tbl
theorem PcAt.ext : ∀ (H H' : Hp) (a : Addr) (p : Pc), ExtN H H' → PcAt H a p → PcAt H' a p := fun _ _ _ _ e h => e _ _ h tup_tbl
/-! ### find_doubts -/
abbrev DbP := (Nat × Nat) × Nat
def dbtOf (s : Vahypa.Lst) (m : Nat) (o : Nat × Nat) : Option DbP :=
  let f := forT s (othersP s o.1) (pcsAt s m o)
  let g := agT s (othersP s o.1) (pcsAt s m o)
  if yesP s o = true then (if f < g then some (o, g - f) else none) else (if g < f then some (o, f - g) else none)
def geD (a b : DbP) : Bool := decide (b.2 ≤ a.2)
def doubtsP (s : Vahypa.Lst) (m : Nat) : List DbP := ((spotsP s).filterMap (dbtOf s m)).mergeSort geD
def DbAt (H : Hp) (a : Addr) (d : DbP) : Prop := ∃ b, H a = some (.tup [.ref b, .int (d.2 : Nat)]) ∧ PairAt H b d.1
theorem DbAt.same : ∀ (H H' : Hp) (a : Addr) (d : DbP), Same H H' → DbAt H a d → DbAt H' a d := fun _ _ _ _ e ⟨b, h1, h2⟩ => ⟨b, e _ _ h1, e _ _ h2⟩
theorem DbAt.ext : ∀ (H H' : Hp) (a : Addr) (d : DbP), ExtN H H' → DbAt H a d → DbAt H' a d := fun _ _ _ _ e ⟨b, h1, h2⟩ => ⟨b, e _ _ h1 tup_tbl, e _ _ h2 tup_tbl⟩
theorem pzip {α β : Type} {F : α → β → Prop} : ∀ {l : List α} {m : List β}, Paired F l m → ∃ zs : List (α × β), zs.map (·.1) = l ∧ zs.map (·.2) = m ∧ ∀ z ∈ zs, F z.1 z.2
  | _, _, .nil => ⟨[], rfl, rfl, nofun⟩
  | _, _, .cons r t => by
    obtain ⟨zs, h1, h2, h3⟩ := pzip t
    refine ⟨(_, _) :: zs, by rw [List.map_cons, h1], by rw [List.map_cons, h2], fun z hz => ?_⟩
    rcases List.mem_cons.mp hz with e | e
    · rw [e]; exact r
    · exact h3 z e
/-- what sorted makes of the doubts' tuples -/
theorem byKey_is {H : Hp} {as : List Addr} {ds : List DbP} (h : Paired (DbAt H) as ds) : ∃ ts : List (Addr × Nat), ts.map (·.1) = as ∧ (∀ t ∈ ts, ∃ b, H t.1 = some (.tup [.ref b, .int (t.2 : Nat)])) ∧ Paired (DbAt H) ((byKey ts).map (·.1)) (ds.mergeSort geD) := by
  obtain ⟨zs, h1, h2, h3⟩ := pzip h
  have e1 : byKey (zs.map fun z => (z.1, z.2.2)) = (zs.mergeSort fun a b => geD a.2 b.2).map fun z => (z.1, z.2.2) := by
    unfold byKey
    rw [PySem.W.dataGe_int fun t : Addr × Nat => (t.2 : Int)]
    refine (PySem.W.sort_maps (fun z : Addr × DbP => (z.1, z.2.2)) fun a _ b _ => ?_).symm
    show decide (b.2.2 ≤ a.2.2) = decide ((b.2.2 : Int) ≤ (a.2.2 : Int))
    rw [Bool.eq_iff_iff, decide_eq_true_eq, decide_eq_true_eq]
    omega
  have e2 : (zs.mergeSort fun a b => geD a.2 b.2).map (·.2) = ds.mergeSort geD := by
    rw [← h2]
    exact PySem.W.sort_maps (fun z : Addr × DbP => z.2) fun a _ b _ => rfl
  refine ⟨zs.map fun z => (z.1, z.2.2), by rw [List.map_map]; exact h1, fun t ht => ?_, ?_⟩
  · obtain ⟨z, hz, rfl⟩ := List.mem_map.mp ht
    obtain ⟨b, hb, _⟩ := h3 z hz
    exact ⟨b, hb⟩
  · rw [e1, ← e2, List.map_map]
    exact pboth fun z hz => h3 z ((List.mergeSort_perm zs _).mem_iff.mp hz)
abbrev s_find_doubts : Stmt := top 18
abbrev N_find_doubts : List Str := ["wordlist", "length", "spots_by_piece", "doubts", "spot", "evidence_for", "evidence_against", "more"]
theorem sc_find_doubts : FnScope N_find_doubts ["wordlist", "length"] (defScope s_find_doubts) := ⟨rfl, rfl, rfl, by decide +kernel, rfl, by decide +kernel, by decide +kernel⟩
def sp_find_doubts (D : Ads) : Sp := fun vs H Q _ => ∃ a s m, vs = [.ref a, .int (m : Nat)] ∧ ListAt D H a s ∧ Fine s ∧ m ≤ 3 ∧ Tabs (tabsT D) H ∧ ∀ H' l, ExtN H H' → Tabs (tabsT D) H' → Fresh H l → RefsAt DbAt H' l (doubtsP s m) → Q (.ref l) H'
section
variable {P : Program} {w : World} {K : PySem.W.Frag} {mg : Str → Option Value} {base : Heap} {D : Ads}
theorem df_find_doubts {f : Addr} {fd : FuncData} (F : At K mg "find_doubts" s_find_doubts ["wordlist", "length"] f fd) (T : Txt K mg D) (kD : fd.code = .ref D.kD) (TB : TabOk mg base D)
    (c_map_pieces : Df P w K mg base CX0 3 "map_pieces" ["wordlist", "length"] (sp_map_pieces P w D)) (c_find_spots : Df P w K mg base CX0 1 "find_spots" ["wordlist"] (sp_find_spots D))
    (c_weigh_by_pieces : Df P w K mg base CX0 3 "weigh_by_pieces" ["wordlist", "spot", "length", "spots_by_piece"] (sp_weigh_by_pieces P w D)) (c_may_part : Df P w K mg base CX0 1 "may_part" ["wordlist", "spot"] (sp_may_part D)) :
    Df P w K mg base CX0 4 "find_doubts" ["wordlist", "length"] (sp_find_doubts D) := by
  refine df0C (N := N_find_doubts) F kD sc_find_doubts (fun vs H Q E h => ?_) (fun A outer s H vs Q E hr h => ⟨_, (pss_cons (ps_set (i := 2) sc_find_doubts.nd rfl (Or.inl rfl) (pe_d0 c_map_pieces hr (by decide) rfl (pa_cons (pv 0) (pa_cons (pv 1) pa_nil))))
(pss_cons (ps_set (i := 3) sc_find_doubts.nd rfl (Or.inl rfl) (pe_lst pa_nil))
(pss_cons (ps_for PassesOwn.never rfl (pi_list (pe_d0 c_find_spots hr (by decide) rfl (pa_cons (pv 0) pa_nil))) (pg_name (i := 4) sc_find_doubts.nd rfl (Or.inl rfl))
(pss_cons (ps_asg (pe_d0 c_weigh_by_pieces hr (by decide) rfl (pa_cons (pv 0) (pa_cons (pv 4) (pa_cons (pv 1) (pa_cons (pv 2) pa_nil))))) (pg_tup rfl (pgs_cons (pg_name (i := 5) sc_find_doubts.nd rfl (Or.inl rfl)) (pgs_cons (pg_name (i := 6) sc_find_doubts.nd rfl (Or.inl rfl)) pgs_nil))))
(pss_cons (ps_set (i := 7) sc_find_doubts.nd rfl (Or.inl rfl) (pe_op op_sub (pv 6) (pv 5)))
(C8.pss_cut (ps_if (pt_not (pt_val (pe_d0 c_may_part hr (by decide) rfl (pa_cons (pv 0) (pa_cons (pv 4) pa_nil)))))
(pss_one (ps_set (i := 7) sc_find_doubts.nd rfl (Or.inl rfl) (pe_op op_sub (pv 5) (pv 6))))
pss_nil)
(pss_one (ps_if (pt_cmpR op_gt (pv 7) pe_int (nomark _))
(pss_one (ps_expr (pe_bm PySem.F.plainAttrs_list PySem.F.slot_list_append PySem.F.type_list_append mt_append (pv 3) (pa_cons (pe_tup (pa_cons (pv 4) (pa_cons (pv 7) pa_nil))) pa_nil))))
pss_nil))))))
(pss_one (ps_ret (pe_sortLam (T := tabsT D) (x := "doubt") ⟨by rfl, by rfl, by rfl, by decide +kernel, by rfl, by decide +kernel⟩ (by intro _ _ _ _ _; rfl) rfl hr rfl T.n_sorted (pv 3) TB.d rfl (List.mem_cons_self ..) TB.uD)))))), ?_⟩)
  · obtain ⟨a, s, m, rfl, _⟩ := h
    rfl
  · obtain ⟨a, s, m, rfl, hL, hF, hm, hT, k⟩ := h
    -- spots_by_piece = map_pieces(wordlist, length)
    refine ⟨_, rfl, _, rfl, a, s, m, rfl, hL, hF, hm, fun H1 d e1 nd hM => ?_⟩
    -- doubts = []
    refine ⟨by show 0 ≤ sizeLine; exact Nat.zero_le _, fun dl hdl => ?_⟩
    have e2 : Same H1 (upd H1 dl (.lst [])) := same_upd hdl
    have hdlH : H dl = none := e1.free hdl
    -- for spot in find_spots(wordlist)
    refine ⟨_, rfl, a, s, rfl, hL.same (e1.trans e2), hF, fun H2 l e3 nl ⟨as, hl, has⟩ => ⟨l, rfl, ⟨_, SqL.of hl⟩, ?_⟩⟩
    have h2dl : H2 dl = some (.lst []) := e3 _ _ upd_same
    have nld : l ≠ dl := fun z => by rw [z, upd_same] at nl; cases nl
    have e02 : Same H H2 := e1.trans (e2.trans e3)
    have hM2 := hM.same (e2.trans e3)
    have hsl := spots_len hF
    refine for_it (walk_list (K := K) (a := l) (xs := as.map V.ref)) (fun i σ H' => ∃ v4 v5 v6 v7 bs, σ = [some (.ref a), some (.int (m : Nat)), some (.ref d), some (.ref dl), v4, v5, v6, v7] ∧ But dl H2 H' ∧ H' dl = some (.lst (bs.map V.ref)) ∧ Paired (DbAt H') bs (((spotsP s).take i).filterMap (dbtOf s m))) ?_ ?_ ?_ ?_
    · exact ⟨none, none, none, none, [], rfl, But.refl _ _, h2dl, by simpa using (.nil : Paired (DbAt H2) [] [])⟩
    · rintro i σ H' _ ⟨_, _, _, _, _, _, b, _⟩
      exact SqL.of (b _ _ nld hl)
    · rintro i x σ H3 H3' hi ⟨v4, v5, v6, v7, bs, rfl, b3, hbs, hbp⟩ ⟨rfl, hx⟩
      obtain ⟨c, hc, rfl⟩ := refs_get hx
      obtain ⟨o, ho, hoa⟩ := pget has hc
      have hom := List.mem_of_getElem? ho
      obtain ⟨wo, hwo, ho1, ho2, hwom⟩ := spots_in hom
      have up : ∀ {q : Addr} {u : HO}, H2 q = some u → u ≠ .lst [] → H3' q = some u := fun {q u} h n => b3 _ _ (fun z => n (by rw [z, h2dl] at h; exact (Option.some.inj h).symm)) h
      have e03 : Same H H3' := fun q u hq => b3 _ _ (ne_of_none hq hdlH) (e02 _ _ hq)
      have hL3 : ListAt D H3' a s := hL.same e03
      have ed1 : Same H1 H3' := fun q u hq => b3 _ _ (ne_of_none hq hdl) (e3 _ _ (e2 _ _ hq))
      have hM3 := hM.same ed1
      have hoa3 : PairAt H3' c o := up hoa (by intro z; cases z)
      -- evidence_for, evidence_against = weigh_by_pieces(..)
      refine ⟨_, rfl, _, rfl, _, rfl, _, rfl, a, c, s, o.1, o.2, m, wo, d, rfl, hL3, hF, hoa3, hwo, hom, hm, hM3, fun H4 t e4 ht => ?_⟩
      have eP : pcs wo.x o.2 m = pcsAt s m o := by unfold pcsAt; rw [wordAt_of hwo]
      rw [eP] at ht
      refine ⟨t, _, rfl, SqT.of ht, rfl, _, _, rfl, _, _, rfl, rfl, ?_⟩
      refine ⟨_, rfl, _, rfl, _, _, rfl, rfl, ?_⟩
      have e34 := e4
      have eY : wo.cuts.contains o.2 = yesP s o := by unfold yesP; rw [hwo]
      have hbs4 : H4 dl = some (.lst (bs.map V.ref)) := e4 _ _ hbs
      have b4 : But dl H2 H4 := fun q u n hq => e4 _ _ (b3 _ _ n hq)
      have hbp4 : Paired (DbAt H4) bs (((spotsP s).take i).filterMap (dbtOf s m)) := Paired.mapP hbp fun x y h => DbAt.same _ _ x y e4 h
      have il : i < 360 := by
        rw [List.length_map, has.length] at hi
        omega
      have hL4 : ListAt D H4 a s := hL3.same e4
      have hoa4 : PairAt H4 c o := PairAt.same _ _ _ _ e4 hoa3
      -- more, by whether the spot may be parted
      refine ⟨fun σ H' => ∃ z : Int, σ = [some (V.ref a), some (.int (m : Nat)), some (.ref d), some (.ref dl), some (.ref c), some (.int (forT s (othersP s o.1) (pcsAt s m o) : Nat)), some (.int (agT s (othersP s o.1) (pcsAt s m o) : Nat)), some (.int z)] ∧ H' = H4 ∧
          z = if yesP s o = true then (agT s (othersP s o.1) (pcsAt s m o) : Int) - (forT s (othersP s o.1) (pcsAt s m o) : Int) else (forT s (othersP s o.1) (pcsAt s m o) : Int) - (agT s (othersP s o.1) (pcsAt s m o) : Int), ?_, ?_⟩
      · refine ⟨_, rfl, _, rfl, a, c, s, o.1, o.2, wo, rfl, hL4, hoa4, hwo, _, rfl, ?_⟩
        rw [eY]
        cases hy : yesP s o with
        | true => exact iteF ⟨_, rfl, rfl, rfl⟩
        | false => exact iteT ⟨_, rfl, _, rfl, _, _, rfl, rfl, _, rfl, rfl, rfl⟩
      rintro σ H5 ⟨z, rfl, rfl, hz⟩
      -- if more > 0
      refine ⟨_, rfl, _, _, rfl, rfl, _, rfl, ?_⟩
      have eD : dbtOf s m o = if 0 < z then some (o, z.toNat) else none := by
        unfold dbtOf
        dsimp only
        generalize forT s (othersP s o.1) (pcsAt s m o) = f at hz ⊢
        generalize agT s (othersP s o.1) (pcsAt s m o) = g at hz ⊢
        cases hy : yesP s o with
        | true =>
          rw [hy, if_pos rfl] at hz
          rw [if_pos rfl]
          by_cases c : f < g
          · rw [if_pos c, if_pos (by omega), show z.toNat = g - f by omega]
          · rw [if_neg c, if_neg (by omega)]
        | false =>
          rw [hy, if_neg Bool.false_ne_true] at hz
          rw [if_neg Bool.false_ne_true]
          by_cases c : g < f
          · rw [if_pos c, if_pos (by omega), show z.toNat = f - g by omega]
          · rw [if_neg c, if_neg (by omega)]
      refine ite2 (fun cz => ?_) (fun cz => ?_)
      · have cz : 0 < z := of_decide_eq_true cz
        rw [if_pos cz] at eD
        refine ⟨_, rfl, .inl ⟨rfl, _, SqL.of hbs4⟩, _, rfl, _, rfl, by show 2 ≤ sizeLine; decide, fun u hu => ?_⟩
        have ndu : dl ≠ u := ne_of_none hbs4 hu
        refine ⟨dl, _, _, rfl, rfl, (upd_ne ndu).trans hbs4, ?_, ?_⟩
        · rw [List.length_map, hbp4.length]
          refine Nat.lt_of_le_of_lt (List.length_filterMap_le _ _) ?_
          rw [List.length_take]
          exact Nat.lt_of_le_of_lt (by omega : _ ≤ 400) (by decide)
        · refine ⟨_, _, _, _, bs ++ [u], rfl, fun q v n hq => ?_, ?_, ?_⟩
          · rw [upd_ne n, upd_ne (ne_of_none (b4 q v n hq) hu)]
            exact b4 q v n hq
          · rw [upd_same, List.map_append]
            rfl
          · rw [take_more ho, List.filterMap_append]
            have e1 : [o].filterMap (dbtOf s m) = [(o, z.toNat)] := by
              rw [List.filterMap_cons, eD]
              rfl
            rw [e1]
            have up : ∀ {x : Addr} {y : DbP}, DbAt H5 x y → DbAt (upd (upd H5 u (.tup [.ref c, .int z])) dl (.lst (bs.map V.ref ++ [.ref u]))) x y := fun {x y} ⟨b, k1, k2⟩ => by
              refine ⟨b, ?_, ?_⟩
              · rw [upd_ne (ne_of k1 hbs4 (by intro z; cases z)), upd_ne (ne_of_none k1 hu)]
                exact k1
              · show upd _ _ _ b = _
                rw [upd_ne (ne_of k2 hbs4 (by intro z; cases z)), upd_ne (ne_of_none k2 hu)]
                exact k2
            refine psnoc (Paired.mapP hbp4 fun x y h => up h) ⟨c, ?_, ?_⟩
            · rw [upd_ne (Ne.symm ndu), upd_same]
              show some (HO.tup [.ref c, .int z]) = some (HO.tup [.ref c, .int ((z.toNat : Nat) : Int)])
              rw [show ((z.toNat : Nat) : Int) = z by omega]
            · show upd _ _ _ c = _
              rw [upd_ne (ne_of hoa4 hbs4 (by intro z; cases z)), upd_ne (ne_of_none hoa4 hu)]
              exact hoa4
      · have cz : ¬ 0 < z := of_decide_eq_false (by simpa using cz)
        rw [if_neg cz] at eD
        refine ⟨_, _, _, _, bs, rfl, b4, hbs4, ?_⟩
        rw [take_more ho, List.filterMap_append]
        have e1 : [o].filterMap (dbtOf s m) = [] := by
          rw [List.filterMap_cons, eD]
          rfl
        rw [e1, List.append_nil]
        exact hbp4
    · rintro σ H3 ⟨v4, v5, v6, v7, bs, rfl, b3, hbs, hbp⟩
      have hal : (as.map V.ref).length = (spotsP s).length := by rw [List.length_map, has.length]
      rw [hal, List.take_length] at hbp
      have e03 : Same H H3 := fun q u hq => b3 _ _ (ne_of_none hq hdlH) (e02 _ _ hq)
      obtain ⟨ts, t1, t2, t3⟩ := byKey_is hbp
      have eB : (bs.map V.ref) = ts.map fun t => V.ref t.1 := by rw [← t1, List.map_map]; rfl
      rw [eB] at hbs
      refine ⟨_, rfl, tabs_same hT e03, dl, ts, rfl, SqL.of hbs, t2, fun H4 r eN T4 hr4 => ?_⟩
      have e4r : Same H4 (upd H4 r (.lst ((byKey ts).map fun t => V.ref t.1))) := same_upd hr4
      have e0 : ExtN H (upd H4 r (.lst ((byKey ts).map fun t => V.ref t.1))) := (extN_same e03).trans (eN.trans (extN_same e4r))
      refine k _ r e0 (tabs_same T4 e4r) ?_ ⟨(byKey ts).map (·.1), by rw [upd_same, List.map_map]; rfl, ?_⟩
      · exact extN_fresh ((extN_same e03).trans eN) (Fresh.of hr4)
      · exact Paired.mapP t3 fun x y h => DbAt.same _ _ _ _ e4r (DbAt.ext _ _ _ _ eN h)
end
end WG
set_option Elab.async false
set_option linter.all false
set_option maxRecDepth 100000
set_option maxHeartbeats 3200000
namespace WG
open PySem PySem.Spec PyProof.Rows L2
open LamX (TabB Tabs TabS ExtN CodeO lam_make2)
/-! ### min(xs, key=lambda c: c[:2]): the first of the least -/
theorem lex2 (a b c d : Int) : HT.lexLt [a, b] [c, d] = decide (a < c ∨ (a = c ∧ b < d)) := by
  show (if a = c then (if b = d then false else decide (b < d)) else decide (a < c)) = _
  rw [Bool.eq_iff_iff]
  by_cases h1 : a = c
  · rw [if_pos h1]
    by_cases h2 : b = d
    · rw [if_pos h2, decide_eq_true_eq]
      constructor
      · intro z; cases z
      · intro z; omega
    · rw [if_neg h2, decide_eq_true_eq, decide_eq_true_eq]
      omega
  · rw [if_neg h1, decide_eq_true_eq, decide_eq_true_eq]
    omega
/-- u is a tuple of these two numbers -/
def Key2 (h : Heap) (u : Value) (c b : Int) : Prop := ∃ t us, u = .ref t ∧ IsTup h t us ∧ IntsAre us.toList [c, b]
theorem Key2.grew {h h' : Heap} {u : Value} {c b : Int} (x : Key2 h u c b) (g : Grew h h') : Key2 h' u c b := by
  obtain ⟨t, us, e, ⟨o, e1, r⟩, i⟩ := x
  exact ⟨t, us, e, ⟨o, g _ _ e1, r⟩, i⟩
theorem Key2.but {h h' : Heap} {u : Value} {c b : Int} {d : Addr} {od : Obj} (x : Key2 h u c b) (hd : h.get? d = some od) (nd : od.cls ≠ .type "tuple") (k : ∀ b o, b ≠ d → h.get? b = some o → h'.get? b = some o) : Key2 h' u c b := by
  obtain ⟨t, us, e, ⟨o, e1, hc, r⟩, i⟩ := x
  refine ⟨t, us, e, ⟨o, k _ _ (fun z => ?_) e1, hc, r⟩, i⟩
  rw [z, hd] at e1
  cases e1
  exact nd hc
section
variable {P : Program} {w : World} {A : Around} {E : Value → Shared → Prop} {s : Shared} {vs : List Value} {l I S f : Addr}
/-- i is the first of the least -/
def Least2 (kc kb : Nat → Int) (n i : Nat) : Prop := ∀ j, j < n → ¬ (kc j < kc i ∨ (kc j = kc i ∧ kb j < kb i)) ∧ (j < i → kc i < kc j ∨ (kc i = kc j ∧ kb i < kb j))
/-- what a call of f gives -/
def Turns (P : Program) (w : World) (A : Around) (f : Addr) (vs : List Value) (kc kb : Nat → Int) (h0 : Heap) (s0 : Shared) : Prop :=
  ∀ (i : Nat) (v : Value), vs[i]? = some v → ∀ (h : Heap) (tk : Nat) (E : Value → Shared → Prop) (Q : Value → Shared → Prop), Grew h0 h → (∀ u h' tk', Grew h h' → Key2 h' u (kc i) (kb i) → Q u { s0 with heap := h', toks := tk' }) →
    wpAny (model P w) A (call (.ref f) [v]) Q E { s0 with heap := h, toks := tk }
theorem min2_on (h0 : Heap) (kc kb : Nat → Int) {s0 : Shared} (L : Turns P w A.in1 f vs kc kb h0 s0) (hh : A.handled = none) (hu : A.in1.units < cLine) (hl : h0.IsList l vs.toArray) (zI : h0.get? I = none) (zS : h0.get? S = none) (ne : S ≠ I) {R : Result → Shared → Prop}
    (fin : ∀ i v h' tk, vs[i]? = some v → Least2 kc kb vs.length i → Grew h0 h' → R (.ok (.ret v)) { s0 with heap := h', toks := tk }) :
    ∀ (r j i : Nat) (h : Heap) (tk : Nat) (vb ub : Value) (c : Nat), vs.length - (j + 1) = r → j + 1 ≤ vs.length → Grew h0 h → h.get? S = some (seqObj "list" #[vb, ub] c) → Key2 h ub (kc i) (kb i) → h.IsListIter I l (j + 1) →
      vs[i]? = some vb → i ≤ j → Least2 kc kb (j + 1) i → codeAny (model P w) A (.builtin "min.loop" ⟨[.ref I, .ref f, .ref S], []⟩) R { s0 with heap := h, toks := tk } := by
  have hlI : l ≠ I := fun e => by
    obtain ⟨o, ho, _⟩ := hl
    rw [e, zI] at ho
    cases ho
  have W := Walks.list (prog := P) (w := w) (A := A.in1) hh I l hlI vs.toArray
  have hsz : vs.toArray.size = vs.length := List.size_toArray ..
  have on : ∀ {h h' : Heap}, (∀ b o, b ∉ [I] → h.get? b = some o → h'.get? b = some o) → Grew h0 h → Grew h0 h' := fun k g b o e => k b o (fun q => by
    rw [List.mem_singleton.mp q, zI] at e
    cases e) (g b o e)
  have onS : ∀ {h : Heap} {f : Obj → Obj}, Grew h0 h → Grew h0 (h.update S f) := fun g b o e => (Heap.get?_update_ne _ _ _ _ fun q => by
    rw [q, zS] at e
    cases e).trans (g b o e)
  have keyI : ∀ {h h' : Heap} {u : Value} {x y : Int} {n : Nat}, Key2 h u x y → h.IsListIter I l n → (∀ b o, b ∉ [I] → h.get? b = some o → h'.get? b = some o) → Key2 h' u x y := fun {h h' u x y n} q hit k => by
    obtain ⟨oI, hoI, hc, _⟩ := hit
    exact q.but hoI (by rw [hc]; exact fun z => absurd (Value.type.inj z) (by decide)) fun b o nb e => k b o (fun z => nb (List.mem_singleton.mp z)) e
  intro r
  induction r with
  | zero =>
    intro j i h tk vb ub c hr hj g hS hkey hit hvb hij best
    have hin : j + 1 = vs.length := by omega
    refine codeAny_builtin PySem.F.entry_min_loop ?_
    rw [Around.under_plainId PySem.F.plain_min_loop _]
    show wpAny _ A.in1 (seqItems? (.ref S) >>= _) _ _ _
    refine wpAny_bind (wpAny_seqItems hS rfl ?_)
    show wpAny _ A.in1 (tryCatch (pyNext (.ref I)) _ >>= _) _ _ _
    refine wpAny_bind (wpAny_tryCatch (W.done _ _ _ ⟨by rw [hsz, ← hin]; exact hit, isList_grew g hl⟩ fun h' tk' k => ?_))
    have hS' := k S _ (fun q => ne (List.mem_singleton.mp q)) hS
    show wpAny _ A.in1 (updateSeq S (fun _ => #[]) >>= _) _ _ _
    refine wpAny_bind ?_
    refine wpAny_updateSeq hS' rfl (wpAny_bind (wpAny_letGo (wpAny_pure ?_)))
    rw [hin] at best
    exact fin i vb _ _ hvb best (onS (on k g))
  | succ r ih =>
    intro j i h tk vb ub c hr hj g hS hkey hit hvb hij best
    have hlt : j + 1 < vs.length := by omega
    refine codeAny_builtin PySem.F.entry_min_loop ?_
    rw [Around.under_plainId PySem.F.plain_min_loop _]
    show wpAny _ A.in1 (seqItems? (.ref S) >>= _) _ _ _
    refine wpAny_bind (wpAny_seqItems hS rfl ?_)
    show wpAny _ A.in1 (tryCatch (pyNext (.ref I)) _ >>= _) _ _ _
    refine wpAny_bind (wpAny_tryCatch (W.item (j + 1) _ _ _ (by rw [hsz]; exact hlt) ⟨hit, isList_grew g hl⟩ fun v h' tk' hP hst' k => ?_))
    have hv : vs[j + 1]? = some v := by simpa using hP
    have g' := on k g
    have hS' := k S _ (fun q => ne (List.mem_singleton.mp q)) hS
    have hkey' := keyI hkey hit k
    show wpAny _ A.in1 (tryCatch (holding [v] (call (.ref f) [v])) _ >>= _) _ _ _
    refine wpAny_bind (wpAny_tryCatch (wpAny_holding (L (j + 1) v hv h' tk' _ _ g' fun u2 h2 tk2 gr2 k2 => ?_)))
    have hS2 := gr2 _ _ hS'
    have hkb := hkey'.grew gr2
    show wpAny _ A.in1 (tryCatch (holding [v, u2] (richCompare .Lt u2 ub >>= _)) _ >>= _) _ _ _
    obtain ⟨t2, us2, rfl, p2, i2⟩ := id k2
    obtain ⟨t1, us1, rfl, p1, i1⟩ := id hkb
    refine wpAny_bind (wpAny_tryCatch (wpAny_holding (wpAny_bind ?_)))
    refine (show wpAny (model P w) A.in1 (richCompare .Lt (.ref t2) (.ref t1)) _ _ _ from HT.lt_tupInts (s := { s0 with heap := h2, toks := tk2 }) p2 p1 i2 i1 hu ?_)
    rw [lex2]
    refine wpAny_bind (wpAny_holding (wpAny_truthy_bool ?_))
    refine wpAny_bind (wpAny_letGo (wpAny_pure ?_))
    by_cases less : kc (j + 1) < kc i ∨ (kc (j + 1) = kc i ∧ kb (j + 1) < kb i)
    · obtain ⟨c2, hc2⟩ : ∃ c2, (h2.update S (Obj.mapSeq fun _ => #[v, .ref t2])).get? S = some (seqObj "list" #[v, .ref t2] c2) := ⟨_, get?_update_seq hS2 fun _ => #[v, .ref t2]⟩
      simp only [less, decide_true, if_true]
      refine wpAny_bind ?_
      refine wpAny_updateSeq hS2 rfl (wpAny_bind (wpAny_letGo ?_))
      obtain ⟨oI, hoI, rI⟩ := hst'.1
      have kk : Key2 (h2.update S (Obj.mapSeq fun _ => #[v, .ref t2])) (.ref t2) (kc (j + 1)) (kb (j + 1)) := k2.but hS2 (fun z => absurd (Value.type.inj z) (by decide)) fun b o nb e => (Heap.get?_update_ne _ _ _ _ nb).trans e
      refine wpAny_pure ⟨plainId_quiet PySem.F.plain_min_loop _, ih (j + 1) (j + 1) _ _ v (.ref t2) c2 (by omega) hlt (onS fun b o e => gr2 b o (g' b o e)) hc2 kk ⟨oI, (Heap.get?_update_ne _ _ _ _ ne.symm).trans (gr2 _ _ hoI), rI⟩ hv (Nat.le_refl _) fun j' hj' => ?_⟩
      by_cases e : j' = j + 1
      · subst e
        exact ⟨by omega, fun z => absurd z (Nat.lt_irrefl _)⟩
      · have := best j' (by omega)
        exact ⟨by omega, fun _ => by omega⟩
    · simp only [less, decide_false, Bool.false_eq_true, if_false]
      refine wpAny_bind (wpAny_letGo ?_)
      obtain ⟨oI, hoI, rI⟩ := hst'.1
      refine wpAny_pure ⟨plainId_quiet PySem.F.plain_min_loop _, ih (j + 1) i _ _ vb (.ref t1) c (by omega) hlt (fun b o e => gr2 b o (g' b o e)) hS2 hkb ⟨oI, gr2 _ _ hoI, rI⟩ hvb (by omega) fun j' hj' => ?_⟩
      by_cases e : j' = j + 1
      · subst e
        exact ⟨by omega, fun z => by omega⟩
      · exact best j' (by omega)
theorem min2 (kc kb : Nat → Int) (L : Turns P w A.in1 f vs kc kb s.heap s) (hh : A.handled = none) (hu : A.in1.units < cLine) (hl : s.heap.IsList l vs.toArray) (hne : 0 < vs.length) {Q : Value → Shared → Prop}
    (hb : Builtin.Builtins.bindParams "min" ["key", "default"] 0 ⟨[], [(Str.ofString "key", .ref f)]⟩ = pure [some (.ref f), none] := by rfl)
    (fin : ∀ i v h' tk, vs[i]? = some v → Least2 kc kb vs.length i → Grew s.heap h' → Q v { s with heap := h', toks := tk }) :
    wpAny (model P w) A (call (.builtin "min") [.ref l] [(Str.ofString "key", .ref f)]) Q E s := by
  have lt : l < s.heap.objs.size := by
    obtain ⟨o, ho, _⟩ := hl
    exact Heap.lt_size ho
  refine kmb_tree PySem.F.kind_min PySem.F.plain_min PySem.F.entry_min (kmb_min_key _ _) ?_
  show wpAny _ A.in1 (Builtin.Builtins.bindParams "min" ["key", "default"] 0 ⟨[], [(Str.ofString "key", .ref f)]⟩ >>= _) _ _ s
  refine wpAny_bind (wpAny_of_eq hb ?_)
  refine wpAny_bind (wpAny_pure ?_)
  refine wpAny_bind (wpAny_pyIter_list hl ?_)
  refine wpAny_bind (wpAny_newList ?_ (Nat.zero_le _))
  generalize hit : ({ cls := .type "list_iterator", data := .fields #[.ref l, .int 0 0] } : Obj) = it
  have z1 : (s.heap.push it).objs.size = s.heap.objs.size + 1 := size_push' ..
  have g0 : Grew s.heap ((s.heap.push it).push (seqObj "list" #[] 0)) := fun b x e => Heap.get?_push_of_some _ (Heap.get?_push_of_some _ e)
  have gI : ((s.heap.push it).push (seqObj "list" #[] 0)).get? s.heap.objs.size = some it := Heap.get?_push_of_some _ (Heap.get?_push_size _ (by rw [← hit]; rfl))
  have gS : ((s.heap.push it).push (seqObj "list" #[] 0)).get? (s.heap.push it).objs.size = some (seqObj "list" #[] 0) := Heap.get?_push_size _ rfl
  have zI : s.heap.get? s.heap.objs.size = none := heap_free _ (Nat.le_refl _)
  have zS : s.heap.get? (s.heap.push it).objs.size = none := heap_free _ (by rw [z1]; exact Nat.le_succ _)
  have ne : (s.heap.push it).objs.size ≠ s.heap.objs.size := by rw [z1]; exact Nat.succ_ne_self _
  generalize (s.heap.push it).objs.size = S at gS zS ne ⊢
  generalize (s.heap.push it).push (seqObj "list" #[] 0) = h1 at g0 gI gS ⊢
  have W := Walks.list (prog := P) (w := w) (A := A.in1) hh s.heap.objs.size l (Nat.ne_of_lt lt) vs.toArray
  have named : (toString "min" ++ toString ".loop" : String) = "min.loop" := by decide
  rw [named]
  refine wpAny_pure ⟨plainId_quiet PySem.F.plain_min_loop _, codeAny_builtin PySem.F.entry_min_loop ?_⟩
  rw [Around.under_plainId PySem.F.plain_min_loop _]
  show wpAny _ A.in1 (seqItems? (.ref S) >>= _) _ _ _
  refine wpAny_bind (wpAny_seqItems gS rfl ?_)
  show wpAny _ A.in1 (tryCatch (pyNext (.ref s.heap.objs.size)) _ >>= _) _ _ _
  refine wpAny_bind (wpAny_tryCatch (W.item 0 _ _ _ (by rw [List.size_toArray]; exact hne) ⟨⟨_, gI, by rw [← hit], by rw [← hit]; rfl⟩, isList_grew g0 hl⟩ fun v h' tk' hP hst' k => ?_))
  have hv : vs[0]? = some v := by simpa using hP
  have g1 : Grew s.heap h' := fun b o e => k b o (fun q => by
    rw [List.mem_singleton.mp q, zI] at e
    cases e) (g0 b o e)
  have hS1 := k S _ (fun q => ne (List.mem_singleton.mp q)) gS
  show wpAny _ A.in1 (tryCatch (holding [v] (call (.ref f) [v])) _ >>= _) _ _ _
  refine wpAny_bind (wpAny_tryCatch (wpAny_holding (L 0 v hv h' tk' _ _ g1 fun u2 h2 tk2 gr2 k2 => ?_)))
  have hS2 := gr2 _ _ hS1
  show wpAny _ A.in1 (updateSeq S (fun _ => #[v, u2]) >>= _) _ _ _
  obtain ⟨c2, hc2⟩ : ∃ c2, (h2.update S (Obj.mapSeq fun _ => #[v, u2])).get? S = some (seqObj "list" #[v, u2] c2) := ⟨_, get?_update_seq hS2 fun _ => #[v, u2]⟩
  refine wpAny_bind ?_
  refine wpAny_updateSeq hS2 rfl ?_
  obtain ⟨oI, hoI, rI⟩ := hst'.1
  have kk : Key2 (h2.update S (Obj.mapSeq fun _ => #[v, u2])) u2 (kc 0) (kb 0) := k2.but hS2 (fun z => absurd (Value.type.inj z) (by decide)) fun b o nb e => (Heap.get?_update_ne _ _ _ _ nb).trans e
  refine wpAny_pure ⟨plainId_quiet PySem.F.plain_min_loop _, min2_on s.heap kc kb L hh hu hl zI zS ne fin _ 0 0 _ _ v u2 c2 rfl hne (fun b o e => (Heap.get?_update_ne _ _ _ _ fun q => ?_).trans (gr2 _ _ (g1 b o e))) hc2 kk ⟨oI, (Heap.get?_update_ne _ _ _ _ ne.symm).trans (gr2 _ _ hoI), rI⟩ hv (Nat.le_refl _) fun j hj => ?_⟩
  · rw [q, zS] at e
    cases e
  · have : j = 0 := by omega
    subst this
    exact ⟨by omega, fun z => absurd z (Nat.lt_irrefl _)⟩
end
/-- a found choice: its tuple, how many, how many bytes, the third -/
abbrev Fnd := Addr × Nat × Nat × Addr
section
variable {X : Cx} {a : Expr} {ta : TE} {p p2 kp pos lpos q1 q2 q3 q4 : Pos} {x : Str} {params : Arguments} {scope : Scope} {k2 : Nat} {T : List (Addr × Str)}
def tMinLam (K : PySem.W.Frag) (T : List (Addr × Str)) (ta : TE) : TE := fun σ H Q => ta σ H fun v H1 => Tabs T H1 ∧ ∃ (l : Addr) (ts : List Fnd), v = V.ref l ∧ SqL K H1 l (ts.map fun t => V.ref t.1) ∧ ts ≠ [] ∧ (∀ t ∈ ts, H1 t.1 = some (.tup [.int (t.2.1 : Nat), .int (t.2.2.1 : Nat), .ref t.2.2.2])) ∧
  ∀ (H2 : Hp) (i : Nat) (t : Fnd), ExtN H1 H2 → Tabs T H2 → ts[i]? = some t → (∀ (j : Nat) (u : Fnd), ts[j]? = some u → ¬ (u.2.1 < t.2.1 ∨ (u.2.1 = t.2.1 ∧ u.2.2.1 < t.2.2.1)) ∧ (j < i → t.2.1 < u.2.1 ∨ (t.2.1 = u.2.1 ∧ t.2.2.1 < u.2.2.1))) → Q (.ref t.1) H2
theorem pe_minLam {c P : Addr} {j : Nat} (L : Lam1 scope x) (hbind : ∀ (q : Str) (pm cv ctv v : Value), bindArgs (PySem.W.kla_fn "<lambda>" q params (.Subscript (.Name x q1) (.Slice none (some (.Constant (.int 2) k2 q2)) none q4) q3) scope [] pm cv ctv) ⟨[v], []⟩ = pure [(x, v)])
    (hc : X.calm = true) (hr : Room j X.A) (hg : Gl X "min") (hm : X.mg "min" = none) (ha : PE X a ta)
    (TB : TabB X.base X.mg c P) (hcode : X.env.code = .ref c) (hmT : (P, X.env.qual ++ "<lambda>") ∈ T) (hu : ∀ p ∈ T, p.1 = P → p.2 = X.env.qual ++ "<lambda>") (hdef : defaultsOf params X.env = ([], []) := by rfl) (hcl : cloFrom X.env.cells scope.names [] = [] := by rfl) (hdb : (x == ("__debug__" : Str)) = false := by decide)
    (na : starEach [a] X.env = (false, eval a X.env) :: starEach [] X.env := by rfl) (nb : backTo pos (starEach [a] X.env) = (false, eval a X.env) :: backTo pos (starEach [] X.env) := by rfl) (nc : (backTo pos (starEach [a] X.env)).any (·.1) = false := by rfl) :
    PE X (.Call (.Name "min" p) [a] [⟨some "key", .Lambda params (.Subscript (.Name x q1) (.Slice none (some (.Constant (.int 2) k2 q2)) none q4) q3) scope lpos, kp⟩] pos) (tMinLam X.K T ta) := by
  refine ⟨fun pins s σ H Q I h => ?_⟩
  refine wpAny_Call_Name_kw (ld_blt I hg hm PyProof.Rows.boot_min ?_)
  refine PyProof.Rows.callWith_kw (PyProof.Rows.args_cons (thn (ha.run pins s σ H _ I h) fun v s1 ⟨y, H1, I1, r1, q1⟩ => PyProof.Rows.args_nil ?_) na) nb nc
  obtain ⟨hT, l, ts, rfl, hq, hne, htup, q⟩ := q1
  cases r1
  refine PyProof.Rows.kwAll_cons (lam_make2 I1 TB hcode hmT hu hT hdef (fun y hy e => absurd e (L.free y hy)) fun f c' pm ctv H2 s2 I2 eN T2 hf hfn hfr hco => PyProof.Rows.kwAll_nil ?_)
  rw [hcl] at hf
  show wpAny _ _ (call (.builtin "min") [.ref l] [(Str.ofString "key", .ref f)]) _ _ _
  have hq2 := sqL_ext eN hq
  obtain ⟨its, rv, pl, hz⟩ := I2.list hq2
  have ei : its = ts.map fun t => Value.ref t.1 := by
    have e : (ts.map fun t => V.ref t.1) = (ts.map (·.1)).map V.ref := by rw [List.map_map]; rfl
    rw [e] at rv
    have := refs_only rv
    rw [this, List.map_map]
    rfl
  subst ei
  obtain ⟨⟨oc, vs, t, hoc, hdc, hvc⟩, _, _⟩ := I2.hok c' _ hco
  have un := hr.un
  have val : ∀ {i : Nat} {t : Fnd}, ts[i]? = some t → (ts.getD i (0, 0, 0, 0)) = t := fun {i t} h => by
    rw [List.getD_eq_getElem?_getD, h]
    rfl
  refine min2 (fun i => ((ts.getD i (0, 0, 0, 0)).2.1 : Nat)) (fun i => ((ts.getD i (0, 0, 0, 0)).2.2.1 : Nat)) (fun i v hv hp tk E Q g k => ?_) (I2.ok.hd hc) (by show X.A.units + 1 < cLine; omega) pl.isList ?_ rfl fun i v h' tk hv best g => ?_
  · rw [List.getElem?_map] at hv
    obtain ⟨t, ht, rfl⟩ := Option.map_eq_some_iff.mp hv
    dsimp only at k
    rw [val ht] at k
    obtain ⟨_, us, rus, o, e1, e2, n, e3⟩ := (show ObjOk X.prog X.w H2 s2.heap t.1 (.tup [.int (t.2.1 : Nat), .int (t.2.2.1 : Nat), .ref t.2.2.2]) from I2.hok t.1 _ (eN _ _ (htup t (List.mem_of_getElem? ht)) fun _ z => by cases z))
    obtain ⟨u0, us1, rfl, r0, rus⟩ : ∃ u0 us1, us = u0 :: us1 ∧ RelV (.int (t.2.1 : Nat)) u0 ∧ Vals [.int (t.2.2.1 : Nat), .ref t.2.2.2] us1 := by
      cases rus with
      | cons a b => exact ⟨_, _, rfl, a, b⟩
    obtain ⟨u1, us2, rfl, r1, rus⟩ : ∃ u1 us2, us1 = u1 :: us2 ∧ RelV (.int (t.2.2.1 : Nat)) u1 ∧ Vals [.ref t.2.2.2] us2 := by
      cases rus with
      | cons a b => exact ⟨_, _, rfl, a, b⟩
    obtain ⟨u2, us3, rfl, r2, rus⟩ : ∃ u2 us3, us2 = u2 :: us3 ∧ RelV (.ref t.2.2.2) u2 ∧ Vals [] us3 := by
      cases rus with
      | cons a b => exact ⟨_, _, rfl, a, b⟩
    cases rus
    obtain ⟨tk0, rfl⟩ := r0
    obtain ⟨tk1, rfl⟩ := r1
    have dep : X.A.in1.depth < recursionLimit := by
      have := hr.dp
      show X.A.depth < recursionLimit
      omega
    refine lam_call (s := { s2 with heap := hp, toks := tk }) L (g _ _ hf) ⟨c', oc, vs, _, rfl, g _ _ hoc, hdc, hvc⟩ dep (I2.nolimit.keeps g) (hbind _ _ _ _ _) fun h₁ hns kp1 => ?_
    refine lam_cut2 (v0 := .int (t.2.1 : Nat) tk0) (v1 := .int (t.2.2.1 : Nat) tk1) (v2 := u2) L.kind L.loc hns ?_ ⟨o, kp1 _ _ (g _ _ e1), e2, n, e3⟩ hdb fun u h' tk3 kp2 hu2 => ?_
    · show List.lookup x [(x, Value.ref t.1)] = _
      rw [List.lookup_cons, beq_self_eq_true]
    · exact k _ h' tk3 (fun b o e => kp2 _ _ (kp1 _ _ e)) ⟨u, _, rfl, hu2, .cons _ _ (.cons _ _ .nil)⟩
  · rw [List.length_map]
    exact List.length_pos_iff.mpr hne
  · rw [List.getElem?_map] at hv
    obtain ⟨t, ht, rfl⟩ := Option.map_eq_some_iff.mp hv
    refine ⟨.ref t.1, H2, I2.kept (t' := tk) g, rfl, q H2 i t eN T2 ht fun j u hu => ?_⟩
    have lj : j < (ts.map fun t => Value.ref t.1).length := by
      rw [List.length_map]
      exact (List.getElem?_eq_some_iff.mp hu).1
    have b := best j lj
    dsimp only at b
    rw [val ht, val hu] at b
    exact ⟨by omega, fun z => by have := b.2 z; omega⟩
end
end WG
set_option Elab.async false
set_option linter.all false
set_option maxRecDepth 100000
set_option maxHeartbeats 2000000
namespace WG
open PySem PySem.Spec PyProof.Rows L2
open LamX (TabB Tabs TabS ExtN)
/-! ### x in t, t a tuple of data -/
def rInDT (K : PySem.W.Frag) : R2 := fun x y H Q => ∃ d ds, Dp K H x d ∧ Dp K H y (.tuple ds) ∧ SeqAt.shaped d = true ∧ SeqAt.shaped (.tuple ds) = true ∧ Q (.bl (ds.any fun z => PyData.eqv z d)) H
theorem op_inDT {X : Cx} (hu : X.A.units + 65 < cLine) : OpR X (compareOp .In) (rInDT X.K) := by
  intro pins s σ H x y v u Q I rx ry h
  obtain ⟨d, ds, hd, he, sd, se, q⟩ := h
  obtain ⟨as, r1⟩ := Dp.reads I d x v hd rx
  obtain ⟨bs, r2⟩ := Dp.reads I (.tuple ds) y u he ry
  exact SeqAt.in_tuple_reads r2 r1 (SeqAt.canLay_of_shaped se) (SeqAt.canLay_of_shaped sd) (room_in_shaped sd hu) ⟨.bl _, H, I, rfl, q⟩
theorem duos_shapedT (l : List (Nat × Nat)) : SeqAt.shaped (.tuple (l.map fun o => duo o.1 o.2)) = true := by
  have h1 := duos_depth l
  have h2 : PyData.depth (.tuple (l.map fun o => duo o.1 o.2)) ≤ 64 := by
    simp only [PyData.depth]
    omega
  show (PyData.canLay0 (.tuple (l.map fun o => duo o.1 o.2)) && decide (PyData.depth (.tuple (l.map fun o => duo o.1 o.2)) ≤ 64)) = true
  rw [Bool.and_eq_true]
  exact ⟨by simp only [PyData.canLay0]; exact duos_lay l, decide_eq_true h2⟩
theorem duos_any (l : List (Nat × Nat)) (o : Nat × Nat) : ((l.map fun o => duo o.1 o.2).any fun z => PyData.eqv z (duo o.1 o.2)) = l.contains o := by
  rw [List.any_map, Bool.eq_iff_iff, List.any_eq_true]
  simp only [List.contains_eq_mem, decide_eq_true_eq, Function.comp]
  constructor
  · rintro ⟨z, hz, e⟩
    rw [duo_eqv, Bool.and_eq_true, beq_iff_eq, beq_iff_eq] at e
    have : z = o := Prod.ext (by omega) (by omega)
    rw [← this]
    exact hz
  · intro h
    exact ⟨o, h, by rw [duo_eqv]; simp⟩
/-- a tuple of spots -/
def TsAt (H : Hp) (t : Addr) (os : List (Nat × Nat)) : Prop := ∃ as : List Addr, H t = some (.tup (as.map V.ref)) ∧ Paired (PairAt H) as os
theorem TsAt.same : ∀ (H H' : Hp) (t : Addr) (os : List (Nat × Nat)), Same H H' → TsAt H t os → TsAt H' t os := fun _ _ _ _ e ⟨as, h1, h2⟩ => ⟨as, e _ _ h1, Paired.mapP h2 fun a b h => PairAt.same _ _ a b e h⟩
/-! ### bits -/
theorem maskP_snoc (f : Nat × Nat → Bool) (x : Nat × Nat) : ∀ (l : List (Nat × Nat)) (k : Nat), maskP f k (l ++ [x]) = maskP f k l + if f x = true then 2 ^ (k + l.length) else 0
  | [], k => by simp [maskP]
  | y :: l, k => by
    show (if f y = true then 2 ^ k else 0) + maskP f (k + 1) (l ++ [x]) = (if f y = true then 2 ^ k else 0) + maskP f (k + 1) l + _
    rw [maskP_snoc f x l (k + 1), List.length_cons, show k + 1 + l.length = k + (l.length + 1) by omega, Nat.add_assoc]
theorem maskP_lt (f : Nat × Nat → Bool) (l : List (Nat × Nat)) : maskP f 0 l < 2 ^ l.length := by
  have := mask_lt f l 0
  rw [Nat.zero_add] at this
  omega
theorem low_bit : ∀ (k c : Nat), (∀ j, j < k → c.testBit j = true) → c.testBit k = false → (c + 1) - ((c + 1) &&& c) = 2 ^ k
  | 0, c, _, h => by
    rw [Nat.testBit_zero] at h
    have h := of_decide_eq_false h
    have e1 : ((c + 1) &&& c) / 2 = (c + 1) / 2 &&& c / 2 := Nat.and_div_two
    have e2 := @Nat.and_mod_two_eq_one (c + 1) c
    rw [show (c + 1) / 2 = c / 2 by omega, Nat.and_self] at e1
    omega
  | k + 1, c, h1, h2 => by
    have h0 := h1 0 (Nat.succ_pos k)
    rw [Nat.testBit_zero] at h0
    have h0 := of_decide_eq_true h0
    have ih := low_bit k (c / 2) (fun j hj => by rw [← Nat.testBit_succ]; exact h1 (j + 1) (by omega)) (by rw [← Nat.testBit_succ]; exact h2)
    have e1 : ((c + 1) &&& c) / 2 = (c + 1) / 2 &&& c / 2 := Nat.and_div_two
    have e2 := @Nat.and_mod_two_eq_one (c + 1) c
    rw [show (c + 1) / 2 = c / 2 + 1 by omega] at e1
    rw [Nat.pow_succ]
    omega
theorem low_int {k c : Nat} (h1 : ∀ j, j < k → c.testBit j = true) (h2 : c.testBit k = false) : Builtin.bitAnd (Builtin.bitNot (c : Int)) ((c : Int) + 1) = ((2 ^ k : Nat) : Int) := by
  have e := low_bit k c h1 h2
  unfold Builtin.bitAnd Builtin.bitNot
  rw [decide_eq_false (by omega), decide_eq_true (by omega)]
  dsimp only
  have t1 : ((c : Int) + 1).toNat = c + 1 := by omega
  have t2 : (-(-(c : Int) - 1) - 1).toNat = c := by omega
  rw [t1, t2, ← e]
  have := Nat.and_le_left (n := c + 1) (m := c)
  omega
theorem and_bit {m k : Nat} : (Builtin.bitAnd (m : Int) ((2 ^ k : Nat) : Int) != 0) = m.testBit k := by
  rw [bitAnd_pp (Int.natCast_nonneg _) (Int.natCast_nonneg _), Int.toNat_natCast, Int.toNat_natCast]
  have bit : ∀ j, (m &&& 2 ^ k).testBit j = (m.testBit j && decide (k = j)) := fun j => by rw [Nat.testBit_and, Nat.testBit_two_pow]
  cases h : m.testBit k with
  | false =>
    have z : m &&& 2 ^ k = 0 := Nat.eq_of_testBit_eq fun j => by
      rw [bit, Nat.zero_testBit]
      by_cases e : k = j
      · subst e
        rw [h, Bool.false_and]
      · rw [decide_eq_false e, Bool.and_false]
    rw [z]
    rfl
  | true =>
    rw [bne_iff_ne]
    intro z
    have z : m &&& 2 ^ k = 0 := by omega
    have b := bit k
    rw [z, h, Nat.zero_testBit] at b
    simp at b
theorem or_nat (a b : Nat) : Builtin.bitOr (a : Int) (b : Int) = ((a ||| b : Nat) : Int) := by
  rw [Bits.bitOr_pp (by omega) (by omega), Int.toNat_natCast, Int.toNat_natCast]
/-! ### mark_goals -/
abbrev s_mark_goals : Stmt := top 23
abbrev N_mark_goals : List Str := ["goals", "spots", "marks", "number", "goal"]
theorem sc_mark_goals : FnScope N_mark_goals ["goals", "spots"] (defScope s_mark_goals) := ⟨rfl, rfl, rfl, by decide +kernel, rfl, by decide +kernel, by decide +kernel⟩
def sp_mark_goals : Sp := fun vs H Q _ => ∃ l t gs os, vs = [.ref l, .ref t] ∧ RefsAt PairAt H l gs ∧ TsAt H t os ∧ gs.length ≤ 400 ∧ ∀ H', Same H H' → Q (.int (maskP (fun o => os.contains o) 0 gs : Nat)) H'
section
variable {P : Program} {w : World} {K : PySem.W.Frag} {mg : Str → Option Value} {base : Heap} {D : Ads}
theorem df_mark_goals {f : Addr} {fd : FuncData} (F : At K mg "mark_goals" s_mark_goals ["goals", "spots"] f fd) (T : Txt K mg D) : Df P w K mg base CX0 1 "mark_goals" ["goals", "spots"] sp_mark_goals := by
  refine df0 (N := N_mark_goals) F sc_mark_goals (fun vs H Q E h => ?_) (fun cdv A outer s H vs Q E hr h => ⟨_, (pss_cons (ps_set (i := 2) sc_mark_goals.nd rfl (Or.inl rfl) pe_int)
(pss_cons (ps_for PassesOwn.never rfl (pi_enum rfl T.n_enumerate (pa_cons (pv 0) pa_nil)) (pg_tup rfl (pgs_cons (pg_name (i := 3) sc_mark_goals.nd rfl (Or.inl rfl)) (pgs_cons (pg_name (i := 4) sc_mark_goals.nd rfl (Or.inl rfl)) pgs_nil)))
(pss_one (ps_if (pt_cmpR (op_inDT (hu65 hr)) (pv 4) (pv 1) (by rfl))
(pss_one (ps_aug (i := 2) sc_mark_goals.nd rfl (Or.inl rfl) (pe_op op_shl pe_int (pv 3)) iop_or))
pss_nil)))
(pss_one (ps_ret (pv 2))))), ?_⟩)
  · obtain ⟨l, t, gs, os, rfl, _⟩ := h
    rfl
  · obtain ⟨l, t, gs, os, rfl, ⟨as, hl, has⟩, ⟨bs, ht, hbs⟩, hlen, k⟩ := h
    refine ⟨_, rfl, l, _, rfl, SqL.of hl, ?_⟩
    refine for_it (walk_enum (K := K) (a := l) (xs := as.map V.ref)) (fun i σ H' => ∃ v3 v4, σ = [some (.ref l), some (.ref t), some (.int (maskP (fun o => os.contains o) 0 (gs.take i) : Nat)), v3, v4] ∧ Same H H') ⟨none, none, rfl, fun _ _ h => h⟩ ?_ ?_ ?_
    · rintro i σ H' _ ⟨_, _, _, e⟩
      exact SqL.of (e _ _ hl)
    · rintro i x σ H' H'' hi ⟨v3, v4, rfl, e⟩ ⟨T0, x0, y0, rfl, nT, rfl, ex, ey⟩
      cases ex
      obtain ⟨c, hc, rfl⟩ := refs_get ey
      obtain ⟨o, ho, hoa⟩ := pget has hc
      have e1 : Same H (upd H' T0 (.tup [.int (i : Nat), .ref c])) := e.trans (same_upd nT)
      have il : i < gs.length := (List.getElem?_eq_some_iff.mp ho).1
      refine ⟨T0, _, rfl, SqT.of upd_same, rfl, _, _, rfl, _, _, rfl, rfl, ?_⟩
      refine ⟨_, rfl, _, rfl, duo o.1 o.2, os.map (fun o => duo (o.1 : Nat) (o.2 : Nat)), duo_dp (e1 _ _ hoa), .tup (SqT.of (e1 _ _ ht)) (duos_dp (Paired.mapP hbs fun a b h => PairAt.same _ _ a b e1 h)), duo_shaped _ _, duos_shapedT _, _, rfl, ?_⟩
      rw [duos_any, take_more ho]
      have es := maskP_snoc (fun o => os.contains o) o (gs.take i) 0
      have ll : (gs.take i).length = i := by rw [List.length_take]; omega
      rw [ll, Nat.zero_add] at es
      have lt := maskP_lt (fun o => os.contains o) (gs.take i)
      rw [ll] at lt
      cases hb : os.contains o with
      | false =>
        rw [hb, if_neg Bool.false_ne_true, Nat.add_zero] at es
        rw [es]
        exact iteF ⟨_, _, rfl, e1⟩
      | true =>
        rw [hb, if_pos rfl] at es
        refine iteT ⟨_, rfl, _, rfl, _, _, rfl, rfl, ⟨by omega, by omega, by decide⟩, _, _, rfl, rfl, some (.int (i : Nat)), some (.ref c), ?_, e1⟩
        have e2 : Builtin.bitOr ((maskP (fun o => os.contains o) 0 (gs.take i) : Nat) : Int) ((1 : Int) * 2 ^ ((i : Nat) : Int).toNat) = ((maskP (fun o => os.contains o) 0 (gs.take i ++ [o]) : Nat) : Int) := by
          rw [es, Int.toNat_natCast]
          have z := Bits.bitOr_join (a := ((maskP (fun o => os.contains o) 0 (gs.take i) : Nat) : Int)) (b := 1) (k := i) (by omega) (by
            have : ((2 ^ i : Nat) : Int) = (2 : Int) ^ i := by simp
            rw [← this]
            omega) (by decide)
          rw [z]
          simp
        dsimp only
        rw [e2]
        rfl
    · rintro σ H' ⟨v3, v4, rfl, e⟩
      have el : (as.map V.ref).length = gs.length := by rw [List.length_map, has.length]
      rw [el, List.take_length]
      exact ⟨_, rfl, k H' e⟩
end
end WG
set_option Elab.async false
set_option linter.all false
set_option maxRecDepth 100000
set_option maxHeartbeats 2000000
namespace WG
open PySem PySem.Spec PyProof.Rows L2
open LamX (TabB Tabs TabS ExtN)
/-! ### choose_set -/
/-- how many pieces, how many bytes, the pieces -/
abbrev Ch := Nat × Nat × List Pc
def ChAt (H : Hp) (t : Addr) (x : Ch) : Prop := ∃ l, H t = some (.tup [.int (x.1 : Nat), .int (x.2.1 : Nat), .ref l]) ∧ RefsAt PcAt H l x.2.2
theorem ChAt.same : ∀ (H H' : Hp) (t : Addr) (x : Ch), Same H H' → ChAt H t x → ChAt H' t x := fun _ _ _ _ e ⟨l, h1, h2⟩ => ⟨l, e _ _ h1, h2.same PcAt.same e⟩
theorem ChAt.ext : ∀ (H H' : Hp) (t : Addr) (x : Ch), ExtN H H' → ChAt H t x → ChAt H' t x := fun _ _ _ _ e ⟨l, h1, h2⟩ => ⟨l, e _ _ h1 tup_tbl, refs_ext PcAt.ext e h2⟩
/-- its list is another than fl -/
def ChAtN (fl : Addr) (H : Hp) (t : Addr) (x : Ch) : Prop := ∃ l, H t = some (.tup [.int (x.1 : Nat), .int (x.2.1 : Nat), .ref l]) ∧ RefsAt PcAt H l x.2.2 ∧ l ≠ fl
theorem ChAtN.at {fl : Addr} {H : Hp} {t : Addr} {x : Ch} (h : ChAtN fl H t x) : ChAt H t x := let ⟨l, h1, h2, _⟩ := h; ⟨l, h1, h2⟩
/-- a used piece with its marks -/
def UsAt (H : Hp) (a : Addr) (u : Pc × Nat) : Prop := ∃ b, H a = some (.tup [.ref b, .int (u.2 : Nat)]) ∧ PcAt H b u.1
theorem UsAt.same : ∀ (H H' : Hp) (t : Addr) (x : Pc × Nat), Same H H' → UsAt H t x → UsAt H' t x := fun _ _ _ _ e ⟨l, h1, h2⟩ => ⟨l, e _ _ h1, e _ _ h2⟩
theorem UsAt.ext : ∀ (H H' : Hp) (t : Addr) (x : Pc × Nat), ExtN H H' → UsAt H t x → UsAt H' t x := fun _ _ _ _ e ⟨l, h1, h2⟩ => ⟨l, e _ _ h1 tup_tbl, PcAt.ext _ _ _ _ e h2⟩
/-- what a piece makes of a choice -/
def moreP (p : Pc) (x : Ch) : Ch := (x.1 + 1, x.2.1 + pcBytes p, p :: x.2.2)
/-- the choices where c is covered, k the lowest goal that isn't -/
def candP (us : List (Pc × Nat)) (c k : Nat) (T : Nat → Ch) : List Ch := (us.filter fun u => u.2.testBit k).map fun u => moreP u.1 (T (c ||| u.2))
def ltC (x y : Ch) : Prop := x.1 < y.1 ∨ (x.1 = y.1 ∧ x.2.1 < y.2.1)
/-- the first of the least -/
def LeastC (l : List Ch) (x : Ch) : Prop := ∃ i : Nat, l[i]? = some x ∧ ∀ (j : Nat) (u : Ch), l[j]? = some u → ¬ ltC u x ∧ (j < i → ltC x u)
/-- the table from c on -/
structure TabC (H : Hp) (d : Addr) (c E : Nat) (T : Nat → Ch) : Prop where
  ex : ∃ kvs : List (L2.Key × V), H d = some (.dK kvs) ∧ kvs.length ≤ E ∧ ∀ m, c < m → m ≤ E → ∃ t, valV kvs (Sum.inl (m : Int)) = some (.ref t) ∧ ChAt H t (T m)
abbrev s_choose_set : Stmt := top 24
abbrev N_choose_set : List Str := ["used", "covered", "least_sets", "lowest", "found", "piece", "marks", "count", "size", "rest"]
theorem sc_choose_set : FnScope N_choose_set ["used", "covered", "least_sets"] (defScope s_choose_set) := ⟨rfl, rfl, rfl, by decide +kernel, rfl, by decide +kernel, by decide +kernel⟩
def sp_choose_set (D : Ads) : Sp := fun vs H Q _ => ∃ (u : Addr) (c k E : Nat) (d : Addr) (us : List (Pc × Nat)) (T : Nat → Ch), vs = [.ref u, .int (c : Nat), .ref d] ∧ RefsAt UsAt H u us ∧ us.length ≤ 100000 ∧ (∀ p ∈ us, p.1.1.length ≤ 1000) ∧ TabC H d c E T ∧ E ≤ 1000 ∧
  (∀ j, j < k → c.testBit j = true) ∧ c.testBit k = false ∧ (∀ p ∈ us, p.2.testBit k = true → c ||| p.2 ≤ E) ∧ (∀ m, (T m).2.2.length ≤ 1000) ∧ candP us c k T ≠ [] ∧ Tabs (tabsT D) H ∧
  ∀ H' t x, ExtN H H' → Tabs (tabsT D) H' → LeastC (candP us c k T) x → ChAt H' t x → Q (.ref t) H'
section
variable {P : Program} {w : World} {K : PySem.W.Frag} {mg : Str → Option Value} {base : Heap} {D : Ads}
/-- found choices, as they lie -/
theorem found_ts {H : Hp} : ∀ {as : List Addr} {xs : List Ch}, Paired (ChAt H) as xs → ∃ ts : List Fnd, ts.map (·.1) = as ∧ Paired (fun (t : Fnd) (x : Ch) => t.2.1 = x.1 ∧ t.2.2.1 = x.2.1 ∧ H t.1 = some (.tup [.int (t.2.1 : Nat), .int (t.2.2.1 : Nat), .ref t.2.2.2]) ∧ ChAt H t.1 x) ts xs
  | _, _, .nil => ⟨[], rfl, .nil⟩
  | _, _, .cons (a := a) (b := x) r t => by
    obtain ⟨ts, h1, h2⟩ := found_ts t
    obtain ⟨l, k1, k2⟩ := id r
    exact ⟨(a, x.1, x.2.1, l) :: ts, by rw [List.map_cons, h1], .cons ⟨rfl, rfl, k1, r⟩ h2⟩
theorem df_choose_set {f : Addr} {fd : FuncData} (F : At K mg "choose_set" s_choose_set ["used", "covered", "least_sets"] f fd) (T : Txt K mg D) (kC : fd.code = .ref D.kC) (TB : TabOk mg base D)
    (c_count_bytes : Df P w K mg base CX0 1 "count_bytes" ["piece"] sp_count_bytes) : Df P w K mg base CX0 2 "choose_set" ["used", "covered", "least_sets"] (sp_choose_set D) := by
  refine df0C (N := N_choose_set) F kC sc_choose_set (fun vs H Q E h => ?_) (fun A outer s H vs Q E hr h => ⟨_, (pss_cons (ps_set (i := 3) sc_choose_set.nd rfl (Or.inl rfl) (pe_op op_and (pe_un un_inv (pv 1)) (pe_op op_add (pv 1) pe_int)))
(pss_cons (ps_set (i := 4) sc_choose_set.nd rfl (Or.inl rfl) (pe_lst pa_nil))
(pss_cons (ps_for PassesOwn.never rfl (pi_list (pv 0)) (pg_tup rfl (pgs_cons (pg_name (i := 5) sc_choose_set.nd rfl (Or.inl rfl)) (pgs_cons (pg_name (i := 6) sc_choose_set.nd rfl (Or.inl rfl)) pgs_nil)))
(pss_one (ps_if (pt_truth (pe_op op_and (pv 6) (pv 3)) (by intro _; rfl))
(pss_cons (ps_asg (pe_dget (hu_of hr) (pv 2) (pe_op op_or (pv 1) (pv 6)) (fun _ _ => rfl)) (pg_tup rfl (pgs_cons (pg_name (i := 7) sc_choose_set.nd rfl (Or.inl rfl)) (pgs_cons (pg_name (i := 8) sc_choose_set.nd rfl (Or.inl rfl)) (pgs_cons (pg_name (i := 9) sc_choose_set.nd rfl (Or.inl rfl)) pgs_nil)))))
(pss_one (ps_expr (pe_bm PySem.F.plainAttrs_list PySem.F.slot_list_append PySem.F.type_list_append mt_append (pv 4) (pa_cons (pe_tup (pa_cons (pe_op op_add (pv 7) pe_int) (pa_cons (pe_op op_add (pv 8) (pe_d0 c_count_bytes hr (by decide) rfl (pa_cons (pv 5) pa_nil))) (pa_cons (pe_op op_cat (pe_lst (pa_cons (pv 5) pa_nil)) (pv 9)) pa_nil)))) pa_nil)))))
pss_nil)))
(pss_one (ps_ret (pe_minLam (T := tabsT D) (x := "chosen") ⟨by rfl, by rfl, by rfl, by decide +kernel, by rfl, by decide +kernel⟩ (by intro _ _ _ _ _; rfl) rfl hr rfl T.n_min (pv 4) TB.c rfl (List.mem_cons_of_mem _ (List.mem_cons_self ..)) TB.uC)))))), ?_⟩)
  · obtain ⟨u, c, k, E, d, us, T, rfl, _⟩ := h
    rfl
  · obtain ⟨u, c, k, E, d, us, T, rfl, ⟨as, hu, has⟩, hul, hpl, ⟨kvs, hd, hkl, htab⟩, hE, hk1, hk2, hbd, hTl, hne, hT, q⟩ := h
    -- lowest = ~covered & (covered + 1)
    refine ⟨_, rfl, _, rfl, _, rfl, _, _, rfl, rfl, _, _, rfl, rfl, ?_⟩
    dsimp only
    rw [low_int hk1 hk2]
    -- found = []
    refine ⟨by show 0 ≤ sizeLine; exact Nat.zero_le _, fun fl hfl => ?_⟩
    have eA : Same H (upd H fl (.lst [])) := same_upd hfl
    have nfl : ∀ {b : Addr} {o : HO}, H b = some o → b ≠ fl := fun hb => ne_of_none hb hfl
    refine ⟨_, rfl, u, rfl, ⟨_, SqL.of (eA _ _ hu)⟩, ?_⟩
    refine for_it (walk_list (K := K) (a := u) (xs := as.map V.ref)) (fun i σ H' => ∃ v5 v6 v7 v8 v9 bs, σ = [some (.ref u), some (.int (c : Nat)), some (.ref d), some (.int (2 ^ k : Nat)), some (.ref fl), v5, v6, v7, v8, v9] ∧ Same H H' ∧ H' fl = some (.lst (bs.map V.ref)) ∧ Paired (ChAtN fl H') bs (candP (us.take i) c k T)) ⟨none, none, none, none, none, [], rfl, eA, upd_same, .nil⟩ ?_ ?_ ?_
    · rintro i σ H' _ ⟨_, _, _, _, _, _, _, e, _⟩
      exact SqL.of (e _ _ hu)
    · rintro i x σ H1 H2 hi ⟨v5, v6, v7, v8, v9, bs, rfl, e, hbs, hbp⟩ ⟨rfl, hx⟩
      obtain ⟨a, ha, rfl⟩ := refs_get hx
      obtain ⟨⟨p, mk⟩, hp, b, hb1, hb2⟩ := pget has ha
      have hpm := List.mem_of_getElem? hp
      refine ⟨a, _, rfl, SqT.of (e _ _ hb1), rfl, _, _, rfl, _, _, rfl, rfl, ?_⟩
      -- if marks & lowest
      refine ⟨_, rfl, _, rfl, _, _, rfl, rfl, _, rfl, ?_⟩
      dsimp only
      rw [and_bit]
      have clen : (candP (us.take i) c k T).length ≤ 100000 := by
        unfold candP
        rw [List.length_map]
        refine Nat.le_trans (List.length_filter_le _ _) (Nat.le_trans (List.length_take_le' _ _) hul)
      cases hbit : mk.testBit k with
      | false =>
        refine iteF ⟨_, _, _, _, _, bs, rfl, e, hbs, ?_⟩
        have e1 : candP (us.take (i + 1)) c k T = candP (us.take i) c k T := by
          unfold candP
          rw [take_more hp, List.filter_append, List.map_append]
          simp [hbit]
        rw [e1]
        exact hbp
      | true =>
        have hor : c ||| mk ≤ E := hbd (p, mk) hpm hbit
        have hgt : c < c ||| mk := by
          have h1 : c ≤ c ||| mk := Nat.left_le_or
          rcases Nat.lt_or_ge c (c ||| mk) with z | z
          · exact z
          · have e0 : c ||| mk = c := Nat.le_antisymm z h1
            have z2 : (c ||| mk).testBit k = true := by rw [Nat.testBit_or, hbit, Bool.or_true]
            rw [e0, hk2] at z2
            cases z2
        obtain ⟨t, hv, ht⟩ := htab _ hgt hor
        obtain ⟨r, hr1, rs, hr2, hr3⟩ := ChAt.same _ _ _ _ e ht
        have eD : DGet H2 d (.int (Builtin.bitOr (c : Int) (mk : Int))) (some (.ref t)) := by
          rw [← hv, or_nat]
          exact DGet.k (k := Sum.inl ((c ||| mk : Nat) : Int)) (e _ _ hd)
        -- count, size, rest = least_sets[covered | marks]
        refine iteT ⟨_, rfl, _, rfl, _, rfl, _, _, rfl, rfl, d, .ref t, rfl, eD, ?_⟩
        refine ⟨t, _, rfl, SqT.of hr1, rfl, _, _, rfl, _, _, rfl, _, _, rfl, rfl, ?_⟩
        -- found.append((count + 1, size + count_bytes(piece), [piece] + rest))
        have hb2' : PcAt H2 b p := e _ _ hb2
        refine ⟨_, rfl, .inl ⟨rfl, _, SqL.of hbs⟩, _, rfl, _, _, rfl, rfl, _, rfl, _, rfl, b, p, rfl, hb2', hpl _ hpm, fun H3 e3 => ?_⟩
        have hbs3 := e3 _ _ hbs
        refine ⟨_, _, rfl, rfl, _, rfl, by show 1 ≤ sizeLine; decide, fun z hz => ?_⟩
        have ez : Same H3 (upd H3 z (.lst [.ref b])) := same_upd hz
        have nzr : r ≠ z := ne_of_none (e3 _ _ hr2) hz
        have rl : rs.length ≤ 1000 := by rw [hr3.length]; exact hTl _
        refine ⟨_, rfl, z, r, _, _, rfl, rfl, upd_same, ez _ _ (e3 _ _ hr2), ?_, fun y hy => ?_⟩
        · rw [List.length_map]
          show 1 + rs.length ≤ sizeLine
          exact Nat.le_trans (by omega : 1 + rs.length ≤ 1001) (by decide)
        have ey : Same (upd H3 z (.lst [.ref b])) (upd (upd H3 z (.lst [.ref b])) y (.lst ([V.ref b] ++ rs.map V.ref))) := same_upd hy
        refine ⟨by show 3 ≤ sizeLine; decide, fun g hg => ?_⟩
        have e2y : Same H2 (upd (upd H3 z (.lst [.ref b])) y (.lst ([V.ref b] ++ rs.map V.ref))) := e3.trans (ez.trans ey)
        have hflg : fl ≠ g := ne_of_none (e2y _ _ hbs) hg
        generalize hG : upd (upd H3 z (.lst [.ref b])) y (.lst ([V.ref b] ++ rs.map V.ref)) = H4 at e2y hg ⊢
        have hy4 : H4 y = some (.lst ((b :: rs).map V.ref)) := by
          rw [← hG, upd_same]
          rfl
        have eg : Same H4 (upd H4 g (.tup [.int ((T (c ||| mk)).1 + 1), .int ((T (c ||| mk)).2.1 + (pcBytes p : Nat)), .ref y])) := same_upd hg
        refine ⟨fl, _, _, rfl, rfl, (upd_ne hflg).trans (e2y _ _ hbs), ?_, ?_⟩
        · rw [List.length_map, hbp.length]
          exact Nat.lt_of_le_of_lt clen (by rw [sizeLine_eq]; decide)
        have nfy : y ≠ fl := fun q => by
          have h1 : H4 fl = some (.lst (bs.map V.ref)) := e2y _ _ hbs
          have h2 : (upd H3 z (.lst [.ref b])) fl = some (.lst (bs.map V.ref)) := ez _ _ hbs3
          rw [q, h2] at hy
          cases hy
        have up : ∀ {a : Addr} {o : HO}, H4 a = some o → a ≠ fl → upd (upd H4 g (.tup [.int ((T (c ||| mk)).1 + 1), .int ((T (c ||| mk)).2.1 + (pcBytes p : Nat)), .ref y])) fl (.lst (bs.map V.ref ++ [.ref g])) a = some o := fun {a o} h n => by
          rw [upd_ne n]
          exact eg _ _ h
        refine ⟨_, _, _, _, _, bs ++ [g], rfl, fun a o h => ?_, ?_, ?_⟩
        · exact up (e2y _ _ (e _ _ h)) (nfl h)
        · rw [upd_same, List.map_append]
          rfl
        · have e1 : candP (us.take (i + 1)) c k T = candP (us.take i) c k T ++ [moreP p (T (c ||| mk))] := by
            unfold candP
            rw [take_more hp, List.filter_append, List.map_append]
            simp [hbit]
          rw [e1]
          generalize hX : upd (upd H4 g (.tup [.int ((T (c ||| mk)).1 + 1), .int ((T (c ||| mk)).2.1 + (pcBytes p : Nat)), .ref y])) fl (.lst (bs.map V.ref ++ [.ref g])) = H5 at up ⊢
          have tup5 : ∀ {a : Addr} {xs : List V}, H2 a = some (.tup xs) → H5 a = some (.tup xs) := fun {a xs} h => up (e2y _ _ h) (ne_of h hbs (by intro z; cases z))
          refine psnoc (Paired.mapP hbp fun x z h => ?_) ⟨y, ?_, ⟨b :: rs, up hy4 nfy, ?_⟩, nfy⟩
          · obtain ⟨l, k1, ⟨as', k2, k3⟩, nl⟩ := h
            exact ⟨l, tup5 k1, ⟨as', up (e2y _ _ k2) nl, Paired.mapP k3 fun a b h => tup5 h⟩, nl⟩
          · rw [← hX, upd_ne (Ne.symm hflg), upd_same]
            show some (HO.tup [.int ((T (c ||| mk)).1 + 1), .int ((T (c ||| mk)).2.1 + (pcBytes p : Nat)), .ref y]) = some (HO.tup [.int (((T (c ||| mk)).1 + 1 : Nat) : Int), .int (((T (c ||| mk)).2.1 + pcBytes p : Nat) : Int), .ref y])
            rw [Int.natCast_add, Int.natCast_add]
            rfl
          · exact .cons (tup5 hb2') (Paired.mapP hr3 fun a b h => tup5 h)
    · rintro σ H1 ⟨v5, v6, v7, v8, v9, bs, rfl, e, hbs, hbp⟩
      have el : (as.map V.ref).length = us.length := by rw [List.length_map, has.length]
      rw [el, List.take_length] at hbp
      obtain ⟨ts, t1, t2⟩ := found_ts (Paired.mapP hbp fun a b h => h.at)
      have eB : (bs.map V.ref) = ts.map fun t => V.ref t.1 := by rw [← t1, List.map_map]; rfl
      rw [eB] at hbs
      refine ⟨_, rfl, tabs_same hT e, fl, ts, rfl, SqL.of hbs, fun z => ?_, fun t ht => ?_, fun H2 i t eN T2 hi best => ?_⟩
      · rw [z] at t2
        cases hc : candP us c k T with
        | nil => exact hne hc
        | cons x r => rw [hc] at t2; cases t2
      · obtain ⟨i, hi⟩ := List.mem_iff_getElem?.mp ht
        obtain ⟨x, hx, _, _, h3, _⟩ := pget t2 hi
        exact h3
      · obtain ⟨x, hx, h1, h2, _, h4⟩ := pget t2 hi
        refine q H2 t.1 x ((extN_same e).trans eN) T2 ⟨i, hx, fun j u hu => ?_⟩ (ChAt.ext _ _ _ _ eN h4)
        obtain ⟨t', ht', k1, k2, _, _⟩ := pget2 t2 hu
        have b := best j t' ht'
        unfold ltC
        rw [← h1, ← h2, ← k1, ← k2]
        exact b
end
end WG
set_option Elab.async false
set_option linter.all false
set_option maxRecDepth 100000
set_option maxHeartbeats 2000000
namespace WG
open PySem PySem.Spec PyProof.Rows L2
open LamX (TabB Tabs TabS ExtN)
/-! ### find_family -/
def famTo (s : Vahypa.Lst) (xs : List Pc) : List Pc := (xs.foldl putP []).filter (goodP s)
theorem fam_snoc (s : Vahypa.Lst) (xs : List Pc) (p : Pc) : famTo s (xs ++ [p]) = if goodP s p = true then (if p ∈ famTo s xs then famTo s xs else famTo s xs ++ [p]) else famTo s xs := by
  unfold famTo
  rw [List.foldl_append, List.foldl_cons, List.foldl_nil]
  generalize xs.foldl putP [] = X
  unfold putP
  by_cases h : p ∈ X
  · rw [if_pos (by simpa using h)]
    split
    · rename_i g
      rw [if_pos (List.mem_filter.mpr ⟨h, g⟩)]
    · rfl
  · rw [if_neg (by simpa using h), List.filter_append, List.filter_cons, List.filter_nil]
    split
    · rename_i g
      rw [if_neg (fun z => h (List.mem_filter.mp z).1)]
    · rw [List.append_nil]
theorem good_stand (s : Vahypa.Lst) (p : Pc) : ((standP s p).map (yesP s)).all id = goodP s p := by
  unfold goodP standP
  rw [List.all_map, Bool.eq_iff_iff, List.all_eq_true, List.all_eq_true]
  constructor
  · intro h o ho
    cases hf : fitsP p (Vahypc.wordAt s o.1) o.2 with
    | false => simp
    | true =>
      have := h o (List.mem_filter.mpr ⟨ho, hf⟩)
      simp at this
      simp [this]
  · intro h o ho
    obtain ⟨h1, h2⟩ := List.mem_filter.mp ho
    have := h o h1
    rw [h2] at this
    simpa using this
/-- a piece of the family: its tuple, the tuple of its spots -/
structure FmInv (P : Program) (w : World) (H1 : Hp) (d : Addr) (s : Vahypa.Lst) (H : Hp) (G : List PGrp) : Prop where
  same : ∀ b u, H1 b = some u → b ≠ d → H b = some u
  dict : H d = some (ndO P w d (G.map pgD))
  keys : ∀ g ∈ G, PcAt H g.2.1 g.1
  vals : ∀ g ∈ G, TsAt H g.2.2 (standP s g.1)
theorem FmInv.on {P : Program} {w : World} {H1 H H' : Hp} {d : Addr} {s : Vahypa.Lst} {G : List PGrp} (I : FmInv P w H1 d s H G) (e : Same H H') : FmInv P w H1 d s H' G :=
  ⟨fun b u hb nb => e _ _ (I.same b u hb nb), e _ _ I.dict, fun g hg => e _ _ (I.keys g hg), fun g hg => TsAt.same _ _ _ _ e (I.vals g hg)⟩
theorem ts_but {H : Hp} {t d : Addr} {o u : HO} {os : List (Nat × Nat)} (h : TsAt H t os) (hd : H d = some u) (n : ∀ xs, u ≠ .tup xs) : TsAt (upd H d o) t os := by
  obtain ⟨as, h1, h2⟩ := h
  refine ⟨as, ?_, Paired.mapP h2 fun a b k => ?_⟩
  · rw [upd_ne (ne_of h1 hd (fun z => n _ z.symm))]
    exact h1
  · show upd _ _ _ a = _
    rw [upd_ne (ne_of k hd (fun z => n _ z.symm))]
    exact k
theorem nd_tup {P : Program} {w : World} {d : Addr} {kvs : List (NK × Addr × V)} : ∀ xs, ndO P w d kvs ≠ .tup xs := fun _ z => by cases z
/-- family[piece] = tuple(spots) -/
theorem FmInv.put {P : Program} {w : World} {H1 H : Hp} {d : Addr} {s : Vahypa.Lst} {G : List PGrp} {p : Pc} {b t : Addr} (I : FmInv P w H1 d s H G) (hb : PcAt H b p) (ht : TsAt H t (standP s p)) :
    ∃ G', ndPut (G.map pgD) (pkK p) b (.ref t) = G'.map pgD ∧ G'.map (·.1) = (if p ∈ G.map (·.1) then G.map (·.1) else G.map (·.1) ++ [p]) ∧ FmInv P w H1 d s (upd H d (ndO P w d (ndPut (G.map pgD) (pkK p) b (.ref t)))) G' := by
  have tupd : ∀ {a : Addr} {xs : List V} {o : HO}, H a = some (.tup xs) → upd H d o a = some (.tup xs) := fun {a xs o} h => by
    rw [upd_ne (ne_of h I.dict (by intro z; cases z))]
    exact h
  by_cases h : p ∈ G.map (·.1)
  · have e : ndPut (G.map pgD) (pkK p) b (.ref t) = (G.map fun g => if g.1 = p then (g.1, g.2.1, t) else g).map pgD := by
      unfold ndPut
      obtain ⟨g, _, _, q⟩ := pg_get h
      rw [if_pos (by rw [q]; rfl), List.map_map, List.map_map]
      refine List.map_congr_left fun g hg => ?_
      show (if (pgD g).1 = pkK p then ((pgD g).1, (pgD g).2.1, V.ref t) else pgD g) = pgD (if g.1 = p then (g.1, g.2.1, t) else g)
      by_cases c : g.1 = p
      · rw [if_pos c, if_pos (by rw [← c]; rfl)]
        rfl
      · rw [if_neg c, if_neg (show ¬ (pgD g).1 = pkK p from fun z => c (pkK_inj z))]
    refine ⟨_, e, ?_, ?_⟩
    · rw [if_pos h, List.map_map]
      refine List.map_congr_left fun g hg => ?_
      show (if g.1 = p then (g.1, g.2.1, t) else g).1 = g.1
      split <;> rfl
    · rw [e]
      refine ⟨fun a u ha na => by rw [upd_ne na]; exact I.same a u ha na, upd_same, fun g' hg' => ?_, fun g' hg' => ?_⟩
      · obtain ⟨g, hg, rfl⟩ := List.mem_map.mp hg'
        have := I.keys g hg
        by_cases c : g.1 = p
        · rw [if_pos c]
          exact tupd this
        · rw [if_neg c]
          exact tupd this
      · obtain ⟨g, hg, rfl⟩ := List.mem_map.mp hg'
        by_cases c : g.1 = p
        · rw [if_pos c]
          show TsAt _ t (standP s g.1)
          rw [c]
          exact ts_but ht I.dict nd_tup
        · rw [if_neg c]
          exact ts_but (I.vals g hg) I.dict nd_tup
  · have e : ndPut (G.map pgD) (pkK p) b (.ref t) = (G ++ [(p, b, t)]).map pgD := by
      unfold ndPut
      rw [if_neg, List.map_append]
      · rfl
      · intro z
        cases q : ndAt (G.map pgD) (pkK p) with
        | none => rw [q] at z; cases z
        | some v =>
          obtain ⟨g, hg, c, _⟩ := pg_some q
          exact h (List.mem_map.mpr ⟨g, hg, c⟩)
    refine ⟨_, e, ?_, ?_⟩
    · rw [if_neg h, List.map_append]
      rfl
    · rw [e]
      refine ⟨fun a u ha na => by rw [upd_ne na]; exact I.same a u ha na, upd_same, fun g' hg' => ?_, fun g' hg' => ?_⟩
      · rcases List.mem_append.mp hg' with hg | hg
        · exact tupd (I.keys g' hg)
        · rw [List.mem_singleton.mp hg]
          exact tupd hb
      · rcases List.mem_append.mp hg' with hg | hg
        · exact ts_but (I.vals g' hg) I.dict nd_tup
        · rw [List.mem_singleton.mp hg]
          exact ts_but ht I.dict nd_tup
/-- the family in a dict -/
structure FmAt (P : Program) (w : World) (H : Hp) (d : Addr) (s : Vahypa.Lst) (ps : List Pc) : Prop where
  ex : ∃ G : List PGrp, H d = some (ndO P w d (G.map pgD)) ∧ G.map (·.1) = ps ∧ (∀ g ∈ G, PcAt H g.2.1 g.1) ∧ ∀ g ∈ G, TsAt H g.2.2 (standP s g.1)
abbrev s_find_family : Stmt := top 21
abbrev N_find_family : List Str := ["wordlist", "length", "spots_by_piece", "family", "number", "gap", "piece", "spots", "spot"]
theorem sc_find_family : FnScope N_find_family ["wordlist", "length"] (defScope s_find_family) := ⟨rfl, rfl, rfl, by decide +kernel, rfl, by decide +kernel, by decide +kernel⟩
def sp_find_family (P : Program) (w : World) (D : Ads) : Sp := fun vs H Q _ => ∃ a s m, vs = [.ref a, .int (m : Nat)] ∧ ListAt D H a s ∧ Fine s ∧ m ≤ 3 ∧ ∀ H' d, Same H H' → H d = none → FmAt P w H' d s (famP s m) → Q (.ref d) H'
section
variable {P : Program} {w : World} {K : PySem.W.Frag} {mg : Str → Option Value} {base : Heap} {D : Ads}
theorem df_find_family {f : Addr} {fd : FuncData} (F : At K mg "find_family" s_find_family ["wordlist", "length"] f fd) (T : Txt K mg D) (c_map_pieces : Df P w K mg base CX0 3 "map_pieces" ["wordlist", "length"] (sp_map_pieces P w D))
    (c_find_goals : Df P w K mg base CX0 2 "find_goals" ["wordlist"] (sp_find_goals D)) (c_find_pieces_around : Df P w K mg base CX0 2 "find_pieces_around" ["letters", "gap", "length"] sp_find_pieces_around)
    (c_may_part : Df P w K mg base CX0 1 "may_part" ["wordlist", "spot"] (sp_may_part D)) : Df P w K mg base CX0 4 "find_family" ["wordlist", "length"] (sp_find_family P w D) := by
  refine df0 (N := N_find_family) F sc_find_family (fun vs H Q E h => ?_) (fun cdv A outer s H vs Q E hr h => ⟨_, (pss_cons (ps_set (i := 2) sc_find_family.nd rfl (Or.inl rfl) (pe_d0 c_map_pieces hr (by decide) rfl (pa_cons (pv 0) (pa_cons (pv 1) pa_nil))))
(pss_cons (ps_set (i := 3) sc_find_family.nd rfl (Or.inl rfl) pe_ndnew)
(pss_cons (ps_for PassesOwn.never rfl (pi_list (pe_d0 c_find_goals hr (by decide) rfl (pa_cons (pv 0) pa_nil))) (pg_tup rfl (pgs_cons (pg_name (i := 4) sc_find_family.nd rfl (Or.inl rfl)) (pgs_cons (pg_name (i := 5) sc_find_family.nd rfl (Or.inl rfl)) pgs_nil)))
(pss_one (ps_for PassesOwn.never rfl (pi_list (pe_d0 c_find_pieces_around hr (by decide) rfl (pa_cons (pe_fld (pe_ix ix_list (pe_fld (pv 0) rfl) (pv 4) (fun _ _ => rfl)) rfl) (pa_cons (pv 5) (pa_cons (pv 1) pa_nil))))) (pg_name (i := 6) sc_find_family.nd rfl (Or.inl rfl))
(pss_cons (ps_set (i := 7) sc_find_family.nd rfl (Or.inl rfl) (pe_ix (ix_nd hr.units) (pv 2) (pv 6) (fun _ _ => rfl)))
(pss_one (ps_if (pt_val (pe_callB (cr_all rfl) (by rfl) T.n_all (by decide +kernel) (pa_cons (pe_lc (own := [("spot", 8)]) rfl sc_find_family.nd (pi_list (pv 7)) (blkOk_by (own := [("spot", 8)]) (N := N_find_family) (sc := defScope s_find_family) (by decide +kernel)) (fun _ _ _ _ _ => (pg_name (i := 8) sc_find_family.nd rfl (Or.inl rfl))) (fun _ _ _ _ _ => pts_nil) (fun _ _ _ _ _ => (pe_d0 c_may_part (Room.mono hr (Nat.le_refl _)) (by decide) rfl (pa_cons (pv 0) (pa_cons (pv 8) pa_nil))))) pa_nil)))
(pss_one (ps_asg (pe_callTy call_tuple_of (by rfl) T.n_tuple (by decide +kernel) (pa_cons (pv 7) pa_nil)) (pg_sub (pv 3) (pv 6) (set_nd hr.units))))
pss_nil))))))
(pss_one (ps_ret (pv 3)))))), ?_⟩)
  · obtain ⟨a, s, m, rfl, _⟩ := h
    rfl
  · obtain ⟨a, s, m, rfl, hL, hF, hm, k⟩ := h
    -- spots_by_piece = map_pieces(wordlist, length)
    refine ⟨_, rfl, _, rfl, a, s, m, rfl, hL, hF, hm, fun H0 mp e0 nmp hM => ?_⟩
    -- family = {}
    intro d hd
    have eA : Same H0 (upd H0 d (ndO P w d [])) := same_upd hd
    have hdH : H d = none := e0.free hd
    -- for number, gap in find_goals(wordlist)
    refine ⟨_, rfl, a, s, rfl, hL.same (e0.trans eA), hF, fun H1 l e1 nl ⟨as, hl, has⟩ => ⟨l, rfl, ⟨_, SqL.of hl⟩, ?_⟩⟩
    have h1d : H1 d = some (ndO P w d []) := e1 _ _ upd_same
    have nld : l ≠ d := fun z => by rw [z, upd_same] at nl; cases nl
    have e01 : Same H0 H1 := eA.trans e1
    have big : ∀ {G : List PGrp} {H2 : Hp}, FmInv P w H1 d s H2 G → Same H0 H2 := fun I b u hb => I.same b u (e01 b u hb) (ne_of_none hb hd)
    have hgl : (goalsP s).length ≤ 360 := Nat.le_trans (List.length_filter_le _ _) (spots_len hF)
    refine for_it (walk_list (K := K) (a := l) (xs := as.map V.ref)) (fun i σ H' => ∃ v4 v5 v6 v7 v8 G, σ = [some (.ref a), some (.int (m : Nat)), some (.ref mp), some (.ref d), v4, v5, v6, v7, v8] ∧ FmInv P w H1 d s H' G ∧ G.map (·.1) = famTo s (((goalsP s).take i).flatMap fun o => pcsAt s m o) ∧ G.length ≤ 300 * i) ?_ ?_ ?_ ?_
    · exact ⟨none, none, none, none, none, [], rfl, ⟨fun b u hb _ => hb, h1d, nofun, nofun⟩, rfl, Nat.le_refl _⟩
    · rintro i σ H2 _ ⟨_, _, _, _, _, G, _, I, _⟩
      exact SqL.of (I.same _ _ hl nld)
    · rintro i x σ H2 H2' hi ⟨v4, v5, v6, v7, v8, G, rfl, I, hG, hGl⟩ ⟨rfl, hx⟩
      obtain ⟨c, hc, rfl⟩ := refs_get hx
      obtain ⟨o, ho, hoa⟩ := pget has hc
      have hoa2 : PairAt H2' c o := I.same _ _ hoa (ne_of hoa h1d (by intro z; cases z))
      have hog := List.mem_of_getElem? ho
      have hom : o ∈ spotsP s := (List.mem_filter.mp hog).1
      obtain ⟨wo, hwo, ho1, ho2, hwom⟩ := spots_in hom
      have hL2 : ListAt D H2' a s := hL.same (e0.trans (big I))
      obtain ⟨dx, wl, ppl, h1, ⟨ws, h2, h2p⟩, h3⟩ := id hL2
      obtain ⟨wa, hwa, dw, bl, hw1, hw2⟩ := pget2 h2p hwo
      have hwl := hF.lx wo hwom
      have il : i < 360 := by
        rw [List.length_map, has.length] at hi
        omega
      refine ⟨c, _, rfl, SqT.of hoa2, rfl, _, _, rfl, _, _, rfl, rfl, ?_⟩
      -- for piece in find_pieces_around(..)
      refine ⟨_, rfl, a, D.cL, dx, _, _, rfl, h1, T.kL, T.lW, fL_words _ _ _ _, _, rfl, wl, _, _, .ref wa, rfl, rfl, SqL.of h2, atI_nat (by rw [List.getElem?_map, hwa] <;> rfl), ?_⟩
      refine ⟨wa, D.cW, dw, _, _, rfl, hw1, T.kW, T.wL, fW_letters _ _, _, rfl, _, rfl, ?_⟩
      refine ⟨wo.x, o.2, m, rfl, hwl.2, by omega, by omega, fun H3 q e3 nq ⟨qs, hq, hqp⟩ => ⟨q, rfl, ⟨_, SqL.of hq⟩, ?_⟩⟩
      have eP : pcsAt s m o = pcs wo.x o.2 m := by unfold pcsAt; rw [wordAt_of hwo]
      rw [← eP] at hqp
      have plen : (pcsAt s m o).length ≤ 300 := by
        rw [eP]
        have z := pcs_len wo.x o.2 m
        have z2 : 4 * (wo.x.length + 1) * m ≤ 4 * 17 * 3 := Nat.mul_le_mul (by omega) hm
        omega
      have nqd : q ≠ d := fun z => by rw [z, I.dict] at nq; cases nq
      have I3 := I.on e3
      refine for_it (walk_list (K := K) (a := q) (xs := qs.map V.ref)) (fun j σ H' => ∃ v6 v7 v8 G', σ = [some (.ref a), some (.int (m : Nat)), some (.ref mp), some (.ref d), some (.int (o.1 : Nat)), some (.int (o.2 : Nat)), v6, v7, v8] ∧ FmInv P w H1 d s H' G' ∧ G'.map (·.1) = famTo s ((((goalsP s).take i).flatMap fun o => pcsAt s m o) ++ (pcsAt s m o).take j) ∧ G'.length ≤ 300 * i + j ∧ H' q = some (.lst (qs.map V.ref)) ∧ Paired (PcAt H') qs (pcsAt s m o)) ?_ ?_ ?_ ?_
      · exact ⟨v6, v7, v8, G, rfl, I3, by rw [List.take_zero, List.append_nil]; exact hG, hGl, hq, hqp⟩
      · rintro j σ H' _ ⟨_, _, _, _, _, _, _, _, e, _⟩
        exact SqL.of e
      · rintro j x σ H4 H5 hj ⟨v6', v7', v8', G', rfl, J, hG', hGl', hq5, hqp5⟩ ⟨rfl, hx⟩
        obtain ⟨kt, hkt, rfl⟩ := refs_get hx
        obtain ⟨p, hp, hpa⟩ := pget hqp5 hkt
        have hpm := List.mem_of_getElem? hp
        have jl : j < 300 := by
          rw [List.length_map, hqp.length] at hj
          omega
        have hM5 := hM.same (big J)
        obtain ⟨kvs, sl, hmd, hkeys, hat, bs, hsl, hbp⟩ := hM5.find hom hpm
        -- spots = spots_by_piece[piece]
        refine ⟨_, rfl, _, rfl, mp, kvs, pkK p, kt, _, rfl, rfl, hmd, hkeys, pc_nk hpa, hat, ?_⟩
        -- if all([may_part(wordlist, spot) for spot in spots])
        refine ⟨_, rfl, sl, rfl, ⟨_, SqL.of hsl⟩, fun O hO => ?_⟩
        have eO : Same H5 (upd H5 O (.lst [])) := same_upd hO
        have hL5 : ListAt D H5 a s := hL.same (e0.trans (big J))
        have slen : (standP s p).length ≤ 360 := Nat.le_trans (stand_len s p) (spots_len hF)
        refine lc_it (walk_list (K := K) (a := sl) (xs := bs.map V.ref)) (fun n H' => Same H5 H' ∧ H' O = some (.lst ((((standP s p).take n).map (yesP s)).map V.bl))) ⟨eO, upd_same⟩ ?_ ?_ ?_
        · rintro n H' _ ⟨e, _⟩
          exact SqL.of (e _ _ hsl)
        · rintro n x H6 H7 hn ⟨e6, hO6⟩ ⟨rfl, hx⟩
          obtain ⟨b, hb, rfl⟩ := refs_get hx
          obtain ⟨so, hso, hsa⟩ := pget hbp hb
          obtain ⟨wu, hwu, _⟩ := spots_in (List.mem_filter.mp (List.mem_of_getElem? hso)).1
          have eY : wu.cuts.contains so.2 = yesP s so := by unfold yesP; rw [hwu]
          refine ⟨rfl, ?_⟩
          refine ⟨_, rfl, _, rfl, a, b, s, so.1, so.2, wu, rfl, hL5.same e6, e6 _ _ hsa, hwu, _, hO6, ?_, fun a' u hu => ?_, ?_⟩
          · rw [List.length_map, List.length_map, List.length_take]
            exact Nat.lt_of_le_of_lt (by omega : _ ≤ 400) (by decide)
          · rw [upd_ne (ne_of_none hu hO)]
            exact e6 _ _ hu
          · rw [upd_same, eY, take_more hso, List.map_append, List.map_append]
            rfl
        · rintro H6 ⟨e6, hO6⟩
          have el : (bs.map V.ref).length = (standP s p).length := by rw [List.length_map, hbp.length]
          rw [el, List.take_length] at hO6
          refine ⟨O, _, rfl, SqL.of hO6, _, rfl, ?_⟩
          rw [good_stand]
          have J6 := J.on e6
          have eT : famTo s ((((goalsP s).take i).flatMap fun o => pcsAt s m o) ++ (pcsAt s m o).take (j + 1)) = if goodP s p = true then (if p ∈ G'.map (·.1) then G'.map (·.1) else G'.map (·.1) ++ [p]) else G'.map (·.1) := by
            rw [take_more hp, ← List.append_assoc, fam_snoc, hG']
          cases hg : goodP s p with
          | false =>
            rw [hg, if_neg Bool.false_ne_true] at eT
            refine iteF ⟨_, _, _, G', rfl, J6, eT.symm, by omega, e6 _ _ hq5, Paired.mapP hqp5 fun x y h => PcAt.same _ _ x y e6 h⟩
          | true =>
            rw [hg, if_pos rfl] at eT
            refine iteT ⟨_, rfl, sl, _, rfl, .inl ⟨SqL.of (e6 _ _ hsl), fun t ht => ?_⟩⟩
            have et : Same H6 (upd H6 t (.tup (bs.map V.ref))) := same_upd ht
            have J7 := J6.on et
            have hts : TsAt (upd H6 t (.tup (bs.map V.ref))) t (standP s p) := ⟨bs, upd_same, Paired.mapP hbp fun x y h => PairAt.same _ _ x y (e6.trans et) h⟩
            have hpa7 : PcAt (upd H6 t (.tup (bs.map V.ref))) kt p := PcAt.same _ _ _ _ (e6.trans et) hpa
            obtain ⟨G2, g1, g2, g3⟩ := J7.put hpa7 hts
            refine ⟨_, rfl, _, rfl, d, _, pkK p, kt, rfl, rfl, J7.dict, fun r hr => ?_, pc_nk hpa7, ?_, ?_⟩
            · obtain ⟨g, hg, rfl⟩ := List.mem_map.mp hr
              exact pc_nk (J7.keys g hg)
            · rw [List.length_map]
              exact Nat.lt_of_lt_of_le (by omega : G'.length < 120000) (by rw [sizeLine_eq]; decide)
            · have hl2 : G2.length ≤ G'.length + 1 := by
                have z := congrArg List.length g2
                rw [List.length_map] at z
                rw [z]
                split
                · rw [List.length_map]; omega
                · rw [List.length_append, List.length_map, List.length_singleton]; exact Nat.le_refl _
              refine ⟨_, _, _, G2, rfl, g3, g2.trans eT.symm, by omega, ?_, Paired.mapP hqp5 fun x y h => ?_⟩
              · rw [upd_ne nqd]
                exact et _ _ (e6 _ _ hq5)
              · show upd _ _ _ x = _
                have h7 : PcAt (upd H6 t (.tup (bs.map V.ref))) x y := PcAt.same _ _ _ _ (e6.trans et) h
                rw [upd_ne (ne_of h7 J7.dict (by intro z; cases z))]
                exact h7
      · rintro σ H4 ⟨v6', v7', v8', G', rfl, J, hG', hGl', hq5, hqp5⟩
        have ql : (qs.map V.ref).length = (pcsAt s m o).length := by rw [List.length_map, hqp.length]
        rw [ql] at hG' hGl'
        refine ⟨_, _, _, _, _, G', rfl, J, ?_, by omega⟩
        rw [hG', List.take_length, take_more ho, List.flatMap_append, List.flatMap_cons, List.flatMap_nil, List.append_nil]
    · rintro σ H2 ⟨v4, v5, v6, v7, v8, G, rfl, I, hG, _⟩
      have hal : (as.map V.ref).length = (goalsP s).length := by rw [List.length_map, has.length]
      rw [hal, List.take_length] at hG
      exact ⟨_, rfl, k H2 d (e0.trans (big I)) hdH ⟨G, I.dict, hG, I.keys, I.vals⟩⟩
end
end WG
set_option Elab.async false
set_option linter.all false
set_option maxRecDepth 100000
set_option maxHeartbeats 2000000
namespace WG
open PySem PySem.Spec PyProof.Rows L2
open LamX (TabB Tabs TabS ExtN)
/-! ### find_used_pieces -/
/-- a tuple of spots as a key -/
def tsK (os : List (Nat × Nat)) : NK := .tup (os.map fun o => PySem.NestedKey.tup [.num (o.1 : Nat), .num (o.2 : Nat)])
theorem tsK_inj : ∀ {a b : List (Nat × Nat)}, tsK a = tsK b → a = b := by
  intro a b h
  unfold tsK at h
  simp only [PySem.NestedKey.tup.injEq] at h
  refine (List.map_inj_right fun x y e => ?_).mp h
  simp only [PySem.NestedKey.tup.injEq, List.cons.injEq, PySem.NestedKey.num.injEq, and_true] at e
  exact Prod.ext (by omega) (by omega)
theorem ts_nk {P : Program} {w : World} {H : Hp} {t : Addr} {os : List (Nat × Nat)} (e : TsAt H t os) : NkAt P w H (tsK os) t := by
  intro h ok
  obtain ⟨as, h1, h2⟩ := e
  obtain ⟨_, us, rus, o, e1, e2, n, e3⟩ := (show ObjOk P w H h t (.tup (as.map V.ref)) from ok t _ h1)
  refine ⟨.tup e1 e2 e3 ?_, ?_⟩
  · have go : ∀ {as : List Addr} {os : List (Nat × Nat)} {us : List Value}, Paired (PairAt H) as os → Paired RelV (as.map V.ref) us → PySem.NestedAll h (os.map fun o => PySem.NestedKey.tup [.num (o.1 : Nat), .num (o.2 : Nat)]) us := by
      intro as os us q
      induction q generalizing us with
      | nil => intro r; cases r; exact .nil
      | @cons a o as os ha t ih =>
        intro r
        cases r with
        | @cons _ u _ us' r1 r2 =>
          obtain rfl : u = Value.ref a := r1
          obtain ⟨_, vs, rvs, ob, f1, f2, m, f3⟩ := (show ObjOk P w H h a (.tup [.int (o.1 : Nat), .int (o.2 : Nat)]) from ok a _ ha)
          refine .cons (.tup f1 f2 f3 ?_) (ih r2)
          cases rvs with
          | cons k1 t1 =>
            cases t1 with
            | cons k2 t2 =>
              cases t2
              obtain ⟨_, rfl⟩ := k1
              obtain ⟨_, rfl⟩ := k2
              exact .cons (.int _ _) (.cons (.int _ _) .nil)
    exact go h2 rus
  · have d1 : ∀ o : Nat × Nat, (PySem.NestedKey.tup [.num (o.1 : Nat), .num (o.2 : Nat)]).depth = 1 := fun o => by simp [PySem.NestedKey.depth, PySem.NestedKey.depthAll]
    have d2 : ∀ l : List (Nat × Nat), PySem.NestedKey.depthAll (l.map fun o => PySem.NestedKey.tup [.num (o.1 : Nat), .num (o.2 : Nat)]) ≤ 1 := by
      intro l
      induction l with
      | nil => simp [PySem.NestedKey.depthAll]
      | cons o l ih =>
        rw [List.map_cons]
        unfold PySem.NestedKey.depthAll
        rw [d1]
        omega
    unfold tsK PySem.NestedKey.depth
    have := d2 os
    omega
/-- of pieces that stand alike the one with the fewest bytes -/
def putU (s : Vahypa.Lst) : List Pc → Pc → List Pc
  | [], p => [p]
  | d :: r, p => if standP s d = standP s p then (if pcBytes p < pcBytes d then p :: r else d :: r) else d :: putU s r p
def usedP (s : Vahypa.Lst) (ps : List Pc) : List Pc := ps.foldl (putU s) []
theorem putU_len (s : Vahypa.Lst) (p : Pc) : ∀ l, (putU s l p).length ≤ l.length + 1
  | [] => Nat.le_refl _
  | d :: r => by
    have ih := putU_len s p r
    unfold putU
    split
    · split
      · rw [List.length_cons, List.length_cons]; omega
      · exact Nat.le_succ _
    · rw [List.length_cons, List.length_cons]
      omega
theorem putU_mem {s : Vahypa.Lst} {p q : Pc} : ∀ {l : List Pc}, q ∈ putU s l p → q ∈ l ∨ q = p
  | [], h => .inr (List.mem_singleton.mp h)
  | d :: r, h => by
    unfold putU at h
    split at h
    · split at h
      · rcases List.mem_cons.mp h with e | e
        · exact .inr e
        · exact .inl (.tail _ e)
      · exact .inl h
    · rcases List.mem_cons.mp h with e | e
      · exact .inl (e ▸ .head _)
      · rcases putU_mem e with e | e
        · exact .inl (.tail _ e)
        · exact .inr e
theorem used_mem {s : Vahypa.Lst} {q : Pc} {l : List Pc} (h : q ∈ usedP s l) : q ∈ l := by
  have go : ∀ (l acc : List Pc), q ∈ l.foldl (putU s) acc → q ∈ acc ∨ q ∈ l := by
    intro l
    induction l with
    | nil => exact fun _ h => .inl h
    | cons p l ih =>
      intro acc h
      rcases ih _ h with e | e
      · rcases putU_mem e with e | e
        · exact .inl e
        · exact .inr (e ▸ .head _)
      · exact .inr (.tail _ e)
  rcases go l [] h with e | e
  · cases e
  · exact e
/-- a used piece, its tuple, the tuple of its spots -/
def udD (s : Vahypa.Lst) (g : PGrp) : NK × Addr × V := (tsK (standP s g.1), g.2.2, .ref g.2.1)
theorem ud_none {s : Vahypa.Lst} {p : Pc} : ∀ {U : List PGrp}, ndAt (U.map (udD s)) (tsK (standP s p)) = none → (∀ g ∈ U, standP s g.1 ≠ standP s p) ∧ putU s (U.map (·.1)) p = U.map (·.1) ++ [p]
  | [], _ => ⟨nofun, rfl⟩
  | g :: U, h => by
    rw [List.map_cons] at h
    by_cases e : standP s g.1 = standP s p
    · rw [ndAt_here (show (udD s g).1 = tsK (standP s p) from congrArg tsK e)] at h
      cases h
    · rw [ndAt_past (show ¬ (udD s g).1 = tsK (standP s p) from fun z => e (tsK_inj z))] at h
      obtain ⟨h1, h2⟩ := ud_none h
      refine ⟨fun g' hg => ?_, ?_⟩
      · rcases List.mem_cons.mp hg with q | q
        · rw [q]; exact e
        · exact h1 g' q
      · rw [List.map_cons]
        unfold putU
        rw [if_neg e, h2]
        rfl
theorem ud_some {s : Vahypa.Lst} {p : Pc} : ∀ {U : List PGrp} {v : V}, ndAt (U.map (udD s)) (tsK (standP s p)) = some v → ∃ U1 g U2, U = U1 ++ g :: U2 ∧ standP s g.1 = standP s p ∧ v = .ref g.2.1 ∧ ∀ g' ∈ U1, standP s g'.1 ≠ standP s p
  | [], _, h => by cases h
  | g :: U, v, h => by
    rw [List.map_cons] at h
    by_cases e : standP s g.1 = standP s p
    · rw [ndAt_here (show (udD s g).1 = tsK (standP s p) from congrArg tsK e)] at h
      exact ⟨[], g, U, rfl, e, (Option.some.inj h).symm, nofun⟩
    · rw [ndAt_past (show ¬ (udD s g).1 = tsK (standP s p) from fun z => e (tsK_inj z))] at h
      obtain ⟨U1, g1, U2, h1, h2, h3, h4⟩ := ud_some h
      refine ⟨g :: U1, g1, U2, by rw [h1]; rfl, h2, h3, fun g' hg => ?_⟩
      rcases List.mem_cons.mp hg with q | q
      · rw [q]; exact e
      · exact h4 g' q
theorem putU_at {s : Vahypa.Lst} {p d : Pc} {r : List Pc} (e : standP s d = standP s p) : ∀ {l : List Pc}, (∀ q ∈ l, standP s q ≠ standP s p) → putU s (l ++ d :: r) p = if pcBytes p < pcBytes d then l ++ p :: r else l ++ d :: r
  | [], _ => by
    show putU s (d :: r) p = _
    unfold putU
    rw [if_pos e]
    rfl
  | q :: l, h => by
    show putU s (q :: (l ++ d :: r)) p = _
    unfold putU
    rw [if_neg (h q (.head _)), putU_at e fun x hx => h x (.tail _ hx)]
    split <;> rfl
theorem ud_put {s : Vahypa.Lst} {p : Pc} {U1 U2 : List PGrp} {g : PGrp} {b t : Addr} (e : standP s g.1 = standP s p) (n1 : ∀ g' ∈ U1, standP s g'.1 ≠ standP s p) (n2 : ∀ g' ∈ U2, standP s g'.1 ≠ standP s p)
    (hs : (ndAt ((U1 ++ g :: U2).map (udD s)) (tsK (standP s p))).isSome = true) : ndPut ((U1 ++ g :: U2).map (udD s)) (tsK (standP s p)) t (.ref b) = (U1 ++ (p, b, g.2.2) :: U2).map (udD s) := by
  have keep : ∀ {U : List PGrp}, (∀ g' ∈ U, standP s g'.1 ≠ standP s p) → (U.map (udD s)).map (fun q => if q.1 = tsK (standP s p) then (q.1, q.2.1, V.ref b) else q) = U.map (udD s) := fun {U} h => by
    rw [List.map_map]
    refine List.map_congr_left fun g' hg => ?_
    show (if (udD s g').1 = tsK (standP s p) then ((udD s g').1, (udD s g').2.1, V.ref b) else udD s g') = udD s g'
    rw [if_neg (show ¬ (udD s g').1 = tsK (standP s p) from fun z => h g' hg (tsK_inj z))]
  unfold ndPut
  rw [if_pos hs, List.map_append, List.map_append, keep n1, List.map_cons, List.map_cons, keep n2, if_pos (show (udD s g).1 = tsK (standP s p) from congrArg tsK e), List.map_append, List.map_cons]
  unfold udD
  rw [e]
theorem pcO_inj {p q : Pc} (e : pcO p = pcO q) : p = q := by
  obtain ⟨a1, a2, a3, a4⟩ := p
  obtain ⟨b1, b2, b3, b4⟩ := q
  unfold pcO at e
  simp only [HO.tup.injEq, List.cons.injEq, V.str.injEq, V.int.injEq, V.bl.injEq, and_true] at e
  obtain ⟨h1, h2, h3, h4⟩ := e
  rw [tx_inj h1, h3, h4, show a2 = b2 by omega]
/-- the used pieces in a dict -/
structure UdInv (P : Program) (w : World) (H1 : Hp) (d : Addr) (s : Vahypa.Lst) (H : Hp) (U : List PGrp) : Prop where
  same : ∀ b u, H1 b = some u → b ≠ d → H b = some u
  dict : H d = some (ndO P w d (U.map (udD s)))
  keys : ∀ g ∈ U, PcAt H g.2.1 g.1
  vals : ∀ g ∈ U, TsAt H g.2.2 (standP s g.1)
  ndS : (U.map fun g => standP s g.1).Nodup
theorem UdInv.on {P : Program} {w : World} {H1 H H' : Hp} {d : Addr} {s : Vahypa.Lst} {G : List PGrp} (I : UdInv P w H1 d s H G) (e : Same H H') : UdInv P w H1 d s H' G :=
  ⟨fun b u hb nb => e _ _ (I.same b u hb nb), e _ _ I.dict, fun g hg => e _ _ (I.keys g hg), fun g hg => TsAt.same _ _ _ _ e (I.vals g hg), I.ndS⟩
/-- used[spots] = piece, of no piece or of one with more bytes -/
theorem UdInv.put {P : Program} {w : World} {H1 H : Hp} {d : Addr} {s : Vahypa.Lst} {U : List PGrp} {p : Pc} {b t : Addr} (I : UdInv P w H1 d s H U) (hb : PcAt H b p) (ht : TsAt H t (standP s p))
    (less : ∀ g ∈ U, ndAt (U.map (udD s)) (tsK (standP s p)) = some (.ref g.2.1) → PcAt H g.2.1 g.1 → pcBytes p < pcBytes g.1) :
    ∃ U', U'.map (·.1) = putU s (U.map (·.1)) p ∧ UdInv P w H1 d s (upd H d (ndO P w d (ndPut (U.map (udD s)) (tsK (standP s p)) t (.ref b)))) U' := by
  have tupd : ∀ {a : Addr} {xs : List V} {o : HO}, H a = some (.tup xs) → upd H d o a = some (.tup xs) := fun {a xs o} h => by
    rw [upd_ne (ne_of h I.dict (by intro z; cases z))]
    exact h
  cases q : ndAt (U.map (udD s)) (tsK (standP s p)) with
  | none =>
    obtain ⟨n1, n2⟩ := ud_none q
    have e : ndPut (U.map (udD s)) (tsK (standP s p)) t (.ref b) = (U ++ [(p, b, t)]).map (udD s) := by
      unfold ndPut
      rw [q, if_neg (by intro z; cases z), List.map_append]
      rfl
    refine ⟨U ++ [(p, b, t)], by rw [n2, List.map_append]; rfl, ?_⟩
    rw [e]
    refine ⟨fun a u ha na => by rw [upd_ne na]; exact I.same a u ha na, upd_same, fun g hg => ?_, fun g hg => ?_, ?_⟩
    · rcases List.mem_append.mp hg with hg | hg
      · exact tupd (I.keys g hg)
      · rw [List.mem_singleton.mp hg]
        exact tupd hb
    · rcases List.mem_append.mp hg with hg | hg
      · exact ts_but (I.vals g hg) I.dict nd_tup
      · rw [List.mem_singleton.mp hg]
        exact ts_but ht I.dict nd_tup
    · rw [List.map_append, List.nodup_append]
      refine ⟨I.ndS, by simp, fun x hx y hy z => ?_⟩
      obtain ⟨g, hg, rfl⟩ := List.mem_map.mp hx
      rw [List.map_singleton, List.mem_singleton] at hy
      exact n1 g hg (z.trans hy)
  | some v =>
    obtain ⟨U1, g, U2, rfl, e, rfl, n1⟩ := ud_some q
    have hg : g ∈ U1 ++ g :: U2 := List.mem_append_right _ (.head _)
    have hl := less g hg q (I.keys g hg)
    have n2 : ∀ g' ∈ U2, standP s g'.1 ≠ standP s p := fun g' hg' z => by
      have nd := I.ndS
      rw [List.map_append, List.map_cons, List.nodup_append] at nd
      obtain ⟨_, nd, _⟩ := nd
      rw [List.nodup_cons] at nd
      exact nd.1 (List.mem_map.mpr ⟨g', hg', z.trans e.symm⟩)
    have pe := ud_put (b := b) (t := t) e n1 n2 (by rw [q]; rfl)
    refine ⟨U1 ++ (p, b, g.2.2) :: U2, ?_, ?_⟩
    · rw [List.map_append, List.map_append, List.map_cons, List.map_cons, putU_at e (fun x hx => ?_), if_pos hl]
      obtain ⟨g', hg', rfl⟩ := List.mem_map.mp hx
      exact n1 g' hg'
    · rw [pe]
      refine ⟨fun a u ha na => by rw [upd_ne na]; exact I.same a u ha na, upd_same, fun g' hg' => ?_, fun g' hg' => ?_, ?_⟩
      · rcases List.mem_append.mp hg' with hg' | hg'
        · exact tupd (I.keys g' (List.mem_append_left _ hg'))
        · rcases List.mem_cons.mp hg' with hg' | hg'
          · rw [hg']
            exact tupd hb
          · exact tupd (I.keys g' (List.mem_append_right _ (.tail _ hg')))
      · rcases List.mem_append.mp hg' with hg' | hg'
        · exact ts_but (I.vals g' (List.mem_append_left _ hg')) I.dict nd_tup
        · rcases List.mem_cons.mp hg' with hg' | hg'
          · rw [hg']
            show TsAt _ g.2.2 (standP s p)
            rw [← e]
            exact ts_but (I.vals g hg) I.dict nd_tup
          · exact ts_but (I.vals g' (List.mem_append_right _ (.tail _ hg'))) I.dict nd_tup
      · have nd := I.ndS
        rw [List.map_append, List.map_cons] at nd ⊢
        show (_ ++ standP s p :: _).Nodup
        rw [← e]
        exact nd
/-- the used pieces -/
def UdAt (P : Program) (w : World) (H : Hp) (d : Addr) (s : Vahypa.Lst) (ps : List Pc) : Prop := ∃ U : List PGrp, H d = some (ndO P w d (U.map (udD s))) ∧ U.map (·.1) = ps ∧ (∀ g ∈ U, PcAt H g.2.1 g.1) ∧ ∀ g ∈ U, TsAt H g.2.2 (standP s g.1)
abbrev s_find_used_pieces : Stmt := top 22
abbrev N_find_used_pieces : List Str := ["family", "used", "piece", "spots"]
theorem sc_find_used_pieces : FnScope N_find_used_pieces ["family"] (defScope s_find_used_pieces) := ⟨rfl, rfl, rfl, by decide +kernel, rfl, by decide +kernel, by decide +kernel⟩
def sp_find_used_pieces (P : Program) (w : World) : Sp := fun vs H Q _ => ∃ fa s ps, vs = [.ref fa] ∧ FmAt P w H fa s ps ∧ ps.length ≤ 110000 ∧ (∀ p ∈ ps, p.1.length ≤ 1000) ∧ ∀ H' d, But fa H H' → H d = none → UdAt P w H' d s (usedP s ps) → Q (.ref d) H'
section
variable {P : Program} {w : World} {K : PySem.W.Frag} {mg : Str → Option Value} {base : Heap} {D : Ads}
theorem df_find_used_pieces {f : Addr} {fd : FuncData} (F : At K mg "find_used_pieces" s_find_used_pieces ["family"] f fd) (T : Txt K mg D) (c_count_bytes : Df P w K mg base CX0 1 "count_bytes" ["piece"] sp_count_bytes) :
    Df P w K mg base CX0 2 "find_used_pieces" ["family"] (sp_find_used_pieces P w) := by
  refine df0 (N := N_find_used_pieces) F sc_find_used_pieces (fun vs H Q E h => ?_) (fun cdv A outer s H vs Q E hr h => ⟨_, (pss_cons (ps_set (i := 1) sc_find_used_pieces.nd rfl (Or.inl rfl) pe_ndnew)
(pss_cons (ps_for PassesOwn.never rfl (pi_nditems (pv 0)) (pg_tup rfl (pgs_cons (pg_name (i := 2) sc_find_used_pieces.nd rfl (Or.inl rfl)) (pgs_cons (pg_name (i := 3) sc_find_used_pieces.nd rfl (Or.inl rfl)) pgs_nil)))
(pss_one (ps_if (PW.pt (pw_or (pt_cmpR (op_ndNotIn hr.units) (pv 3) (pv 1) (by rfl)) (pw_or1 (pt_cmpR op_lt (pe_d0 c_count_bytes hr (by decide) rfl (pa_cons (pv 2) pa_nil)) (pe_d0 c_count_bytes hr (by decide) rfl (pa_cons (pe_ix (ix_nd hr.units) (pv 1) (pv 3) (fun _ _ => rfl)) pa_nil)) (nomark _)))))
(pss_one (ps_asg (pv 2) (pg_sub (pv 1) (pv 3) (set_nd hr.units))))
pss_nil)))
(pss_one (ps_ret (pv 1))))), ?_⟩)
  · obtain ⟨a, s, m, rfl, _⟩ := h
    rfl
  · obtain ⟨fa, s, ps, rfl, ⟨G, hfa, hG, hGk, hGv⟩, hpl, hps, k⟩ := h
    -- used = {}
    intro d hd
    have eA : Same H (upd H d (ndO P w d [])) := same_upd hd
    have nfd : fa ≠ d := ne_of_none hfa hd
    -- for piece, spots in family.items()
    refine ⟨_, rfl, fa, _, rfl, eA _ _ hfa, fun o => ?_⟩
    have eB : But fa H (upd (upd H d (ndO P w d [])) fa (.frz o (ndO P w fa (G.map pgD)))) := (But.of eA).trans But.upd
    obtain ⟨H1, hH1⟩ : ∃ H1, H1 = upd (upd H d (ndO P w d [])) fa (.frz o (ndO P w fa (G.map pgD))) := ⟨_, rfl⟩
    rw [← hH1] at eB
    have h1f : H1 fa = some (.frz o (ndO P w fa (G.map pgD))) := by rw [hH1]; exact upd_same
    have h1d : H1 d = some (ndO P w d []) := by rw [hH1, upd_ne (Ne.symm nfd)]; exact upd_same
    have pc1 : ∀ g ∈ G, PcAt H1 g.2.1 g.1 := fun g hg => eB _ _ (ne_of (hGk g hg) hfa (by intro z; cases z)) (hGk g hg)
    have ts1 : ∀ g ∈ G, TsAt H1 g.2.2 (standP s g.1) := fun g hg => by
      obtain ⟨as, q1, q2⟩ := hGv g hg
      exact ⟨as, eB _ _ (ne_of q1 hfa (by intro z; cases z)) q1, Paired.mapP q2 fun a b q => eB _ _ (ne_of q hfa (by intro z; cases z)) q⟩
    have fin : ∀ {U : List PGrp} {H2 : Hp}, UdInv P w H1 d s H2 U → But fa H H2 := fun I b u nb hb => I.same b u (eB b u nb hb) (ne_of_none hb hd)
    have lenG : G.length = ps.length := by rw [← hG, List.length_map]
    refine for_it (walk_nd (P := P) (w := w) (d := fa) (o := o) (kvs := G.map pgD)) (fun i σ H' => ∃ v2 v3 U, σ = [some (.ref fa), some (.ref d), v2, v3] ∧ UdInv P w H1 d s H' U ∧ U.map (·.1) = usedP s (ps.take i) ∧ U.length ≤ i) ?_ ?_ ?_ ?_
    · exact ⟨none, none, [], rfl, ⟨fun b u hb _ => by rw [hH1] at hb; exact hb, by rw [hH1] at h1d; exact h1d, nofun, nofun, List.nodup_nil⟩, rfl, Nat.le_refl _⟩
    · rintro i σ H2 _ ⟨_, _, _, _, I, _⟩
      exact I.same _ _ h1f nfd
    · rintro i x σ H2 H3 hi ⟨v2, v3, U, rfl, I, hU, hUl⟩ ⟨t, k', b, v, hk, rfl, ht, rfl⟩
      rw [List.length_map] at hi
      obtain ⟨g, hg, hgk⟩ : ∃ g, G[i]? = some g ∧ pgD g = (k', b, v) := by
        rw [List.getElem?_map, Option.map_eq_some_iff] at hk
        exact hk
      have hgm := List.mem_of_getElem? hg
      obtain ⟨rfl, rfl, rfl⟩ : k' = pkK g.1 ∧ b = g.2.1 ∧ v = .ref g.2.2 := by
        unfold pgD at hgk
        cases hgk
        exact ⟨rfl, rfl, rfl⟩
      have hpi : ps[i]? = some g.1 := by rw [← hG, List.getElem?_map, hg]; rfl
      have et : Same H2 (upd H2 t (.tup [.ref g.2.1, .ref g.2.2])) := same_upd ht
      have J := I.on et
      have hpc : PcAt (upd H2 t (.tup [.ref g.2.1, .ref g.2.2])) g.2.1 g.1 := J.same _ _ (pc1 g hgm) (ne_of (pc1 g hgm) h1d (by intro z; cases z))
      have hts : TsAt (upd H2 t (.tup [.ref g.2.1, .ref g.2.2])) g.2.2 (standP s g.1) := by
        obtain ⟨as, q1, q2⟩ := ts1 g hgm
        exact ⟨as, J.same _ _ q1 (ne_of q1 h1d (by intro z; cases z)), Paired.mapP q2 fun a b q => J.same _ _ q (ne_of q h1d (by intro z; cases z))⟩
      have eU : usedP s (ps.take (i + 1)) = putU s (U.map (·.1)) g.1 := by
        unfold usedP
        rw [take_more hpi, List.foldl_append, List.foldl_cons, List.foldl_nil, hU]
        rfl
      have hnk : ∀ r ∈ U.map (udD s), NkAt P w (upd H2 t (.tup [.ref g.2.1, .ref g.2.2])) r.1 r.2.1 := fun r hr => by
        obtain ⟨u, hu, rfl⟩ := List.mem_map.mp hr
        exact ts_nk (J.vals u hu)
      have hul : U.length < 120000 := by
        have : U.length ≤ i := hUl
        omega
      have wr : ∀ H4, Same (upd H2 t (.tup [.ref g.2.1, .ref g.2.2])) H4 → (∀ g' ∈ U, ndAt (U.map (udD s)) (tsK (standP s g.1)) = some (.ref g'.2.1) → PcAt H4 g'.2.1 g'.1 → pcBytes g.1 < pcBytes g'.1) → ∀ v2 v3, ∃ kvs k b, H4 d = some (ndO P w d kvs) ∧ (∀ p ∈ kvs, NkAt P w H4 p.1 p.2.1) ∧ g.2.2 = b ∧ NkAt P w H4 k b ∧ kvs.length < sizeLine ∧
          ∃ v2' v3' U, [some (V.ref fa), some (.ref d), v2, v3] = [some (V.ref fa), some (.ref d), v2', v3'] ∧ UdInv P w H1 d s (upd H4 d (ndO P w d (ndPut kvs k b (.ref g.2.1)))) U ∧ U.map (·.1) = usedP s (ps.take (i + 1)) ∧ U.length ≤ i + 1 := by
        intro H4 e4 less v2 v3
        have J4 := J.on e4
        obtain ⟨U', u1, u2⟩ := J4.put (e4 _ _ hpc) (TsAt.same _ _ _ _ e4 hts) less
        refine ⟨_, tsK (standP s g.1), g.2.2, J4.dict, fun r hr => ?_, rfl, ts_nk (TsAt.same _ _ _ _ e4 hts), ?_, v2, v3, U', rfl, u2, u1.trans eU.symm, ?_⟩
        · obtain ⟨u, hu, rfl⟩ := List.mem_map.mp hr
          exact ts_nk (J4.vals u hu)
        · rw [List.length_map]
          exact Nat.lt_of_lt_of_le hul (by rw [sizeLine_eq]; decide)
        · have z := congrArg List.length u1
          have z2 := putU_len s g.1 (U.map (·.1))
          rw [List.length_map] at z z2
          omega
      refine ⟨t, _, rfl, SqT.of upd_same, rfl, _, _, rfl, _, _, rfl, rfl, ?_⟩
      -- if spots not in used or ..
      refine ⟨_, rfl, _, rfl, d, _, tsK (standP s g.1), g.2.2, rfl, rfl, J.dict, hnk, ts_nk hts, ?_⟩
      cases q : ndAt (U.map (udD s)) (tsK (standP s g.1)) with
      | none =>
        refine ⟨_, rfl, ?_⟩
        refine iteT ?_
        refine iteT ?_
        refine ⟨_, rfl, _, rfl, _, rfl, ?_⟩
        obtain ⟨kvs, k2, b2, w1, w2, w3, w4, w5, w6⟩ := wr _ (Same.refl _) (fun g' hg' z => by rw [q] at z; cases z) (some (.ref g.2.1)) (some (.ref g.2.2))
        exact ⟨d, kvs, k2, b2, rfl, by rw [w3], w1, w2, w4, w5, w6⟩
      | some v =>
        obtain ⟨U1, g0, U2, eU0, e0, rfl, n0⟩ := ud_some q
        have hg0 : g0 ∈ U := by rw [eU0]; exact List.mem_append_right _ (.head _)
        refine ⟨_, rfl, ?_⟩
        refine iteF ?_
        refine ⟨_, rfl, g.2.1, g.1, rfl, hpc, hps _ (List.mem_of_getElem? hpi), fun H3 e3 => ?_⟩
        have J3 := J.on e3
        have hg0m : g0.1.1.length ≤ 1000 := by
          have : g0.1 ∈ usedP s (ps.take i) := by rw [← hU]; exact List.mem_map.mpr ⟨g0, hg0, rfl⟩
          exact hps _ (List.mem_of_mem_take (used_mem this))
        refine ⟨_, rfl, _, rfl, d, _, tsK (standP s g.1), g.2.2, _, rfl, rfl, J3.dict, (fun r hr => by
          obtain ⟨u, hu, rfl⟩ := List.mem_map.mp hr
          exact ts_nk (J3.vals u hu)), ts_nk (TsAt.same _ _ _ _ e3 hts), q, ?_⟩
        refine ⟨g0.2.1, g0.1, rfl, J3.keys _ hg0, hg0m, fun H4 e4 => ?_⟩
        have J4 := J3.on e4
        refine ⟨_, _, rfl, rfl, _, rfl, ?_⟩
        by_cases c : pcBytes g.1 < pcBytes g0.1
        · rw [decide_eq_true (show (pcBytes g.1 : Int) < pcBytes g0.1 by omega)]
          refine iteT ?_
          refine ⟨_, rfl, _, rfl, _, rfl, ?_⟩
          obtain ⟨kvs, k2, b2, w1, w2, w3, w4, w5, w6⟩ := wr H4 (e3.trans e4) (fun g' hg' z hp' => by
            rw [q] at z
            rw [← V.ref.inj (Option.some.inj z)] at hp'
            have e := hp'.symm.trans (J4.keys _ hg0)
            rw [pcO_inj (Option.some.inj e)]
            exact c) (some (.ref g.2.1)) (some (.ref g.2.2))
          exact ⟨d, kvs, k2, b2, rfl, by rw [w3], w1, w2, w4, w5, w6⟩
        · rw [decide_eq_false (show ¬ (pcBytes g.1 : Int) < pcBytes g0.1 by omega)]
          refine iteF ?_
          refine ⟨_, _, U, rfl, J4, ?_, by omega⟩
          rw [eU, eU0, List.map_append, List.map_cons, putU_at e0 (fun x hx => ?_), if_neg c]
          obtain ⟨g', hg', rfl⟩ := List.mem_map.mp hx
          exact n0 g' hg'
    · rintro σ H2 ⟨v2, v3, U, rfl, I, hU, _⟩
      rw [List.length_map, lenG, List.take_length] at hU
      exact ⟨_, rfl, k H2 d (fin I) hd ⟨U, I.dict, hU, I.keys, I.vals⟩⟩
end
end WG
set_option Elab.async false
set_option linter.all false
set_option maxRecDepth 100000
set_option maxHeartbeats 2000000
namespace WG
open PySem PySem.Spec PyProof.Rows L2
open LamX (TabB Tabs TabS ExtN)
/-! ### find_least_set -/
def mkP (s : Vahypa.Lst) (p : Pc) : Nat := maskP (fun o => (standP s p).contains o) 0 (goalsP s)
def usP (s : Vahypa.Lst) (m : Nat) : List (Pc × Nat) := (usedP s (famP s m)).map fun p => (p, mkP s p)
def orP (us : List (Pc × Nat)) : Nat := us.foldl (fun t u => t ||| u.2) 0
theorem mkP_lt (s : Vahypa.Lst) (p : Pc) : mkP s p < 2 ^ (goalsP s).length := maskP_lt _ _
theorem or_bit {k : Nat} : ∀ {us : List (Pc × Nat)} {t : Nat}, (us.foldl (fun t u => t ||| u.2) t).testBit k = true → t.testBit k = true ∨ ∃ u ∈ us, u.2.testBit k = true
  | [], t, h => .inl h
  | u :: us, t, h => by
    rcases or_bit (us := us) h with q | ⟨v, hv, q⟩
    · rw [Nat.testBit_or, Bool.or_eq_true] at q
      rcases q with q | q
      · exact .inl q
      · exact .inr ⟨u, .head _, q⟩
    · exact .inr ⟨v, .tail _ hv, q⟩
theorem low_ex : ∀ {n c : Nat}, c + 1 < 2 ^ n → ∃ k, k < n ∧ (∀ j, j < k → c.testBit j = true) ∧ c.testBit k = false
  | 0, c, h => by rw [Nat.pow_zero] at h; omega
  | n + 1, c, h => by
    by_cases e : c % 2 = 1
    · rw [Nat.pow_succ] at h
      obtain ⟨k, h1, h2, h3⟩ := low_ex (n := n) (c := c / 2) (by omega)
      refine ⟨k + 1, by omega, fun j hj => ?_, by rw [Nat.testBit_succ]; exact h3⟩
      cases j with
      | zero => rw [Nat.testBit_zero]; exact decide_eq_true e
      | succ j => rw [Nat.testBit_succ]; exact h2 j (by omega)
    · exact ⟨0, Nat.succ_pos _, fun j hj => absurd hj (Nat.not_lt_zero _), by rw [Nat.testBit_zero]; exact decide_eq_false e⟩
theorem cand_congr {us : List (Pc × Nat)} {c k : Nat} {T T' : Nat → Ch} (h : ∀ u ∈ us, u.2.testBit k = true → T (c ||| u.2) = T' (c ||| u.2)) : candP us c k T = candP us c k T' := by
  unfold candP
  refine List.map_congr_left fun u hu => ?_
  obtain ⟨h1, h2⟩ := List.mem_filter.mp hu
  rw [h u h1 h2]
theorem or_gt {c k a : Nat} (h : c.testBit k = false) (h2 : a.testBit k = true) : c < c ||| a := by
  have h1 : c ≤ c ||| a := Nat.left_le_or
  rcases Nat.lt_or_ge c (c ||| a) with z | z
  · exact z
  · have e0 : c ||| a = c := Nat.le_antisymm z h1
    have z2 : (c ||| a).testBit k = true := by rw [Nat.testBit_or, h2, Bool.or_true]
    rw [e0, h] at z2
    cases z2
theorem or_le {n a b : Nat} (ha : a < 2 ^ n) (hb : b < 2 ^ n) : a ||| b ≤ 2 ^ n - 1 := by
  have := Nat.or_lt_two_pow ha hb
  omega
/-- the table from c0 on -/
structure LeastT (us : List (Pc × Nat)) (E c0 : Nat) (T : Nat → Ch) : Prop where
  top : T E = (0, 0, [])
  step : ∀ c, c0 ≤ c → c < E → ∀ k, (∀ j, j < k → c.testBit j = true) → c.testBit k = false → LeastC (candP us c k T) (T c)
  len : ∀ c, (T c).2.2.length ≤ E - c
theorem LeastT.more {us : List (Pc × Nat)} {n c k : Nat} {T : Nat → Ch} {x : Ch} (L : LeastT us (2 ^ n - 1) (c + 1) T) (hu : ∀ u ∈ us, u.2 < 2 ^ n) (hc : c < 2 ^ n - 1) (h1 : ∀ j, j < k → c.testBit j = true) (h2 : c.testBit k = false) (hx : LeastC (candP us c k T) x) :
    LeastT us (2 ^ n - 1) c (fun m => if m = c then x else T m) := by
  have agree : ∀ {c' k' : Nat}, c ≤ c' → c'.testBit k' = false → candP us c' k' T = candP us c' k' (fun m => if m = c then x else T m) := fun {c' k'} hc' hk' => cand_congr fun u hu' hb => by
    have := or_gt hk' hb
    rw [if_neg (by omega)]
  refine ⟨by rw [if_neg (by omega)]; exact L.top, fun c' h0 hE k' g1 g2 => ?_, fun c' => ?_⟩
  · rw [← agree h0 g2]
    by_cases e : c' = c
    · subst e
      have ek : k' = k := by
        rcases Nat.lt_trichotomy k' k with z | z | z
        · rw [h1 _ z] at g2; cases g2
        · exact z
        · rw [g1 _ z] at h2; cases h2
      subst ek
      rw [if_pos rfl]
      exact hx
    · rw [if_neg e]
      exact L.step c' (by omega) hE k' g1 g2
  · by_cases e : c' = c
    · subst e
      rw [if_pos rfl]
      obtain ⟨i, hi, _⟩ := hx
      obtain ⟨u, hu', rfl⟩ := List.mem_map.mp (List.mem_of_getElem? hi)
      obtain ⟨g1, g2⟩ := List.mem_filter.mp hu'
      have := or_gt h2 g2
      have := or_le (n := n) (a := c') (b := u.2) (by omega) (hu u g1)
      have := L.len (c' ||| u.2)
      show (moreP u.1 (T (c' ||| u.2))).2.2.length ≤ _
      unfold moreP
      rw [List.length_cons]
      omega
    · rw [if_neg e]
      exact L.len c'
theorem foldl_put_len : ∀ (l acc : List Pc), (l.foldl putP acc).length ≤ acc.length + l.length
  | [], acc => Nat.le_refl _
  | p :: l, acc => by
    have := foldl_put_len l (putP acc p)
    have h : (putP acc p).length ≤ acc.length + 1 := by
      unfold putP
      split
      · omega
      · rw [List.length_append, List.length_singleton]; exact Nat.le_refl _
    rw [List.foldl_cons, List.length_cons]
    omega
theorem flat_le {α β : Type} (f : α → List β) (b : Nat) : ∀ (l : List α), (∀ x ∈ l, (f x).length ≤ b) → (l.flatMap f).length ≤ l.length * b
  | [], _ => Nat.zero_le _
  | x :: l, h => by
    have := flat_le f b l fun y hy => h y (.tail _ hy)
    have := h x (.head _)
    rw [List.flatMap_cons, List.length_append, List.length_cons, Nat.add_mul]
    omega
theorem fam_len {s : Vahypa.Lst} {m : Nat} (hF : Fine s) (hm : m ≤ 3) : (famP s m).length ≤ (goalsP s).length * 300 := by
  unfold famP
  refine Nat.le_trans (List.length_filter_le _ _) (Nat.le_trans (foldl_put_len _ _) ?_)
  rw [List.length_nil, Nat.zero_add]
  refine flat_le _ _ _ fun o ho => ?_
  obtain ⟨wo, hwo, _, _, hwom⟩ := spots_in (List.mem_filter.mp ho).1
  have hwl := hF.lx wo hwom
  rw [wordAt_of hwo]
  have z := pcs_len wo.x o.2 m
  have z2 : 4 * (wo.x.length + 1) * m ≤ 4 * 17 * 3 := Nat.mul_le_mul (by omega) hm
  omega
theorem put_mem {q : Pc} : ∀ {l acc : List Pc}, q ∈ l.foldl putP acc → q ∈ acc ∨ q ∈ l
  | [], acc, h => .inl h
  | p :: l, acc, h => by
    rcases put_mem (l := l) h with e | e
    · unfold putP at e
      split at e
      · exact .inl e
      · rcases List.mem_append.mp e with e | e
        · exact .inl e
        · exact .inr (List.mem_singleton.mp e ▸ .head _)
    · exact .inr (.tail _ e)
theorem fam_small {s : Vahypa.Lst} {m : Nat} {p : Pc} (h : p ∈ famP s m) : PcOk p ∧ p.1.length ≤ m := by
  rcases put_mem (List.mem_filter.mp h).1 with e | e
  · cases e
  · obtain ⟨o, _, hp⟩ := List.mem_flatMap.mp e
    exact pcs_small hp
theorem usedP_len (s : Vahypa.Lst) : ∀ (l acc : List Pc), (l.foldl (putU s) acc).length ≤ acc.length + l.length
  | [], acc => Nat.le_refl _
  | p :: l, acc => by
    have := usedP_len s l (putU s acc p)
    have := putU_len s p acc
    rw [List.foldl_cons, List.length_cons]
    omega
theorem tabs_upd {T : List (Addr × Str)} {H : Hp} {d : Addr} {o : HO} {kvs : List (L2.Key × V)} (t : Tabs T H) (hd : H d = some (.dK kvs)) : Tabs T (upd H d o) := fun p hp => by
  obtain ⟨ps, h1, h2, h3⟩ := t p hp
  refine ⟨ps, ?_, h2, fun pos cv h => ?_⟩
  · rw [upd_ne (ne_of h1 hd (by intro z; cases z))]
    exact h1
  · obtain ⟨c, e, h4⟩ := h3 pos cv h
    refine ⟨c, e, ?_⟩
    rw [upd_ne (ne_of h4 hd (by intro z; cases z))]
    exact h4
theorem ch_upd {H : Hp} {t d : Addr} {o : HO} {x : Ch} {kvs : List (L2.Key × V)} (h : ChAt H t x) (hd : H d = some (.dK kvs)) : ChAt (upd H d o) t x := by
  obtain ⟨l, h1, as, h2, h3⟩ := h
  have go : ∀ {a : Addr} {u : HO}, H a = some u → (∀ k, u ≠ .dK k) → upd H d o a = some u := fun {a u} h n => by
    rw [upd_ne (ne_of h hd (fun z => n _ z))]
    exact h
  exact ⟨l, go h1 (fun _ z => by cases z), as, go h2 (fun _ z => by cases z), Paired.mapP h3 fun a b h => go h (fun _ z => by cases z)⟩
abbrev s_find_least_set : Stmt := top 20
abbrev N_find_least_set : List Str := ["wordlist", "length", "goals", "used", "spots", "piece", "everything", "together", "marks", "least_sets", "covered"]
theorem sc_find_least_set : FnScope N_find_least_set ["wordlist", "length"] (defScope s_find_least_set) := ⟨rfl, rfl, rfl, by decide +kernel, rfl, by decide +kernel, by decide +kernel⟩
def sp_find_least_set (D : Ads) : Sp := fun vs H Q _ => ∃ a s m, vs = [.ref a, .int (m : Nat)] ∧ ListAt D H a s ∧ Fine s ∧ m ≤ 3 ∧ (goalsP s).length ≤ 9 ∧ Tabs (tabsT D) H ∧ ∀ H', ExtN H H' → Tabs (tabsT D) H' →
  (orP (usP s m) ≠ 2 ^ (goalsP s).length - 1 → Q .non H') ∧ (orP (usP s m) = 2 ^ (goalsP s).length - 1 → ∀ l T, LeastT (usP s m) (2 ^ (goalsP s).length - 1) 0 T → RefsAt PcAt H' l (T 0).2.2 → Q (.ref l) H')
section
variable {P : Program} {w : World} {K : PySem.W.Frag} {mg : Str → Option Value} {base : Heap} {D : Ads}
theorem df_find_least_set {f : Addr} {fd : FuncData} (F : At K mg "find_least_set" s_find_least_set ["wordlist", "length"] f fd) (T : Txt K mg D) (c_find_goals : Df P w K mg base CX0 2 "find_goals" ["wordlist"] (sp_find_goals D))
    (c_find_used_pieces : Df P w K mg base CX0 2 "find_used_pieces" ["family"] (sp_find_used_pieces P w)) (c_find_family : Df P w K mg base CX0 4 "find_family" ["wordlist", "length"] (sp_find_family P w D))
    (c_mark_goals : Df P w K mg base CX0 1 "mark_goals" ["goals", "spots"] sp_mark_goals) (c_choose_set : Df P w K mg base CX0 2 "choose_set" ["used", "covered", "least_sets"] (sp_choose_set D)) :
    Df P w K mg base CX0 5 "find_least_set" ["wordlist", "length"] (sp_find_least_set D) := by
  refine df0 (N := N_find_least_set) F sc_find_least_set (fun vs H Q E h => ?_) (fun cdv A outer s H vs Q E hr h => ⟨_, (pss_cons (ps_set (i := 2) sc_find_least_set.nd rfl (Or.inl rfl) (pe_d0 c_find_goals hr (by decide) rfl (pa_cons (pv 0) pa_nil)))
(pss_cons (ps_set (i := 3) sc_find_least_set.nd rfl (Or.inl rfl) (pe_lst pa_nil))
(pss_cons (ps_for PassesOwn.never rfl (pi_nditems (pe_d0 c_find_used_pieces hr (by decide) rfl (pa_cons (pe_d0 c_find_family hr (by decide) rfl (pa_cons (pv 0) (pa_cons (pv 1) pa_nil))) pa_nil))) (pg_tup rfl (pgs_cons (pg_name (i := 4) sc_find_least_set.nd rfl (Or.inl rfl)) (pgs_cons (pg_name (i := 5) sc_find_least_set.nd rfl (Or.inl rfl)) pgs_nil)))
(pss_one (ps_expr (pe_bm PySem.F.plainAttrs_list PySem.F.slot_list_append PySem.F.type_list_append mt_append (pv 3) (pa_cons (pe_tup (pa_cons (pv 5) (pa_cons (pe_d0 c_mark_goals hr (by decide) rfl (pa_cons (pv 2) (pa_cons (pv 4) pa_nil))) pa_nil))) pa_nil)))))
(pss_cons (ps_set (i := 6) sc_find_least_set.nd rfl (Or.inl rfl) (pe_op op_sub (pe_op op_shl pe_int (pe_callB call_len_seq (by rfl) T.n_len (by decide +kernel) (pa_cons (pv 2) pa_nil))) pe_int))
(pss_cons (ps_set (i := 7) sc_find_least_set.nd rfl (Or.inl rfl) pe_int)
(pss_cons (ps_for PassesOwn.never rfl (pi_list (pv 3)) (pg_tup rfl (pgs_cons (pg_name (i := 5) sc_find_least_set.nd rfl (Or.inl rfl)) (pgs_cons (pg_name (i := 8) sc_find_least_set.nd rfl (Or.inl rfl)) pgs_nil)))
(pss_one (ps_aug (i := 7) sc_find_least_set.nd rfl (Or.inl rfl) (pv 8) iop_or)))
(pss_cons (ps_if (pt_cmpR op_ne (pv 7) (pv 6) (nomark _))
(pss_one (ps_ret pe_non))
pss_nil)
(pss_cons (ps_set (i := 9) sc_find_least_set.nd rfl (Or.inl rfl) (pe_disp (pps_cons (pv 6) (pe_tup (pa_cons pe_int (pa_cons pe_int (pa_cons (pe_lst pa_nil) pa_nil)))) pps_nil) (by rfl) (by rfl) (fun z => by cases z) (by decide)))
(pss_cons (ps_for PassesOwn.never rfl (pi_range3 rfl T.n_range (pa_cons (pe_op op_sub (pv 6) pe_int) (pa_cons (pe_un un_neg pe_int) (pa_cons (pe_un un_neg pe_int) pa_nil)))) (pg_name (i := 10) sc_find_least_set.nd rfl (Or.inl rfl))
(pss_one (ps_dput (hu_of hr) (pv 9) (pv 10) (pe_d0 c_choose_set hr (by decide) rfl (pa_cons (pv 3) (pa_cons (pv 10) (pa_cons (pv 9) pa_nil)))) rfl)))
(pss_one (ps_ret (pe_ix ix_tup (pe_dget (hu_of hr) (pv 9) pe_int (fun _ _ => rfl)) pe_int (fun _ _ => rfl))))))))))))), ?_⟩)
  · obtain ⟨a, s, m, rfl, _⟩ := h
    rfl
  · obtain ⟨a, s, m, rfl, hL, hF, hm, h9, hT, k⟩ := h
    -- goals = find_goals(wordlist)
    refine ⟨_, rfl, a, s, rfl, hL, hF, fun H1 gl e1 ngl ⟨gs, hgl, hgs⟩ => ?_⟩
    -- used = []
    refine ⟨by show 0 ≤ sizeLine; exact Nat.zero_le _, fun ul hul => ?_⟩
    have e2 : Same H1 (upd H1 ul (.lst [])) := same_upd hul
    have hL2 : ListAt D (upd H1 ul (.lst [])) a s := hL.same (e1.trans e2)
    -- for spots, piece in find_used_pieces(find_family(wordlist, length)).items()
    refine ⟨_, rfl, _, rfl, a, s, m, rfl, hL2, hF, hm, fun H3 fa e3 nfa hfam => ?_⟩
    have fl : (famP s m).length ≤ 2700 := Nat.le_trans (fam_len hF hm) (Nat.mul_le_mul_right 300 h9)
    refine ⟨fa, s, _, rfl, hfam, by omega, fun p hp => by have := (fam_small hp).2; omega, fun H4 d e4 nd ⟨U, hd, hU, hUk, hUv⟩ => ?_⟩
    refine ⟨d, _, rfl, hd, fun o => ?_⟩
    have ulen : (usedP s (famP s m)).length ≤ 2700 := by
      have := usedP_len s (famP s m) []
      unfold usedP
      rw [List.length_nil] at this
      omega
    have Ul : U.length = (usedP s (famP s m)).length := by rw [← hU, List.length_map]
    -- what stood before stands
    have e5 : Same (upd H1 ul (.lst [])) (upd H4 d (.frz o (ndO P w d (U.map (udD s))))) := fun b u hb => by
      have h3 : H3 b = some u := e3 _ _ hb
      have h4 : H4 b = some u := e4 _ _ (ne_of_none hb nfa) h3
      rw [upd_ne (ne_of_none h3 nd)]
      exact h4
    have e15 : Same H1 (upd H4 d (.frz o (ndO P w d (U.map (udD s))))) := e2.trans e5
    obtain ⟨H5, hH5⟩ : ∃ H5, H5 = upd H4 d (.frz o (ndO P w d (U.map (udD s)))) := ⟨_, rfl⟩
    rw [← hH5] at e5 e15
    have hd5 : H5 d = some (.frz o (ndO P w d (U.map (udD s)))) := by rw [hH5]; exact upd_same
    have e45 : ∀ {b : Addr} {xs : List V}, H4 b = some (.tup xs) → H5 b = some (.tup xs) := fun {b xs} h => by
      rw [hH5, upd_ne (ne_of h hd (by intro z; cases z))]
      exact h
    have hul5 : H5 ul = some (.lst []) := e5 _ _ upd_same
    have nul : ul ≠ d := ne_of hul5 hd5 (by intro z; cases z)
    have kpc : ∀ g ∈ U, PcAt H5 g.2.1 g.1 := fun g hg => e45 (hUk g hg)
    have kts : ∀ g ∈ U, TsAt H5 g.2.2 (standP s g.1) := fun g hg => by
      obtain ⟨as, q1, q2⟩ := hUv g hg
      exact ⟨as, e45 q1, Paired.mapP q2 fun a b q => e45 q⟩
    have usU : usP s m = U.map fun g => (g.1, mkP s g.1) := by
      unfold usP
      rw [← hU, List.map_map]
      rfl
    have ngu : ∀ {b : Addr} {u : HO}, H1 b = some u → b ≠ ul := fun hb => ne_of_none hb hul
    refine for_it (walk_nd (P := P) (w := w) (d := d) (o := o) (kvs := U.map (udD s))) (fun i σ H' => ∃ v4 v5 bs, σ = [some (.ref a), some (.int (m : Nat)), some (.ref gl), some (.ref ul), v4, v5, none, none, none, none, none] ∧ But ul H5 H' ∧ H' ul = some (.lst (bs.map V.ref)) ∧ Paired (UsAt H') bs ((usP s m).take i)) ?_ ?_ ?_ ?_
    · refine ⟨none, none, [], rfl, ?_, ?_, .nil⟩
      · rw [hH5]; exact But.refl _ _
      · have := hul5; rw [hH5] at this; exact this
    · rintro i σ H' _ ⟨_, _, _, _, e, _⟩
      exact e _ _ (Ne.symm nul) hd5
    · rintro i x σ H6 H7 hi ⟨v4, v5, bs, rfl, e6, hbs, hbp⟩ ⟨t, k', b, v, hk, rfl, ht, rfl⟩
      rw [List.length_map] at hi
      obtain ⟨g, hg, hgk⟩ : ∃ g, U[i]? = some g ∧ udD s g = (k', b, v) := by
        rw [List.getElem?_map, Option.map_eq_some_iff] at hk
        exact hk
      have hgm := List.mem_of_getElem? hg
      obtain ⟨rfl, rfl, rfl⟩ : k' = tsK (standP s g.1) ∧ b = g.2.2 ∧ v = .ref g.2.1 := by
        unfold udD at hgk
        cases hgk
        exact ⟨rfl, rfl, rfl⟩
      have hpi : (usP s m)[i]? = some (g.1, mkP s g.1) := by rw [usU, List.getElem?_map, hg]; rfl
      have e7 : But ul H5 (upd H6 t (.tup [.ref g.2.2, .ref g.2.1])) := e6.trans (But.of (same_upd ht))
      have nt : ul ≠ t := ne_of_none hbs ht
      have tup5 : ∀ {b : Addr} {xs : List V}, H5 b = some (.tup xs) → b ≠ ul := fun h => ne_of h hul5 (by intro z; cases z)
      refine ⟨t, _, rfl, SqT.of upd_same, rfl, _, _, rfl, _, _, rfl, rfl, ?_⟩
      -- used.append((piece, mark_goals(goals, spots)))
      have hgl7 : RefsAt PairAt (upd H6 t (.tup [.ref g.2.2, .ref g.2.1])) gl (goalsP s) := ⟨gs, e7 _ _ (ngu hgl) (e15 _ _ hgl), Paired.mapP hgs fun a b q => e7 _ _ (ngu q) (e15 _ _ q)⟩
      have hts7 : TsAt (upd H6 t (.tup [.ref g.2.2, .ref g.2.1])) g.2.2 (standP s g.1) := by
        obtain ⟨as, q1, q2⟩ := kts g hgm
        exact ⟨as, e7 _ _ (tup5 q1) q1, Paired.mapP q2 fun a b q => e7 _ _ (tup5 q) q⟩
      refine ⟨_, rfl, .inl ⟨rfl, _, SqL.of ((upd_ne nt).trans hbs)⟩, _, rfl, _, rfl, _, rfl, gl, g.2.2, goalsP s, standP s g.1, rfl, hgl7, hts7, by omega, fun H8 e8 => ?_⟩
      have hul8 : H8 ul = some (.lst (bs.map V.ref)) := e8 _ _ ((upd_ne nt).trans hbs)
      refine ⟨by show 2 ≤ sizeLine; decide, fun z hz => ?_⟩
      have nz : ul ≠ z := ne_of_none hul8 hz
      refine ⟨ul, _, _, rfl, rfl, (upd_ne nz).trans hul8, ?_, ?_⟩
      · rw [List.length_map, hbp.length, List.length_take]
        exact Nat.lt_of_le_of_lt (by omega : _ ≤ 2700) (by rw [sizeLine_eq]; decide)
      refine ⟨_, _, bs ++ [z], rfl, ?_, ?_, ?_⟩
      · exact (e7.trans (But.of e8)).trans ((But.of (same_upd hz)).trans But.upd)
      · rw [upd_same, List.map_append]
        rfl
      · have up : ∀ {b : Addr} {xs : List V} {o1 o2 : HO}, H8 b = some (.tup xs) → upd (upd H8 z o1) ul o2 b = some (.tup xs) := fun {b xs o1 o2} h => by
          rw [upd_ne (ne_of h hul8 (by intro z; cases z)), upd_ne (ne_of_none h hz)]
          exact h
        have e68 : Same H6 H8 := (same_upd ht).trans e8
        rw [take_more hpi]
        refine psnoc (Paired.mapP hbp fun x y h => ?_) ⟨g.2.1, ?_, ?_⟩
        · obtain ⟨b, q1, q2⟩ := h
          exact ⟨b, up (e68 _ _ q1), up (e68 _ _ q2)⟩
        · rw [upd_ne (Ne.symm nz), upd_same]
          rfl
        · exact up (e8 _ _ (e7 _ _ (tup5 (kpc g hgm)) (kpc g hgm)))
    · rintro σ H6 ⟨v4, v5, bs, rfl, e6, hbs, hbp⟩
      have hUl2 : (U.map (udD s)).length = (usP s m).length := by rw [usU, List.length_map, List.length_map]
      rw [hUl2, List.take_length] at hbp
      have e16 : Same H H6 := fun b u hb => e6 _ _ (ngu (e1 _ _ hb)) (e15 _ _ (e1 _ _ hb))
      have hgl6 : H6 gl = some (.lst (gs.map V.ref)) := e6 _ _ (ngu hgl) (e15 _ _ hgl)
      have hT6 : Tabs (tabsT D) H6 := tabs_same hT e16
      have gl9 : gs.length = (goalsP s).length := hgs.length
      have usl : (usP s m).length ≤ 2700 := by unfold usP; rw [List.length_map]; exact ulen
      have usb : ∀ u ∈ usP s m, u.2 < 2 ^ (goalsP s).length := fun u hu => by
        obtain ⟨p, _, rfl⟩ := List.mem_map.mp hu
        exact mkP_lt s p
      have usq : ∀ u ∈ usP s m, u.1.1.length ≤ 1000 := fun u hu => by
        obtain ⟨p, hp, rfl⟩ := List.mem_map.mp hu
        have := (fam_small (used_mem hp)).2
        show p.1.length ≤ 1000
        omega
      generalize hn : (goalsP s).length = n at *
      generalize husv : usP s m = us at *
      have pw : 1 ≤ 2 ^ n ∧ 2 ^ n ≤ 512 := ⟨Nat.one_le_two_pow, Nat.le_trans (Nat.pow_le_pow_right (by decide) h9) (by decide)⟩
      -- everything = (1 << len(goals)) - 1
      have eE : (1 : Int) * 2 ^ ((gs.map V.ref).length : Int).toNat - 1 = ((2 ^ n - 1 : Nat) : Int) := by
        rw [List.length_map, gl9, Int.toNat_natCast, Int.one_mul]
        have : ((2 ^ n : Nat) : Int) = (2 : Int) ^ n := by simp
        omega
      refine ⟨_, rfl, gl, _, rfl, .inl (SqL.of hgl6), _, _, rfl, rfl, ⟨by omega, by rw [List.length_map]; omega, by decide⟩, _, _, rfl, rfl, ?_⟩
      dsimp only
      rw [eE]
      -- together = 0; for piece, marks in used
      refine ⟨_, rfl, ul, rfl, ⟨_, SqL.of hbs⟩, ?_⟩
      refine for_it (walk_list (K := K) (a := ul) (xs := bs.map V.ref)) (fun i σ H' => ∃ v4 v5 v8, σ = [some (.ref a), some (.int (m : Nat)), some (.ref gl), some (.ref ul), v4, v5, some (.int ((2 ^ n - 1 : Nat) : Int)), some (.int (orP (us.take i) : Nat)), v8, none, none] ∧ Same H6 H') ?_ ?_ ?_ ?_
      · exact ⟨_, _, _, rfl, Same.refl _⟩
      · rintro i σ H' _ ⟨_, _, _, _, e⟩
        exact SqL.of (e _ _ hbs)
      · rintro i x σ H7 H8 hi ⟨v4', v5', v8, rfl, e7⟩ ⟨rfl, hx⟩
        obtain ⟨c, hc, rfl⟩ := refs_get hx
        obtain ⟨u, hu, b, q1, q2⟩ := pget hbp hc
        refine ⟨c, _, rfl, SqT.of (e7 _ _ q1), rfl, _, _, rfl, _, _, rfl, rfl, ?_⟩
        refine ⟨_, rfl, _, rfl, _, _, rfl, rfl, ?_⟩
        refine ⟨v4', some (.ref b), some (.int (u.2 : Nat)), ?_, e7⟩
        have eo : Builtin.bitOr ((orP (us.take i) : Nat) : Int) ((u.2 : Nat) : Int) = ((orP (us.take (i + 1)) : Nat) : Int) := by
          rw [or_nat, take_more hu]
          unfold orP
          rw [List.foldl_append]
          rfl
        dsimp only
        rw [eo]
        rfl
      · rintro σ H7 ⟨v4', v5', v8, rfl, e7⟩
        have el : (bs.map V.ref).length = us.length := by rw [List.length_map, hbp.length]
        rw [el, List.take_length]
        have e17 : Same H H7 := e16.trans e7
        -- if together != everything
        refine ⟨_, rfl, _, rfl, rfl, _, rfl, ?_⟩
        by_cases c : orP us = 2 ^ n - 1
        · rw [show (!decide (V.int (orP us : Nat) = V.int ((2 ^ n - 1 : Nat) : Int))) = false by rw [c]; simp]
          refine iteF ?_
          -- least_sets = {everything: (0, 0, [])}
          intro d2 hd2
          refine ⟨_, rfl, by show 0 ≤ sizeLine; exact Nat.zero_le _, fun l0 hl0 => ⟨by show 3 ≤ sizeLine; decide, fun t0 ht0 => ?_⟩⟩
          have f1 : Same H7 (upd H7 d2 (.dK [])) := same_upd hd2
          have f2 : Same (upd H7 d2 (.dK [])) (upd (upd H7 d2 (.dK [])) l0 (.lst [])) := same_upd hl0
          have f3 : Same (upd (upd H7 d2 (.dK [])) l0 (.lst [])) (upd (upd (upd H7 d2 (.dK [])) l0 (.lst [])) t0 (.tup [.int 0, .int 0, .ref l0])) := same_upd ht0
          have hd2' : upd (upd (upd H7 d2 (.dK [])) l0 (.lst [])) t0 (.tup [.int 0, .int 0, .ref l0]) d2 = some (.dK []) := f3 _ _ (f2 _ _ upd_same)
          refine ⟨hd2', [(Sum.inl ((2 ^ n - 1 : Nat) : Int), .ref t0)], rfl, by show 1 ≤ 15; decide, ?_⟩
          obtain ⟨H8, hH8⟩ : ∃ H8, H8 = upd (upd (upd (upd H7 d2 (.dK [])) l0 (.lst [])) t0 (.tup [.int 0, .int 0, .ref l0])) d2 (.dK (mergeK [] [(Sum.inl ((2 ^ n - 1 : Nat) : Int), .ref t0)])) := ⟨_, rfl⟩
          rw [← hH8]
          have e78 : Same H7 H8 := fun b u hb => by
            rw [hH8, upd_ne (ne_of_none hb hd2)]
            exact f3 _ _ (f2 _ _ (f1 _ _ hb))
          have hd8 : H8 d2 = some (.dK [(Sum.inl ((2 ^ n - 1 : Nat) : Int), .ref t0)]) := by rw [hH8, upd_same]; rfl
          have ht8 : ChAt H8 t0 (0, 0, []) := by
            rw [hH8]
            refine ch_upd ⟨l0, by rw [upd_same]; rfl, [], f3 _ _ upd_same, .nil⟩ hd2'
          have hul8 : RefsAt UsAt H8 ul us := ⟨bs, e78 _ _ (e7 _ _ hbs), Paired.mapP hbp fun x y h => UsAt.same _ _ _ _ (e7.trans e78) h⟩
          have hT8 : Tabs (tabsT D) H8 := tabs_same hT (e17.trans e78)
          -- for covered in range(everything - 1, -1, -1)
          refine ⟨_, rfl, _, _, rfl, rfl, _, rfl, _, rfl, ?_⟩
          refine ⟨((2 ^ n - 1 : Nat) : Int) - 1, -1, -1, _, rfl, RgC.neg (by omega) (by omega) (by omega) (by omega), ?_⟩
          have cnt : (((2 ^ n - 1 : Nat) : Int) - 1 - -1).toNat = 2 ^ n - 1 := by omega
          rw [cnt]
          refine for_rangeC (fun i σ H' => ∃ v4 v5 v8 v10 kvs Tt, σ = [some (.ref a), some (.int (m : Nat)), some (.ref gl), some (.ref ul), v4, v5, some (.int ((2 ^ n - 1 : Nat) : Int)), some (.int (orP us : Nat)), v8, some (.ref d2), v10] ∧ ExtN H7 H' ∧ Tabs (tabsT D) H' ∧ RefsAt UsAt H' ul us ∧
            H' d2 = some (.dK kvs) ∧ kvs.length ≤ i + 1 ∧ LeastT us (2 ^ n - 1) (2 ^ n - 1 - i) Tt ∧ ∀ c, 2 ^ n - 1 - i ≤ c → c ≤ 2 ^ n - 1 → ∃ t, valV kvs (Sum.inl (c : Int)) = some (.ref t) ∧ ChAt H' t (Tt c)) ?_ ?_ ?_
          · refine ⟨_, _, _, none, _, fun _ => (0, 0, []), rfl, extN_same e78, hT8, hul8, hd8, by show 1 ≤ 0 + 1; decide, ⟨rfl, fun c h1 h2 => absurd h2 (by omega), fun c => Nat.zero_le _⟩, fun c h1 h2 => ⟨t0, ?_, ht8⟩⟩
            have : c = 2 ^ n - 1 := by omega
            rw [this]
            simp [valV]
          · rintro i σ H9 hi ⟨v4, v5, v8, v10, kvs, Tt, rfl, eX, hT9, hul9, hd9, hkl, LT, hfind⟩
            have hc : ((2 ^ n - 1 : Nat) : Int) - 1 + (i : Nat) * (-1 : Int) = ((2 ^ n - 1 - (i + 1) : Nat) : Int) := by omega
            rw [hc]
            generalize hcc : 2 ^ n - 1 - (i + 1) = c0 at *
            have hc1 : 2 ^ n - 1 - i = c0 + 1 := by omega
            rw [hc1] at LT hfind
            obtain ⟨k0, k1, k2, k3⟩ := low_ex (n := n) (c := c0) (by omega)
            have hne : candP us c0 k0 Tt ≠ [] := by
              have hb : (orP us).testBit k0 = true := by
                rw [c, Nat.testBit_two_pow_sub_one]
                exact decide_eq_true k1
              rcases or_bit hb with q | ⟨u, hu, q⟩
              · rw [Nat.zero_testBit] at q; cases q
              · intro z
                have : moreP u.1 (Tt (c0 ||| u.2)) ∈ candP us c0 k0 Tt := List.mem_map.mpr ⟨u, List.mem_filter.mpr ⟨hu, q⟩, rfl⟩
                rw [z] at this
                cases this
            refine ⟨_, rfl, _, rfl, _, rfl, ul, c0, k0, 2 ^ n - 1, d2, us, Tt, rfl, hul9, by omega, usq, ⟨kvs, hd9, by omega, fun m' h1 h2 => hfind m' (by omega) h2⟩, by omega, k2, k3, fun u hu _ => or_le (by omega) (usb u hu), fun m' => ?_, hne, hT9, fun H10 t x eX2 hT10 hx ht => ?_⟩
            · have := LT.len m'
              omega
            have hd10 : H10 d2 = some (.dK kvs) := eX2 _ _ hd9 dK_tbl
            refine ⟨_, rfl, _, rfl, d2, _, rfl, DPut.k (k := Sum.inl (c0 : Int)) hd10 (Nat.lt_of_le_of_lt hkl (Nat.lt_of_lt_of_le (by omega : i + 1 < 600) (by rw [sizeLine_eq]; decide))), ?_⟩
            refine ⟨_, _, _, _, _, _, rfl, fun b o hb nb => ?_, tabs_upd hT10 hd10, ?_, upd_same, ?_, LT.more usb (by omega) k2 k3 hx, fun c' h1 h2 => ?_⟩
            · rw [upd_ne (ne_of_none hb hd2)]
              exact eX2 _ _ (eX _ _ hb nb) nb
            · obtain ⟨bs', g1, g2⟩ := hul9
              have go : ∀ {b : Addr} {o : HO}, H9 b = some o → (∀ ps, o ≠ .tbl ps) → (∀ k, o ≠ .dK k) → upd H10 d2 (.dK (putK kvs (Sum.inl (c0 : Int)) (.ref t))) b = some o := fun {b o} h n1 n2 => by
                rw [upd_ne (ne_of h hd9 (fun z => n2 _ z))]
                exact eX2 _ _ h n1
              refine ⟨bs', go g1 lst_tbl (fun _ z => by cases z), Paired.mapP g2 fun x y h => ?_⟩
              obtain ⟨b, q1, q2⟩ := h
              exact ⟨b, go q1 tup_tbl (fun _ z => by cases z), go q2 tup_tbl (fun _ z => by cases z)⟩
            · have := length_putK kvs (Sum.inl (c0 : Int)) (.ref t)
              omega
            · rw [valV_put]
              by_cases e : c' = c0
              · subst e
                rw [if_pos rfl, if_pos rfl]
                exact ⟨t, rfl, ch_upd ht hd10⟩
              · rw [if_neg (fun z => e (by have := Sum.inl.inj z; omega)), if_neg e]
                obtain ⟨t', q1, q2⟩ := hfind c' (by omega) h2
                exact ⟨t', q1, ch_upd (ChAt.ext _ _ _ _ eX2 q2) hd10⟩
          · rintro σ H9 ⟨v4, v5, v8, v10, kvs, Tt, rfl, eX, hT9, hul9, hd9, hkl, LT, hfind⟩
            rw [Nat.sub_self] at LT hfind
            obtain ⟨t, q1, l, q2, q3⟩ := hfind 0 (Nat.le_refl _) (Nat.zero_le _)
            have eD : DGet H9 d2 (.int 0) (some (.ref t)) := by
              have q1' : valV kvs (Sum.inl (0 : Int)) = some (.ref t) := q1
              rw [← q1']
              exact DGet.k (k := Sum.inl (0 : Int)) hd9
            refine ⟨_, rfl, d2, .ref t, rfl, eD, t, _, 2, .ref l, rfl, rfl, SqT.of q2, rfl, ?_⟩
            exact (k H9 ((extN_same e17).trans eX) hT9).2 c l Tt LT q3
        · rw [show (!decide (V.int (orP us : Nat) = V.int ((2 ^ n - 1 : Nat) : Int))) = true by
            rw [Bool.not_eq_true', decide_eq_false_iff_not]
            intro z
            exact c (by exact_mod_cast (V.int.inj z))]
          refine iteT ((k H7 (extN_same e17) (tabs_same hT e17)).1 c)
end
end WG
set_option Elab.async false
set_option linter.all false
set_option maxRecDepth 100000
set_option maxHeartbeats 2000000
namespace WG
open PySem PySem.Spec PyProof.Rows L2
open LamX (TabB Tabs TabS ExtN)
/-! ### leave_word_out -/
theorem erase_snoc {α : Type} (l : List α) (x : α) (n : Nat) : (l ++ [x]).eraseIdx n = if l.length = n then l.eraseIdx n else l.eraseIdx n ++ [x] := by
  by_cases h : l.length = n
  · rw [if_pos h, List.eraseIdx_append_of_length_le (by omega), List.eraseIdx_of_length_le (l := l) (by omega), show n - l.length = 0 by omega]
    simp
  · rw [if_neg h]
    by_cases h2 : n < l.length
    · rw [List.eraseIdx_append_of_lt_length h2]
    · rw [List.eraseIdx_append_of_length_le (by omega), List.eraseIdx_of_length_le (l := l) (by omega), List.eraseIdx_of_length_le (l := [x]) (by rw [List.length_singleton]; omega)]
theorem fine_without {s : Vahypa.Lst} (h : Fine s) (n : Nat) : Fine (Vahype.without s n) := by
  have sub : ∀ v ∈ (Vahype.without s n).words, v ∈ s.words := fun v hv => List.mem_of_mem_eraseIdx hv
  refine ⟨?_, h.np, fun v hv => h.lx v (sub v hv), fun v hv => h.lc v (sub v hv), h.l5, h.r5⟩
  have := h.nw
  have : (Vahype.without s n).words.length ≤ s.words.length := List.length_eraseIdx_le _ _
  omega
abbrev s_leave_word_out : Stmt := top 57
abbrev N_leave_word_out : List Str := ["wordlist", "number", "words", "other", "word"]
theorem sc_leave_word_out : FnScope N_leave_word_out ["wordlist", "number"] (defScope s_leave_word_out) := ⟨rfl, rfl, rfl, by decide +kernel, rfl, by decide +kernel, by decide +kernel⟩
def sp_leave_word_out (D : Ads) : Sp := fun vs H Q _ => ∃ a s n, vs = [.ref a, .int (n : Nat)] ∧ ListAt D H a s ∧ Fine s ∧ ∀ H' x, Same H H' → ListAt D H' x (Vahype.without s n) → Q (.ref x) H'
section
variable {P : Program} {w : World} {K : PySem.W.Frag} {mg : Str → Option Value} {base : Heap} {D : Ads}
theorem df_leave_word_out {f : Addr} {fd : FuncData} (F : At K mg "leave_word_out" s_leave_word_out ["wordlist", "number"] f fd) (T : Txt K mg D)
    (m_WordList : Mka P w K mg base 1 "WordList" D.cL ["self", "left", "right", "words", "patterns"] (sp_WordList_init D.cL)) : Df P w K mg base CX0 3 "leave_word_out" ["wordlist", "number"] (sp_leave_word_out D) := by
  refine df0 (N := N_leave_word_out) F sc_leave_word_out (fun vs H Q E h => ?_) (fun cdv A outer s H vs Q E hr h => ⟨_, (pss_cons (ps_setLc (i := 2) (own := [("other", 3), ("word", 4)]) (g := gTup K 2 (gCons (gName 3) (gCons (gName 4) gNil))) rfl sc_leave_word_out.nd rfl rfl (sw_true rfl rfl rfl (by decide +kernel)) (pi_enum rfl T.n_enumerate (pa_cons (pe_fld (pv 0) rfl) pa_nil)) (blkOk_by (own := [("other", 3), ("word", 4)]) (N := N_leave_word_out) (sc := defScope s_leave_word_out) (by decide +kernel)) (fun _ _ _ _ _ => (pg_tup rfl (pgs_cons (pg_name (i := 3) sc_leave_word_out.nd rfl (Or.inl rfl)) (pgs_cons (pg_name (i := 4) sc_leave_word_out.nd rfl (Or.inl rfl)) pgs_nil)))) (fun _ _ _ _ _ => pts_one (pt_cmpR op_ne (pv 3) (pv 1) (nomark _))) (fun _ _ _ _ _ => (pv 4)))
(pss_one (ps_ret (pe_mk1 m_WordList hr (by decide) rfl (pa_cons (pe_fld (pv 0) rfl) (pa_cons (pe_fld (pv 0) rfl) (pa_cons (pv 2) (pa_cons (pe_fld (pv 0) rfl) pa_nil)))))))), ?_⟩)
  · obtain ⟨a, s, n, rfl, _⟩ := h
    rfl
  · obtain ⟨a, s, n, rfl, hL, hF, k⟩ := h
    obtain ⟨dx, wl, pl, h1, ⟨ws, h2, h2p⟩, ps, h3, h3p⟩ := id hL
    have wl24 : ws.length ≤ 24 := by rw [h2p.length]; exact hF.nw
    refine ⟨_, rfl, a, D.cL, dx, _, _, rfl, h1, T.kL, T.lW, fL_words _ _ _ _, wl, _, rfl, SqL.of h2, fun O hO => ?_⟩
    have eO : Same H (upd H O (.lst [])) := same_upd hO
    refine lc_it (walk_enum (K := K) (a := wl) (xs := ws.map V.ref)) (fun j H' => Same H H' ∧ H' O = some (.lst (((ws.take j).eraseIdx n).map V.ref))) ⟨eO, upd_same⟩ ?_ ?_ ?_
    · rintro j H' _ ⟨e, _⟩
      exact SqL.of (e _ _ h2)
    · rintro j x H2 H3 hj ⟨e2, hb⟩ ⟨T0, x0, y0, rfl, nT, rfl, ex, ey⟩
      cases ex
      obtain ⟨c, hc, rfl⟩ := refs_get ey
      have eT : Same H2 (upd H2 T0 (.tup [.int (j : Nat), .ref c])) := same_upd nT
      have hjl : j < ws.length := by rw [List.length_map] at hj; exact hj
      have lj : (ws.take j).length = j := by
        rw [List.length_take]
        omega
      have nOT : O ≠ T0 := ne_of_none hb nT
      refine ⟨T0, _, rfl, SqT.of upd_same, rfl, _, _, rfl, _, _, rfl, rfl, ?_⟩
      refine ⟨rfl, _, rfl, _, rfl, rfl, _, rfl, ?_⟩
      rw [take_more hc, erase_snoc, lj]
      by_cases e : j = n
      · rw [if_pos e, show (!decide (V.int ((j : Nat) : Int) = V.int (n : Nat))) = false by rw [e]; simp]
        exact iteF ⟨e2.trans eT, (upd_ne nOT).trans hb⟩
      · rw [if_neg e, show (!decide (V.int ((j : Nat) : Int) = V.int (n : Nat))) = true by
          rw [Bool.not_eq_true', decide_eq_false_iff_not]
          intro z
          exact e (by exact_mod_cast (V.int.inj z))]
        refine iteT ⟨_, rfl, _, (upd_ne nOT).trans hb, ?_, fun b u hbu => ?_, ?_⟩
        · rw [List.length_map]
          have : ((ws.take j).eraseIdx n).length ≤ (ws.take j).length := List.length_eraseIdx_le _ _
          exact Nat.lt_of_le_of_lt (by omega : _ ≤ 24) (by decide)
        · rw [upd_ne (ne_of_none hbu hO)]
          exact (e2.trans eT) _ _ hbu
        · rw [upd_same, List.map_append]
          rfl
    · rintro H2 ⟨e2, hb⟩
      rw [List.length_map, List.take_length] at hb
      refine ⟨_, rfl, a, D.cL, dx, _, _, rfl, e2 _ _ h1, T.kL, T.lL, fL_left _ _ _ _, ?_⟩
      refine ⟨_, rfl, a, D.cL, dx, _, _, rfl, e2 _ _ h1, T.kL, T.lR, fL_right _ _ _ _, _, rfl, ?_⟩
      refine ⟨_, rfl, a, D.cL, dx, _, _, rfl, e2 _ _ h1, T.kL, T.lP, fL_patterns _ _ _ _, ?_⟩
      intro x dy hx hdx hne
      refine ⟨x, dy, O, pl, s.l, s.r, rfl, upd_same, fun H5 g1 g2 => ⟨rfl, ?_⟩⟩
      have e5 : Same H2 H5 := fun b u q => by
        rw [g2 b (ne_of_none q hx), upd_ne (ne_of_none q hx), upd_ne (ne_of_none q hdx)]
        exact q
      have e25 := e2.trans e5
      refine k H5 x e25 ⟨dy, O, pl, g1, ⟨_, e5 _ _ hb, ?_⟩, ps, e25 _ _ h3, Paired.mapP h3p fun x y h => PatAt.same _ _ _ _ e25 h⟩
      have go : ∀ {as : List Addr} {vs : List Vahypa.Word}, Paired (WordAt D.cW H) as vs → ∀ n, Paired (WordAt D.cW H5) (as.eraseIdx n) (vs.eraseIdx n) := by
        intro as vs q
        induction q with
        | nil => intro n; exact .nil
        | cons h t ih =>
          intro n
          cases n with
          | zero => exact Paired.mapP t fun a b h => WordAt.same _ _ _ _ e25 h
          | succ n => exact .cons (WordAt.same _ _ _ _ e25 h) (ih n)
      exact go h2p n
/-! ### is_parted -/
def pcD (p : Pc) : PyData := .tuple [.str (tx p.1), .int (p.2.1 : Nat), .bool p.2.2.1, .bool p.2.2.2]
theorem pcD_eqv (p q : Pc) : PyData.eqv (pcD p) (pcD q) = decide (p = q) := by
  obtain ⟨a1, a2, a3, a4⟩ := p
  obtain ⟨b1, b2, b3, b4⟩ := q
  simp only [pcD, PyData.eqv, PyData.eqvAll, Bool.and_true]
  rw [Bool.eq_iff_iff, decide_eq_true_eq]
  simp only [Bool.and_eq_true, beq_iff_eq, Prod.mk.injEq]
  constructor
  · rintro ⟨h1, h2, h3, h4⟩
    exact ⟨tx_inj h1, by omega, h3, h4⟩
  · rintro ⟨h1, h2, h3, h4⟩
    exact ⟨by rw [h1], by omega, h3, h4⟩
theorem tx_ok (b : VahypBase.Bytes) : PyData.strOk (tx b) = true := by
  unfold PyData.strOk tx
  rw [Array.all_eq_true_iff_forall_mem]
  intro x hx
  simp only [List.mem_toArray, List.mem_map] at hx
  obtain ⟨c, _, rfl⟩ := hx
  have := c.toNat_lt
  exact decide_eq_true (by omega)
theorem pcD_lay (p : Pc) : (pcD p).canLay0 = true := by
  simp [pcD, PyData.canLay0, PyData.canLayAll0, tx_ok]
theorem pcDs_lay : ∀ l : List Pc, PyData.canLayAll0 (l.map pcD) = true
  | [] => by simp [PyData.canLayAll0]
  | z :: zs => by
    have ih := pcDs_lay zs
    rw [List.map_cons]
    unfold PyData.canLayAll0
    rw [pcD_lay, ih]
    rfl
theorem pcD_depth (p : Pc) : (pcD p).depth = 1 := by simp [pcD, PyData.depth, PyData.depthAll]
theorem pcDs_depth : ∀ l : List Pc, PyData.depthAll (l.map pcD) ≤ 1
  | [] => by simp [PyData.depthAll]
  | z :: zs => by
    have ih := pcDs_depth zs
    rw [List.map_cons]
    unfold PyData.depthAll
    rw [pcD_depth]
    omega
theorem pcD_shaped (p : Pc) : SeqAt.shaped (pcD p) = true := by
  show (PyData.canLay0 (pcD p) && decide (PyData.depth (pcD p) ≤ 64)) = true
  rw [pcD_lay, pcD_depth]
  rfl
theorem pcDs_shaped (l : List Pc) : SeqAt.shaped (.list (l.map pcD)) = true := by
  have h1 := pcDs_depth l
  have h2 : PyData.depth (.list (l.map pcD)) ≤ 64 := by
    simp only [PyData.depth]
    omega
  show (PyData.canLay0 (.list (l.map pcD)) && decide (PyData.depth (.list (l.map pcD)) ≤ 64)) = true
  rw [Bool.and_eq_true]
  exact ⟨by simp only [PyData.canLay0]; exact pcDs_lay l, decide_eq_true h2⟩
theorem pcD_dp {H : Hp} {a : Addr} {p : Pc} (h : PcAt H a p) : Dp K H (.ref a) (pcD p) := .tup (SqT.of h) (.cons (.str _) (.cons (.int _) (.cons (.bl _) (.cons (.bl _) .nil))))
theorem pcDs_dp {H : Hp} : ∀ {as : List Addr} {l : List Pc}, Paired (PcAt H) as l → DpAll K H (as.map V.ref) (l.map pcD)
  | _, _, .nil => .nil
  | _, _, .cons h t => .cons (pcD_dp h) (pcDs_dp t)
theorem pcDs_any (l : List Pc) (p : Pc) : ((l.map pcD).any fun z => PyData.eqv z (pcD p)) = l.contains p := by
  rw [List.any_map, Bool.eq_iff_iff, List.any_eq_true]
  simp only [List.contains_eq_mem, decide_eq_true_eq, Function.comp]
  constructor
  · rintro ⟨z, hz, e⟩
    rw [pcD_eqv, decide_eq_true_eq] at e
    rw [← e]
    exact hz
  · intro h
    exact ⟨p, h, by rw [pcD_eqv]; simp⟩
theorem parted_any {x : VahypBase.Bytes} {g m : Nat} {ps : List Pc} (h : ∀ p ∈ ps, PcOk p ∧ p.1.length ≤ m) : ((pcs x g m).any fun p => ps.contains p) = ps.any fun p => fitsP p x g := by
  rw [Bool.eq_iff_iff, List.any_eq_true, List.any_eq_true]
  simp only [List.contains_eq_mem, decide_eq_true_eq]
  constructor
  · rintro ⟨p, h1, h2⟩
    exact ⟨p, h2, (pcs_fits (h p h2).1 (h p h2).2).mp h1⟩
  · rintro ⟨p, h1, h2⟩
    exact ⟨p, (pcs_fits (h p h1).1 (h p h1).2).mpr h2, h1⟩
abbrev s_is_parted : Stmt := top 59
abbrev N_is_parted : List Str := ["letters", "gap", "chosen", "length", "piece"]
theorem sc_is_parted : FnScope N_is_parted ["letters", "gap", "chosen", "length"] (defScope s_is_parted) := ⟨rfl, rfl, rfl, by decide +kernel, rfl, by decide +kernel, by decide +kernel⟩
def sp_is_parted : Sp := fun vs H Q _ => ∃ (x : VahypBase.Bytes) (g m : Nat) (l : Addr) (ps : List Pc), vs = [.str (tx x), .int g, .ref l, .int m] ∧ x.length ≤ 16 ∧ m ≤ 3 ∧ g ≤ x.length ∧ RefsAt PcAt H l ps ∧ (∀ p ∈ ps, PcOk p ∧ p.1.length ≤ m) ∧ ∀ H', Same H H' → Q (.bl (ps.any fun p => fitsP p x g)) H'
theorem df_is_parted {f : Addr} {fd : FuncData} (F : At K mg "is_parted" s_is_parted ["letters", "gap", "chosen", "length"] f fd) (T : Txt K mg D) (c_find_pieces_around : Df P w K mg base CX0 2 "find_pieces_around" ["letters", "gap", "length"] sp_find_pieces_around) :
    Df P w K mg base CX0 3 "is_parted" ["letters", "gap", "chosen", "length"] sp_is_parted := by
  refine df0 (N := N_is_parted) F sc_is_parted (fun vs H Q E h => ?_) (fun cdv A outer s H vs Q E hr h => ⟨_, (pss_one (ps_ret (pe_callB (cr_any rfl) (by rfl) T.n_any (by decide +kernel) (pa_cons (pe_lc (own := [("piece", 4)]) (te := tOp (rInD K) (tVar 4) (tVar 2)) rfl sc_is_parted.nd (pi_list (pe_d0 c_find_pieces_around hr (by decide) rfl (pa_cons (pv 0) (pa_cons (pv 1) (pa_cons (pv 3) pa_nil))))) (blkOk_by (own := [("piece", 4)]) (N := N_is_parted) (sc := defScope s_is_parted) (by decide +kernel)) (fun _ _ _ _ _ => (pg_name (i := 4) sc_is_parted.nd rfl (Or.inl rfl))) (fun _ _ _ _ _ => pts_nil) (fun _ _ _ _ _ => (pe_cmpR (op_inD (hu65 (Room.mono hr (Nat.le_refl _)))) (pv 4) (pv 2) (by rfl)))) pa_nil)))), ?_⟩)
  · obtain ⟨x, g, m, l, ps, rfl, _⟩ := h
    rfl
  · obtain ⟨x, g, m, l, ps, rfl, hx, hm, hg, ⟨as, hl, has⟩, hps, k⟩ := h
    refine ⟨_, rfl, _, rfl, _, rfl, x, g, m, rfl, hx, by omega, hg, fun H1 q e1 nq ⟨qs, hq, hqp⟩ => ⟨q, rfl, ⟨_, SqL.of hq⟩, fun O hO => ?_⟩⟩
    have eO : Same H1 (upd H1 O (.lst [])) := same_upd hO
    have plen : (pcs x g m).length ≤ 300 := by
      have z := pcs_len x g m
      have z2 : 4 * (x.length + 1) * m ≤ 4 * 17 * 3 := Nat.mul_le_mul (by omega) hm
      omega
    refine lc_it (walk_list (K := K) (a := q) (xs := qs.map V.ref)) (fun n H' => Same H1 H' ∧ H' O = some (.lst ((((pcs x g m).take n).map fun p => ps.contains p).map V.bl))) ⟨eO, upd_same⟩ ?_ ?_ ?_
    · rintro n H' _ ⟨e, _⟩
      exact SqL.of (e _ _ hq)
    · rintro n z H6 H7 hn ⟨e6, hO6⟩ ⟨rfl, hz⟩
      obtain ⟨b, hb, rfl⟩ := refs_get hz
      obtain ⟨p, hp, hpa⟩ := pget hqp hb
      refine ⟨rfl, ?_⟩
      refine ⟨_, rfl, _, rfl, pcD p, ps.map pcD, pcD_dp (e6 _ _ hpa), .lst (SqL.of (e6 _ _ (e1 _ _ hl))) (pcDs_dp (Paired.mapP has fun a b h => PcAt.same _ _ a b (e1.trans e6) h)), pcD_shaped _, pcDs_shaped _, ?_⟩
      rw [pcDs_any]
      refine ⟨_, hO6, ?_, fun a' u hu => ?_, ?_⟩
      · rw [List.length_map, List.length_map, List.length_take]
        exact Nat.lt_of_le_of_lt (by omega : _ ≤ 300) (by decide)
      · rw [upd_ne (ne_of_none hu hO)]
        exact e6 _ _ hu
      · rw [upd_same, take_more hp, List.map_append, List.map_append]
        rfl
    · rintro H6 ⟨e6, hO6⟩
      rw [List.length_map, hqp.length, List.take_length] at hO6
      refine ⟨O, _, rfl, SqL.of hO6, ?_⟩
      have := k H6 (e1.trans e6)
      rw [List.any_map]
      rw [← parted_any hps] at this
      exact this
end
end WG
set_option Elab.async false
set_option linter.all false
set_option maxRecDepth 100000
set_option maxHeartbeats 2000000
namespace WG
open PySem PySem.Spec PyProof.Rows L2
open LamX (TabB Tabs TabS ExtN)
/-! ### keep_out -/
theorem LeastT.mem {us : List (Pc × Nat)} {n c0 : Nat} {T : Nat → Ch} (L : LeastT us (2 ^ n - 1) c0 T) (hu : ∀ u ∈ us, u.2 < 2 ^ n) : ∀ (d c : Nat), 2 ^ n - 1 - c ≤ d → c0 ≤ c → c ≤ 2 ^ n - 1 → ∀ p ∈ (T c).2.2, ∃ u ∈ us, u.1 = p
  | d, c, hd, h0, hc, p, hp => by
    by_cases e : c = 2 ^ n - 1
    · rw [e, L.top] at hp
      cases hp
    · obtain ⟨k, k1, k2, k3⟩ := low_ex (n := n) (c := c) (by omega)
      obtain ⟨i, hi, _⟩ := L.step c h0 (by omega) k k2 k3
      obtain ⟨u, hu', eu⟩ := List.mem_map.mp (List.mem_of_getElem? hi)
      obtain ⟨g1, g2⟩ := List.mem_filter.mp hu'
      rw [← eu] at hp
      rcases List.mem_cons.mp hp with q | q
      · exact ⟨u, g1, q.symm⟩
      · have h1 := or_gt k3 g2
        have h2 := or_le (n := n) (a := c) (b := u.2) (by omega) (hu u g1)
        cases d with
        | zero => omega
        | succ d => exact L.mem hu d (c ||| u.2) (by omega) (by omega) h2 p q
def ptP (s : Vahypa.Lst) (ps : List Pc) (o : Nat × Nat) : Bool := ps.any fun p => fitsP p (Vahypc.wordAt s o.1) o.2
/-- hits, faults, misses of a word under some pieces -/
def triOf (s : Vahypa.Lst) (i : Nat) (ps : List Pc) (l : List (Nat × Nat)) : Nat × Nat × Nat :=
  ((l.filter fun o => decide (o.1 = i) && (ptP s ps o && yesP s o)).length, (l.filter fun o => decide (o.1 = i) && (ptP s ps o && !yesP s o)).length, (l.filter fun o => decide (o.1 = i) && (!ptP s ps o && yesP s o)).length)
def TriAt (H : Hp) (t : Addr) (x : Nat × Nat × Nat) : Prop := H t = some (.tup [.int (x.1 : Nat), .int (x.2.1 : Nat), .int (x.2.2 : Nat)])
theorem tri_snoc (s : Vahypa.Lst) (i : Nat) (ps : List Pc) (l : List (Nat × Nat)) (o : Nat × Nat) : triOf s i ps (l ++ [o]) =
    ((triOf s i ps l).1 + (if (decide (o.1 = i) && (ptP s ps o && yesP s o)) = true then 1 else 0), (triOf s i ps l).2.1 + (if (decide (o.1 = i) && (ptP s ps o && !yesP s o)) = true then 1 else 0), (triOf s i ps l).2.2 + (if (decide (o.1 = i) && (!ptP s ps o && yesP s o)) = true then 1 else 0)) := by
  have go : ∀ f : Nat × Nat → Bool, ((l ++ [o]).filter f).length = (l.filter f).length + if f o = true then 1 else 0 := fun f => by
    rw [List.filter_append, List.length_append, List.filter_cons, List.filter_nil]
    split <;> rfl
  unfold triOf
  rw [go, go, go]
abbrev s_keep_out : Stmt := top 58
abbrev N_keep_out : List Str := ["wordlist", "number", "length", "chosen", "hits", "faults", "misses", "spot", "parted"]
theorem sc_keep_out : FnScope N_keep_out ["wordlist", "number", "length"] (defScope s_keep_out) := ⟨rfl, rfl, rfl, by decide +kernel, rfl, by decide +kernel, by decide +kernel⟩
/-- no least set -/
def noLeast (z : Vahypa.Lst) (m : Nat) : Prop := orP (usP z m) ≠ 2 ^ (goalsP z).length - 1
def sp_keep_out (D : Ads) : Sp := fun vs H Q _ => ∃ a s i m, vs = [.ref a, .int (i : Nat), .int (m : Nat)] ∧ ListAt D H a s ∧ Fine s ∧ m ≤ 3 ∧ i < s.words.length ∧ (goalsP (Vahype.without s i)).length ≤ 9 ∧ Tabs (tabsT D) H ∧ ∀ H', ExtN H H' → Tabs (tabsT D) H' →
  (noLeast (Vahype.without s i) m → Q .non H') ∧ (¬ noLeast (Vahype.without s i) m → ∀ t T, LeastT (usP (Vahype.without s i) m) (2 ^ (goalsP (Vahype.without s i)).length - 1) 0 T → TriAt H' t (triOf s i (T 0).2.2 (spotsP s)) → Q (.ref t) H')
section
variable {P : Program} {w : World} {K : PySem.W.Frag} {mg : Str → Option Value} {base : Heap} {D : Ads}
theorem df_keep_out {f : Addr} {fd : FuncData} (F : At K mg "keep_out" s_keep_out ["wordlist", "number", "length"] f fd) (T : Txt K mg D) (c_find_least_set : Df P w K mg base CX0 5 "find_least_set" ["wordlist", "length"] (sp_find_least_set D))
    (c_leave_word_out : Df P w K mg base CX0 3 "leave_word_out" ["wordlist", "number"] (sp_leave_word_out D)) (c_find_spots : Df P w K mg base CX0 1 "find_spots" ["wordlist"] (sp_find_spots D))
    (c_is_parted : Df P w K mg base CX0 3 "is_parted" ["letters", "gap", "chosen", "length"] sp_is_parted) (c_may_part : Df P w K mg base CX0 1 "may_part" ["wordlist", "spot"] (sp_may_part D)) :
    Df P w K mg base CX0 6 "keep_out" ["wordlist", "number", "length"] (sp_keep_out D) := by
  refine df0 (N := N_keep_out) F sc_keep_out (fun vs H Q E h => ?_) (fun cdv A outer s H vs Q E hr h => ⟨_, (pss_cons (ps_set (i := 3) sc_keep_out.nd rfl (Or.inl rfl) (pe_d0 c_find_least_set hr (by decide) rfl (pa_cons (pe_d0 c_leave_word_out hr (by decide) rfl (pa_cons (pv 0) (pa_cons (pv 1) pa_nil))) (pa_cons (pv 2) pa_nil))))
(pss_cons (ps_if (pt_cmpR op_isN (pv 3) pe_non (nomark _))
(pss_one (ps_ret pe_non))
pss_nil)
(pss_cons (ps_set (i := 4) sc_keep_out.nd rfl (Or.inl rfl) pe_int)
(pss_cons (ps_set (i := 5) sc_keep_out.nd rfl (Or.inl rfl) pe_int)
(pss_cons (ps_set (i := 6) sc_keep_out.nd rfl (Or.inl rfl) pe_int)
(pss_cons (ps_for PassesOwn.never rfl (pi_list (pe_d0 c_find_spots hr (by decide) rfl (pa_cons (pv 0) pa_nil))) (pg_name (i := 7) sc_keep_out.nd rfl (Or.inl rfl))
(pss_one (ps_if (pt_cmpR op_eq (pe_ix ix_tup (pv 7) pe_int (fun _ _ => rfl)) (pv 1) (nomark _))
(pss_cons (ps_set (i := 8) sc_keep_out.nd rfl (Or.inl rfl) (pe_d0 c_is_parted hr (by decide) rfl (pa_cons (pe_fld (pe_ix ix_list (pe_fld (pv 0) rfl) (pv 1) (fun _ _ => rfl)) rfl) (pa_cons (pe_ix ix_tup (pv 7) pe_int (fun _ _ => rfl)) (pa_cons (pv 3) (pa_cons (pv 2) pa_nil))))))
(pss_one (ps_if (PW.pt (pw_and (pt_val (pv 8)) (pw_and1 (pt_val (pe_d0 c_may_part hr (by decide) rfl (pa_cons (pv 0) (pa_cons (pv 7) pa_nil)))))))
(pss_one (ps_aug (i := 4) sc_keep_out.nd rfl (Or.inl rfl) pe_int ip_add))
(pss_one (ps_if (pt_val (pv 8))
(pss_one (ps_aug (i := 5) sc_keep_out.nd rfl (Or.inl rfl) pe_int ip_add))
(pss_one (ps_if (pt_val (pe_d0 c_may_part hr (by decide) rfl (pa_cons (pv 0) (pa_cons (pv 7) pa_nil))))
(pss_one (ps_aug (i := 6) sc_keep_out.nd rfl (Or.inl rfl) pe_int ip_add))
pss_nil)))))))
pss_nil)))
(pss_one (ps_ret (pe_tup (pa_cons (pv 4) (pa_cons (pv 5) (pa_cons (pv 6) pa_nil)))))))))))), ?_⟩)
  · obtain ⟨a, s, i, m, rfl, _⟩ := h
    rfl
  · obtain ⟨a, s, i, m, rfl, hL, hF, hm, hi, h9, hT, k⟩ := h
    refine ⟨_, rfl, _, rfl, a, s, i, rfl, hL, hF, fun H1 x e1 hz => ⟨_, rfl, x, Vahype.without s i, m, rfl, hz, fine_without hF i, hm, h9, tabs_same hT e1, fun H2 eX hT2 => ⟨fun hne => ?_, fun he l Tt LT hl => ?_⟩⟩⟩
    · refine ⟨_, rfl, rfl, _, rfl, iteT' (decide_eq_true rfl) ?_⟩
      exact (k H2 ((extN_same e1).trans eX) hT2).1 hne
    refine ⟨_, rfl, rfl, _, rfl, iteF' (decide_eq_false (fun z => by cases z)) ?_⟩
    have e12 : ExtN H H2 := (extN_same e1).trans eX
    have hps : ∀ p ∈ (Tt 0).2.2, PcOk p ∧ p.1.length ≤ m := fun p hp => by
      have pw : 1 ≤ 2 ^ (goalsP (Vahype.without s i)).length := Nat.one_le_two_pow
      obtain ⟨u, hu, rfl⟩ := LT.mem (fun u hu => by
        obtain ⟨p, _, rfl⟩ := List.mem_map.mp hu
        exact mkP_lt _ p) _ 0 (Nat.le_refl _) (Nat.le_refl _) (Nat.zero_le _) p hp
      obtain ⟨p, hp', rfl⟩ := List.mem_map.mp hu
      exact fam_small (used_mem hp')
    generalize hpsv : (Tt 0).2.2 = ps at hps hl
    have hL2 := hL.ext e12
    -- for spot in find_spots(wordlist)
    refine ⟨_, rfl, a, s, rfl, hL2, hF, fun H3 sp e3 nsp ⟨as, hsp, has⟩ => ⟨sp, rfl, ⟨_, SqL.of hsp⟩, ?_⟩⟩
    have hL3 := hL2.same e3
    obtain ⟨dx, wl, pl, h1, ⟨ws, h2, h2p⟩, h3⟩ := id hL3
    obtain ⟨wo, hwo⟩ : ∃ wo, s.words[i]? = some wo := ⟨_, List.getElem?_eq_getElem hi⟩
    obtain ⟨wa, hwa, dw, bl, hw1, hw2⟩ := pget2 h2p hwo
    refine for_it (walk_list (K := K) (a := sp) (xs := as.map V.ref)) (fun j σ H' => ∃ v7 v8, σ = [some (.ref a), some (.int (i : Nat)), some (.int (m : Nat)), some (.ref l), some (.int ((triOf s i ps ((spotsP s).take j)).1 : Nat)), some (.int ((triOf s i ps ((spotsP s).take j)).2.1 : Nat)), some (.int ((triOf s i ps ((spotsP s).take j)).2.2 : Nat)), v7, v8] ∧ Same H3 H') ?_ ?_ ?_ ?_
    · exact ⟨none, none, rfl, Same.refl _⟩
    · rintro j σ H' _ ⟨_, _, _, e⟩
      exact SqL.of (e _ _ hsp)
    · rintro j x σ H4 H5 hj ⟨v7, v8, rfl, e4⟩ ⟨rfl, hx⟩
      obtain ⟨c, hc, rfl⟩ := refs_get hx
      obtain ⟨o, ho, hoa⟩ := pget has hc
      have hoa4 : PairAt H5 c o := e4 _ _ hoa
      obtain ⟨wo', hwo', ho1, ho2, hwom⟩ := spots_in (List.mem_of_getElem? ho)
      refine ⟨_, rfl, c, _, 0, _, rfl, rfl, SqT.of hoa4, rfl, _, rfl, rfl, _, rfl, ?_⟩
      have ed : decide (V.int (o.1 : Nat) = V.int (i : Nat)) = decide (o.1 = i) := by
        rw [Bool.eq_iff_iff]
        simp only [decide_eq_true_eq, int_iff]
        omega
      rw [ed, take_more ho, tri_snoc]
      by_cases dd : o.1 = i
      · rw [decide_eq_true dd]
        subst dd
        rw [hwo] at hwo'
        cases hwo'
        have hwl := hF.lx wo hwom
        have eY : wo.cuts.contains o.2 = yesP s o := by unfold yesP; rw [hwo]
        refine iteT ?_
        refine ⟨_, rfl, a, D.cL, dx, _, _, rfl, e4 _ _ h1, T.kL, T.lW, fL_words _ _ _ _, _, rfl, wl, _, _, .ref wa, rfl, rfl, SqL.of (e4 _ _ h2), atI_nat (by rw [List.getElem?_map, hwa] <;> rfl), ?_⟩
        refine ⟨wa, D.cW, dw, _, _, rfl, e4 _ _ hw1, T.kW, T.wL, fW_letters _ _, _, rfl, c, _, 1, _, rfl, rfl, SqT.of hoa4, rfl, _, rfl, _, rfl, ?_⟩
        refine ⟨wo.x, o.2, m, l, ps, rfl, hwl.2, hm, by omega, hl.same PcAt.same (e3.trans e4), hps, fun H6 e6 => ?_⟩
        have e46 := e4.trans e6
        have ept : (ps.any fun p => fitsP p wo.x o.2) = ptP s ps o := by unfold ptP; rw [wordAt_of hwo]
        rw [ept]
        cases hp : ptP s ps o with
        | true =>
          refine ⟨_, rfl, _, rfl, iteT ⟨_, rfl, _, rfl, a, c, s, o.1, o.2, wo, rfl, hL3.same e46, e46 _ _ hoa, hwo, _, rfl, ?_⟩⟩
          rw [eY]
          cases hy : yesP s o with
          | true =>
            exact iteT ⟨_, rfl, _, _, rfl, rfl, _, _, rfl, e46⟩
          | false =>
            refine iteF ⟨_, rfl, _, rfl, iteT ⟨_, rfl, _, _, rfl, rfl, _, _, rfl, e46⟩⟩
        | false =>
          refine ⟨_, rfl, _, rfl, iteF (iteF ⟨_, rfl, _, rfl, iteF ⟨_, rfl, _, rfl, a, c, s, o.1, o.2, wo, rfl, hL3.same e46, e46 _ _ hoa, hwo, _, rfl, ?_⟩⟩)⟩
          rw [eY]
          cases hy : yesP s o with
          | true =>
            exact iteT ⟨_, rfl, _, _, rfl, rfl, _, _, rfl, e46⟩
          | false =>
            exact iteF ⟨_, _, rfl, e46⟩
      · rw [decide_eq_false dd]
        exact iteF ⟨_, _, rfl, e4⟩
    · rintro σ H4 ⟨v7, v8, rfl, e4⟩
      rw [List.length_map, has.length, List.take_length]
      refine ⟨_, rfl, _, rfl, _, rfl, by show 3 ≤ sizeLine; decide, fun t ht => ?_⟩
      have et : Same H4 (upd H4 t (.tup [.int ((triOf s i ps (spotsP s)).1 : Nat), .int ((triOf s i ps (spotsP s)).2.1 : Nat), .int ((triOf s i ps (spotsP s)).2.2 : Nat)])) := same_upd ht
      refine (k _ (e12.trans (extN_same ((e3.trans e4).trans et))) (tabs_same hT2 ((e3.trans e4).trans et))).2 (fun z => z he) t Tt LT ?_
      rw [hpsv]
      exact upd_same
end
end WG
set_option Elab.async false
set_option linter.all false
set_option maxRecDepth 100000
set_option maxHeartbeats 2000000
namespace WG
open Vahypa (Pat)
open Vahypc (Cand Choice)
open PySem PySem.Spec PyProof.Rows L2
/-! ### marks and covers -/
theorem maskP_congr {f g : Nat × Nat → Bool} : ∀ (k : Nat) (l : List (Nat × Nat)), (∀ o ∈ l, f o = g o) → maskP f k l = maskP g k l
  | _, [], _ => rfl
  | k, x :: l, h => by
    unfold maskP
    rw [h x (.head _), maskP_congr (k + 1) l fun y hy => h y (.tail _ hy)]
theorem mask_two (f : Nat × Nat → Bool) : ∀ (l : List (Nat × Nat)) (k : Nat), ∃ q, maskP f k l = 2 ^ k * q
  | [], k => ⟨0, rfl⟩
  | x :: l, k => by
    obtain ⟨q, e⟩ := mask_two f l (k + 1)
    refine ⟨(if f x = true then 1 else 0) + 2 * q, ?_⟩
    unfold maskP
    rw [e, Nat.pow_succ, Nat.mul_add]
    split <;> simp [Nat.mul_assoc]
theorem mask_eq {f g : Nat × Nat → Bool} : ∀ (l : List (Nat × Nat)) (k : Nat), maskP f k l = maskP g k l → ∀ x ∈ l, f x = g x
  | [], _, _ => nofun
  | x :: l, k, h => by
    obtain ⟨q, e1⟩ := mask_two f l (k + 1)
    obtain ⟨q', e2⟩ := mask_two g l (k + 1)
    unfold maskP at h
    have pos : 0 < 2 ^ k := Nat.pow_pos (by decide)
    have h' := h
    rw [e1, e2, Nat.pow_succ, Nat.mul_assoc, Nat.mul_assoc] at h'
    have fl : ∀ c : Bool, (if c = true then 2 ^ k else 0) = 2 ^ k * (if c = true then 1 else 0) := fun c => by cases c <;> simp
    rw [fl, fl, ← Nat.mul_add, ← Nat.mul_add] at h'
    have h2 := Nat.eq_of_mul_eq_mul_left pos h'
    have hx : f x = g x := by
      cases a : f x <;> cases b : g x <;> rw [a, b] at h2 <;> simp at h2 <;> omega
    rw [hx] at h
    have h3 := Nat.add_left_cancel h
    intro y hy
    rcases List.mem_cons.mp hy with rfl | hy
    · exact hx
    · exact mask_eq l (k + 1) h3 y hy
theorem stand_goal {s : Vahypa.Lst} {p : Pc} {o : Nat × Nat} (ho : o ∈ spotsP s) : (standP s p).contains o = fitsP p (Vahypc.wordAt s o.1) o.2 := by
  rw [Bool.eq_iff_iff]
  simp only [List.contains_eq_mem, decide_eq_true_eq]
  unfold standP
  rw [List.mem_filter]
  exact ⟨fun h => h.2, fun h => ⟨ho, h⟩⟩
theorem mkP_is (s : Vahypa.Lst) (p : Pc) : mkP s p = coverP s p := maskP_congr 0 _ fun o ho => stand_goal (List.mem_filter.mp ho).1
theorem good_of {s : Vahypa.Lst} {m : Nat} {p : Pc} (h : p ∈ famP s m) : goodP s p = true := (List.mem_filter.mp h).2
/-- pieces that are never wrong and cover alike stand alike -/
theorem mk_stand {s : Vahypa.Lst} {p q : Pc} (hp : goodP s p = true) (hq : goodP s q = true) : standP s p = standP s q ↔ mkP s p = mkP s q := by
  constructor
  · intro h
    unfold mkP
    rw [h]
  · intro h
    have b := mask_eq (goalsP s) 0 h
    unfold standP
    refine List.filter_congr fun o ho => ?_
    have gp := List.all_eq_true.mp hp o ho
    have gq := List.all_eq_true.mp hq o ho
    cases hy : yesP s o with
    | true =>
      have z := b o (List.mem_filter.mpr ⟨ho, hy⟩)
      rw [stand_goal ho, stand_goal ho] at z
      exact z
    | false =>
      rw [hy] at gp gq
      simp at gp gq
      rw [gp, gq]
/-! ### the slim list -/
def CdAt (fam : List Pc) (c : Cand) (u : Pc × Nat) : Prop := fam[c.k]? = some u.1 ∧ c.mask = u.2 ∧ c.bytes = pcBytes u.1
theorem putCand_is {s : Vahypa.Lst} {fam : List Pc} {c : Cand} {p : Pc} (hp : goodP s p = true) (hc : CdAt fam c (p, mkP s p)) : ∀ {l : List Cand} {ps : List Pc}, (∀ q ∈ ps, goodP s q = true) → Paired (CdAt fam) l (ps.map fun q => (q, mkP s q)) →
    Paired (CdAt fam) (Vahypc.putCand l c) ((putU s ps p).map fun q => (q, mkP s q))
  | _, [], _, h => by
    cases h
    exact .cons hc .nil
  | _, q :: ps, g, h => by
    rw [List.map_cons] at h
    cases h with
    | @cons d _ r _ hd t =>
      have gq := g q (.head _)
      unfold Vahypc.putCand putU
      have em : d.mask = c.mask ↔ standP s q = standP s p := by rw [mk_stand gq hp, hd.2.1, hc.2.1]
      have eb : c.bytes < d.bytes ↔ pcBytes p < pcBytes q := by rw [hc.2.2, hd.2.2]
      by_cases e : standP s q = standP s p
      · rw [if_pos (em.mpr e), if_pos e]
        by_cases e2 : pcBytes p < pcBytes q
        · rw [if_pos (eb.mpr e2), if_pos e2]
          exact .cons hc t
        · rw [if_neg (fun z => e2 (eb.mp z)), if_neg e2]
          exact .cons hd t
      · rw [if_neg (fun z => e (em.mp z)), if_neg e]
        exact .cons hd (putCand_is hp hc (fun x hx => g x (.tail _ hx)) t)
theorem putU_good {s : Vahypa.Lst} {p : Pc} (hp : goodP s p = true) {ps : List Pc} (h : ∀ q ∈ ps, goodP s q = true) : ∀ q ∈ putU s ps p, goodP s q = true := fun q hq => by
  rcases putU_mem hq with e | e
  · exact h q e
  · rw [e]; exact hp
theorem slim_go {s : Vahypa.Lst} {fam : List Pc} : ∀ (cs : List Cand) (ps : List Pc), (∀ q ∈ ps, goodP s q = true) → Paired (CdAt fam) cs (ps.map fun q => (q, mkP s q)) → ∀ (l : List Cand) (us : List Pc), (∀ q ∈ us, goodP s q = true) → Paired (CdAt fam) l (us.map fun q => (q, mkP s q)) →
    Paired (CdAt fam) (cs.foldl Vahypc.putCand l) ((ps.foldl (putU s) us).map fun q => (q, mkP s q))
  | _, [], _, h, l, us, _, hl => by
    cases h
    exact hl
  | _, p :: ps, g, h, l, us, gu, hl => by
    rw [List.map_cons] at h
    cases h with
    | @cons c _ r _ hc t =>
      have gp := g p (.head _)
      exact slim_go r ps (fun x hx => g x (.tail _ hx)) t _ _ (putU_good gp gu) (putCand_is gp hc gu hl)
theorem slim_is {s : Vahypa.Lst} (hs : Read s) (m : Nat) : Paired (CdAt (famP s m)) (Vahypc.slim (Vahypc.candsOf s (Vahypc.family s m))) (usP s m) := by
  have c0 : Paired (CdAt (famP s m)) (Vahypc.candsOf s (Vahypc.family s m)) ((famP s m).map fun q => (q, mkP s q)) := by
    rw [family_is hs]
    unfold Vahypc.candsOf
    have go : ∀ (l : List Pc) (i : Nat), (∀ (j : Nat) (p : Pc), l[j]? = some p → (famP s m)[i + j]? = some p) → (∀ p ∈ l, PcOk p) → Paired (CdAt (famP s m)) (((l.map patP).zipIdx i).map fun p => ⟨p.2, Vahypc.covers s p.1, Vahypc.bytesOf p.1⟩) (l.map fun q => (q, mkP s q)) := by
      intro l
      induction l with
      | nil => intro i _ _; exact .nil
      | cons p l ih =>
        intro i h1 h2
        rw [List.map_cons, List.zipIdx_cons, List.map_cons, List.map_cons]
        refine .cons ⟨h1 0 p rfl, ?_, ?_⟩ (ih (i + 1) (fun j q hq => by rw [show i + 1 + j = i + (j + 1) by omega]; exact h1 (j + 1) q (by simpa using hq)) fun q hq => h2 q (.tail _ hq))
        · show Vahypc.covers s (patP p) = mkP s p
          rw [covers_is (h2 p (.head _)) hs, mkP_is]
        · exact bytes_is (h2 p (.head _))
    exact go (famP s m) 0 (fun j p h => by rw [Nat.zero_add]; exact h) fun p hp => fam_ok hp
  exact slim_go _ (famP s m) (fun q hq => good_of hq) c0 [] [] nofun .nil
end WG
set_option Elab.async false
set_option linter.all false
set_option maxRecDepth 100000
set_option maxHeartbeats 2000000
namespace WG
open Vahypa (Pat)
open Vahypc (Cand Choice)
open PySem PySem.Spec PyProof.Rows L2
/-! ### the table of choices -/
def pickC (b : Option Choice) (y : Choice) : Option Choice := match b with
  | none => some y
  | some z => if Vahypc.better 0 y z = true then some y else b
theorem better_iff {a b : Choice} : Vahypc.better 0 a b = true ↔ (a.ks.length < b.ks.length ∨ (a.ks.length = b.ks.length ∧ a.bytes < b.bytes)) := by
  unfold Vahypc.better
  rw [if_pos rfl, Bool.or_eq_true, Bool.and_eq_true, decide_eq_true_eq, decide_eq_true_eq, beq_iff_eq]
theorem pick_first : ∀ (n : Nat) (ys : List Choice), ys.length = n → ys ≠ [] → ∃ i x, ys.foldl pickC none = some x ∧ ys[i]? = some x ∧ ∀ (j : Nat) (u : Choice), ys[j]? = some u → ¬ Vahypc.better 0 u x = true ∧ (j < i → Vahypc.better 0 x u = true)
  | 0, ys, hl, hne => absurd (List.length_eq_zero_iff.mp hl) hne
  | n + 1, ys, hl, hne => by
    obtain ⟨zs, y, rfl⟩ : ∃ zs y, ys = zs ++ [y] := by
      rcases List.eq_nil_or_concat ys with e | ⟨zs, y, e⟩
      · exact absurd e hne
      · exact ⟨zs, y, by rw [e]; simp⟩
    have hz : zs.length = n := by simpa using hl
    rw [List.foldl_append, List.foldl_cons, List.foldl_nil]
    by_cases e : zs = []
    · subst e
      refine ⟨0, y, rfl, rfl, fun j u hu => ?_⟩
      cases j with
      | zero =>
        cases hu
        exact ⟨fun z => by rw [better_iff] at z; omega, fun z => absurd z (Nat.lt_irrefl _)⟩
      | succ j => cases hu
    · obtain ⟨i, x, h1, h2, h3⟩ := pick_first n zs hz e
      have li : i < zs.length := (List.getElem?_eq_some_iff.mp h2).1
      rw [h1]
      by_cases b : Vahypc.better 0 y x = true
      · refine ⟨zs.length, y, if_pos b, by rw [List.getElem?_append_right (Nat.le_refl _), Nat.sub_self]; rfl, fun j u hu => ?_⟩
        by_cases hj : j < zs.length
        · rw [List.getElem?_append_left hj] at hu
          obtain ⟨g1, _⟩ := h3 j u hu
          rw [better_iff] at g1 b
          rw [better_iff, better_iff]
          omega
        · have hjl := (List.getElem?_eq_some_iff.mp hu).1
          rw [List.length_append, List.length_singleton] at hjl
          have : j = zs.length := by omega
          subst this
          rw [List.getElem?_append_right (Nat.le_refl _), Nat.sub_self] at hu
          cases hu
          exact ⟨fun z => by rw [better_iff] at z; omega, fun z => absurd z (Nat.lt_irrefl _)⟩
      · refine ⟨i, x, if_neg b, by rw [List.getElem?_append_left li]; exact h2, fun j u hu => ?_⟩
        by_cases hj : j < zs.length
        · rw [List.getElem?_append_left hj] at hu
          exact h3 j u hu
        · have hjl := (List.getElem?_eq_some_iff.mp hu).1
          rw [List.length_append, List.length_singleton] at hjl
          have : j = zs.length := by omega
          subst this
          rw [List.getElem?_append_right (Nat.le_refl _), Nat.sub_self] at hu
          cases hu
          exact ⟨b, fun z => absurd z (by omega)⟩
/-- a choice of the table and one of the program's -/
def ChR (fam : List Pc) (x : Choice) (t : Ch) : Prop := x.ks.length = t.1 ∧ x.bytes = t.2.1 ∧ Paired (fun (k : Nat) p => fam[k]? = some p) x.ks t.2.2
theorem chR_lt {fam : List Pc} {x y : Choice} {t u : Ch} (h1 : ChR fam x t) (h2 : ChR fam y u) : Vahypc.better 0 x y = true ↔ ltC t u := by
  rw [better_iff]
  unfold ltC
  rw [h1.1, h2.1, h1.2.1, h2.2.1]
theorem low_is {n m k : Nat} (hk : k < n) (h1 : ∀ j, j < k → m.testBit j = true) (h2 : m.testBit k = false) : Vahypc.lowest n m = k := by
  unfold Vahypc.lowest
  have e : (List.range n).find? (fun k => !Vahypc.hasBit m k) = some k := by
    rw [List.find?_range_eq_some]
    refine ⟨by rw [bit_is, h2]; rfl, List.mem_range.mpr hk, fun j hj => by rw [bit_is, h1 j hj]; rfl⟩
  rw [e]
  rfl
def stepB (n m : Nat) (known : List (Option Choice)) (b : Option Choice) (c : Cand) : Option Choice := if Vahypc.hasBit c.mask (Vahypc.lowest n m) = false then b else match (known[Vahypc.join m c.mask - m - 1]?).bind id with
    | none => b
    | some x => let y : Choice := ⟨x.bytes + c.bytes, c.k :: x.ks⟩
      match b with
        | none => some y
        | some z => if Vahypc.better 0 y z = true then some y else b
theorem bestAt_is (cs : List Cand) (n m : Nat) (known : List (Option Choice)) : Vahypc.bestAt cs 0 n m known = if m + 1 = 2 ^ n then some ⟨0, []⟩ else cs.foldl (stepB n m known) none := rfl
theorem step_is {n m : Nat} {known : List (Option Choice)} {b : Option Choice} {c : Cand} {x : Choice} (h1 : Vahypc.hasBit c.mask (Vahypc.lowest n m) = true) (h2 : (known[Vahypc.join m c.mask - m - 1]?).bind id = some x) :
    stepB n m known b c = pickC b ⟨x.bytes + c.bytes, c.k :: x.ks⟩ := by
  unfold stepB
  rw [h1, if_neg (by decide), h2]
  rfl
theorem step_none {n m : Nat} {known : List (Option Choice)} {b : Option Choice} {c : Cand} (h2 : Vahypc.hasBit c.mask (Vahypc.lowest n m) = true → (known[Vahypc.join m c.mask - m - 1]?).bind id = none) : stepB n m known b c = b := by
  unfold stepB
  cases h1 : Vahypc.hasBit c.mask (Vahypc.lowest n m) with
  | false => rfl
  | true => rw [if_neg (by decide), h2 h1]
theorem fold_is {fam : List Pc} {n m k : Nat} {T : Nat → Ch} {known : List (Option Choice)} (hlow : Vahypc.lowest n m = k) (hn : 2 ^ n ≤ 512) (hm : m < 2 ^ n) : ∀ (cs : List Cand) (us : List (Pc × Nat)), Paired (CdAt fam) cs us → (∀ u ∈ us, u.2 < 2 ^ n) →
    (∀ u ∈ us, u.2.testBit k = true → ∃ x, (known[(m ||| u.2) - m - 1]?).bind id = some x ∧ ChR fam x (T (m ||| u.2))) → ∃ ys, (∀ b, cs.foldl (stepB n m known) b = ys.foldl pickC b) ∧ Paired (ChR fam) ys (candP us m k T)
  | _, _, .nil, _, _ => ⟨[], fun _ => rfl, .nil⟩
  | _, _, .cons (a := c) (b := u) (l₁ := cs) (l₂ := us) hc t, hu, hk => by
    obtain ⟨ys, h1, h2⟩ := fold_is hlow hn hm cs us t (fun v hv => hu v (.tail _ hv)) (fun v hv => hk v (.tail _ hv))
    have hj : Vahypc.join m c.mask = m ||| u.2 := by
      rw [hc.2.1]
      have := hu u (.head _)
      exact join_is (by omega) (by omega)
    cases hb : u.2.testBit k with
    | false =>
      refine ⟨ys, fun b => ?_, ?_⟩
      · rw [List.foldl_cons, step_none (fun z => by rw [hlow, bit_is, hc.2.1, hb] at z; cases z), h1]
      · unfold candP
        rw [List.filter_cons, if_neg (by rw [hb]; decide)]
        exact h2
    | true =>
      obtain ⟨x, g1, g2⟩ := hk u (.head _) hb
      refine ⟨⟨x.bytes + c.bytes, c.k :: x.ks⟩ :: ys, fun b => ?_, ?_⟩
      · rw [List.foldl_cons, step_is (x := x) (by rw [hlow, bit_is, hc.2.1, hb]) (by rw [hj]; exact g1), h1, List.foldl_cons]
      · unfold candP
        rw [List.filter_cons, if_pos hb, List.map_cons]
        refine .cons ⟨?_, ?_, ?_⟩ h2
        · show x.ks.length + 1 = _ + 1
          rw [g2.1]
        · show x.bytes + c.bytes = _ + _
          rw [g2.2.1, hc.2.2]
        · exact .cons hc.1 g2.2.2
def tabL (cs : List Cand) (n : Nat) : List (Option Choice) := Vahypc.bestBy cs 0 n (2 ^ n) []
theorem tab_at {cs : List Cand} {n m : Nat} (h : m < 2 ^ n) : (tabL cs n)[m]? = some (Vahypc.bestAt cs 0 n m ((tabL cs n).drop (m + 1))) := (best_spec cs 0 n (2 ^ n) []).2.2 m h
theorem tab_known {cs : List Cand} {n m a : Nat} (h : m < m ||| a) : ((tabL cs n).drop (m + 1))[(m ||| a) - m - 1]? = (tabL cs n)[m ||| a]? := by
  rw [List.getElem?_drop, show m + 1 + ((m ||| a) - m - 1) = m ||| a by omega]
/-- the program's table and the specification's -/
theorem table_is {fam : List Pc} {cs : List Cand} {us : List (Pc × Nat)} {n : Nat} {T : Nat → Ch} (hn : 2 ^ n ≤ 512) (hc : Paired (CdAt fam) cs us) (hu : ∀ u ∈ us, u.2 < 2 ^ n) (L : LeastT us (2 ^ n - 1) 0 T) :
    ∀ (d m : Nat), 2 ^ n - 1 - m ≤ d → m < 2 ^ n → ∃ x, ((tabL cs n)[m]?).bind id = some x ∧ ChR fam x (T m)
  | d, m, hd, hm => by
    rw [tab_at hm, bestAt_is]
    by_cases e : m + 1 = 2 ^ n
    · rw [if_pos e]
      have em : m = 2 ^ n - 1 := by omega
      refine ⟨⟨0, []⟩, rfl, ?_⟩
      rw [em, L.top]
      exact ⟨rfl, rfl, .nil⟩
    · rw [if_neg e]
      obtain ⟨k, k1, k2, k3⟩ := low_ex (n := n) (c := m) (by omega)
      obtain ⟨ys, h1, h2⟩ := fold_is (fam := fam) (T := T) (known := (tabL cs n).drop (m + 1)) (low_is k1 k2 k3) hn hm cs us hc hu fun u hu' hb => by
        have g1 := or_gt k3 hb
        have g2 := or_le (n := n) (a := m) (b := u.2) hm (hu u hu')
        rw [tab_known g1]
        cases d with
        | zero => omega
        | succ d => exact table_is hn hc hu L d (m ||| u.2) (by omega) (by omega)
      obtain ⟨i, hi, hmin⟩ := L.step m (Nat.zero_le _) (by omega) k k2 k3
      have hne : ys ≠ [] := fun z => by
        rw [z] at h2
        cases hcc : candP us m k T with
        | nil => rw [hcc] at hi; cases hi
        | cons a b => rw [hcc] at h2; cases h2
      obtain ⟨i', x, g1, g2, g3⟩ := pick_first _ ys rfl hne
      rw [h1, g1]
      refine ⟨x, rfl, ?_⟩
      obtain ⟨t', ht', hR⟩ := pget h2 g2
      obtain ⟨y, hy, hRy⟩ := pget2 h2 hi
      have ei : i' = i := by
        rcases Nat.lt_trichotomy i' i with z | z | z
        · have a1 := (hmin i' t' ht').2 z
          have a2 := (g3 i y hy).1
          exact absurd ((chR_lt hRy hR).mpr a1) a2
        · exact z
        · have a1 := (g3 i y hy).2 z
          have a2 := (hmin i' t' ht').1
          exact absurd ((chR_lt hR hRy).mp a1) a2
      subst ei
      rw [hi] at ht'
      cases ht'
      exact hR
/-- a goal that no piece covers -/
theorem table_none {fam : List Pc} {cs : List Cand} {us : List (Pc × Nat)} {n k : Nat} (hn : 2 ^ n ≤ 512) (hk : k < n) (hc : Paired (CdAt fam) cs us) (hu : ∀ u ∈ us, u.2 < 2 ^ n) (no : ∀ u ∈ us, u.2.testBit k = false) :
    ∀ (d m : Nat), 2 ^ n - 1 - m ≤ d → m < 2 ^ n → m.testBit k = false → ((tabL cs n)[m]?).bind id = none
  | d, m, hd, hm, hb => by
    rw [tab_at hm, bestAt_is]
    have e : ¬ m + 1 = 2 ^ n := fun z => by
      have : m = 2 ^ n - 1 := by omega
      rw [this, Nat.testBit_two_pow_sub_one, decide_eq_true hk] at hb
      cases hb
    rw [if_neg e]
    obtain ⟨k', k1, k2, k3⟩ := low_ex (n := n) (c := m) (by omega)
    have hlow := low_is k1 k2 k3
    show cs.foldl (stepB n m ((tabL cs n).drop (m + 1))) none = none
    have go : ∀ l : List Cand, (∀ c ∈ l, ∃ u ∈ us, c.mask = u.2) → l.foldl (stepB n m ((tabL cs n).drop (m + 1))) none = none := by
      intro l
      induction l with
      | nil => intro _; rfl
      | cons c l ih =>
        intro h
        obtain ⟨u, hu', ec⟩ := h c (.head _)
        rw [List.foldl_cons, step_none, ih fun x hx => h x (.tail _ hx)]
        intro z
        rw [hlow, bit_is, ec] at z
        have g1 := or_gt k3 z
        have g2 := or_le (n := n) (a := m) (b := u.2) hm (hu u hu')
        have hj : Vahypc.join m c.mask = m ||| u.2 := by
          rw [ec]
          have := hu u hu'
          exact join_is (by omega) (by omega)
        rw [hj, tab_known g1]
        cases d with
        | zero => omega
        | succ d => exact table_none hn hk hc hu no d (m ||| u.2) (by omega) (by omega) (by rw [Nat.testBit_or, hb, no u hu']; rfl)
    refine go cs fun c hcm => ?_
    obtain ⟨i, hi⟩ := List.mem_iff_getElem?.mp hcm
    obtain ⟨u, hu', hR⟩ := pget hc hi
    exact ⟨u, List.mem_of_getElem? hu', hR.2.1⟩
end WG
set_option Elab.async false
set_option linter.all false
set_option maxRecDepth 100000
set_option maxHeartbeats 2000000
namespace WG
open Vahypa (Pat)
open Vahypc (Cand Choice)
open PySem PySem.Spec PyProof.Rows L2
/-! ### a word kept out -/
def spOf (s : Vahypa.Lst) (w : Vahypa.Word × Nat) : List (Nat × Nat) := (innerP s w.1.x).map fun g => (w.2, g)
theorem spotsP_is (s : Vahypa.Lst) : spotsP s = s.words.zipIdx.flatMap (spOf s) := by
  unfold spotsP Vahype.spotsOf
  rw [List.map_flatMap]
  refine congrArg (fun f => s.words.zipIdx.flatMap f) (funext fun w => ?_)
  rw [List.map_map]
  rfl
theorem word_out {s : Vahypa.Lst} {i : Nat} (q : Nat × Nat → Bool) : ∀ (ws : List Vahypa.Word) (j : Nat), i < j → ((ws.zipIdx j).flatMap (spOf s)).filter (fun o => decide (o.1 = i) && q o) = []
  | [], _, _ => rfl
  | v :: ws, j, h => by
    rw [List.zipIdx_cons, List.flatMap_cons, List.filter_append, word_out q ws (j + 1) (by omega), List.append_nil, List.filter_eq_nil_iff]
    intro o ho
    obtain ⟨g, _, rfl⟩ := List.mem_map.mp ho
    rw [decide_eq_false (show ¬ (j = i) by omega)]
    simp
theorem word_in {s : Vahypa.Lst} {i : Nat} {w : Vahypa.Word} (q : Nat × Nat → Bool) : ∀ (ws : List Vahypa.Word) (j : Nat), j ≤ i → ws[i - j]? = some w → ((ws.zipIdx j).flatMap (spOf s)).filter (fun o => decide (o.1 = i) && q o) = ((innerP s w.x).filter fun g => q (i, g)).map fun g => (i, g)
  | [], _, _, h => by cases h
  | v :: ws, j, hj, h => by
    rw [List.zipIdx_cons, List.flatMap_cons, List.filter_append]
    by_cases e : j = i
    · subst e
      rw [Nat.sub_self] at h
      cases h
      rw [word_out q ws (j + 1) (by omega), List.append_nil]
      show ((innerP s w.x).map fun g => (j, g)).filter _ = _
      rw [List.filter_map]
      congr 1
      refine List.filter_congr fun g _ => ?_
      show (decide (j = j) && q (j, g)) = q (j, g)
      rw [decide_eq_true rfl, Bool.true_and]
    · rw [word_in q ws (j + 1) (by omega) (by rw [show i - j = i - (j + 1) + 1 by omega, List.getElem?_cons_succ] at h; exact h)]
      have e0 : (spOf s (v, j)).filter (fun o => decide (o.1 = i) && q o) = [] := by
        rw [List.filter_eq_nil_iff]
        intro o ho
        obtain ⟨g, _, rfl⟩ := List.mem_map.mp ho
        rw [decide_eq_false (show ¬ (j = i) from e)]
        simp
      rw [e0, List.nil_append]
theorem spots_word {s : Vahypa.Lst} {i : Nat} {w : Vahypa.Word} (h : s.words[i]? = some w) (q : Nat × Nat → Bool) : ((spotsP s).filter fun o => decide (o.1 = i) && q o) = ((innerP s w.x).filter fun g => q (i, g)).map fun g => (i, g) := by
  rw [spotsP_is]
  exact word_in q s.words 0 (Nat.zero_le _) h
theorem filter_pieces {fam : List Pc} : ∀ {ks : List Nat} {ps : List Pc}, Paired (fun (k : Nat) p => fam[k]? = some p) ks ps → (ks.filterMap fun k => (fam.map patP)[k]?) = ps.map patP
  | _, _, .nil => rfl
  | _, _, .cons h t => by
    rw [List.filterMap_cons, List.getElem?_map, h, List.map_cons, ← filter_pieces t]
    rfl
/-- what is told of a word kept out -/
theorem kept_is {s : Vahypa.Lst} (hs : Read s) {m i : Nat} {w : Vahypa.Word} (hw : s.words[i]? = some w) (h9 : (goalsP (Vahype.without s i)).length ≤ 9) :
    (noLeast (Vahype.without s i) m → Vahype.keptOut s m i = none) ∧ (∀ T, ¬ noLeast (Vahype.without s i) m → LeastT (usP (Vahype.without s i) m) (2 ^ (goalsP (Vahype.without s i)).length - 1) 0 T →
      Vahype.keptOut s m i = some ⟨(triOf s i (T 0).2.2 (spotsP s)).1, (triOf s i (T 0).2.2 (spotsP s)).2.1, (triOf s i (T 0).2.2 (spotsP s)).2.2⟩) := by
  have hz := without_read hs i
  unfold noLeast Vahype.keptOut
  dsimp only
  generalize hzz : Vahype.without s i = z at hz h9 ⊢
  have hn : 2 ^ (goalsP z).length ≤ 512 := Nat.le_trans (Nat.pow_le_pow_right (by decide) h9) (by decide)
  have hpos : 0 < 2 ^ (goalsP z).length := Nat.pow_pos (by decide)
  have hc := slim_is hz m
  have hu : ∀ u ∈ usP z m, u.2 < 2 ^ (goalsP z).length := fun u hu => by
    obtain ⟨p, _, rfl⟩ := List.mem_map.mp hu
    exact mkP_lt z p
  have hlen : (Vahypc.goals z).length = (goalsP z).length := by rw [goals_is hz, List.length_map]
  have hleast : Vahypc.leastOf z (Vahypc.family z m) 0 = ((tabL (Vahypc.slim (Vahypc.candsOf z (Vahypc.family z m))) (goalsP z).length)[0]?).bind id := by
    unfold Vahypc.leastOf tabL
    dsimp only
    rw [hlen, List.head?_eq_getElem?]
  constructor
  · intro ne
    have olt : orP (usP z m) < 2 ^ (goalsP z).length := by
      have go : ∀ (l : List (Pc × Nat)) (t : Nat), (∀ u ∈ l, u.2 < 2 ^ (goalsP z).length) → t < 2 ^ (goalsP z).length → l.foldl (fun t u => t ||| u.2) t < 2 ^ (goalsP z).length := by
        intro l
        induction l with
        | nil => intro t _ h; exact h
        | cons u l ih => intro t h1 h2; exact ih _ (fun v hv => h1 v (.tail _ hv)) (Nat.or_lt_two_pow h2 (h1 u (.head _)))
      exact go _ 0 hu hpos
    obtain ⟨k, k1, _, k3⟩ := low_ex (n := (goalsP z).length) (c := orP (usP z m)) (by omega)
    have no : ∀ u ∈ usP z m, u.2.testBit k = false := fun u hum => by
      cases hb : u.2.testBit k with
      | false => rfl
      | true =>
        have go : ∀ (l : List (Pc × Nat)) (t : Nat), (t.testBit k = true ∨ ∃ u ∈ l, u.2.testBit k = true) → (l.foldl (fun t u => t ||| u.2) t).testBit k = true := by
          intro l
          induction l with
          | nil =>
            intro t h
            rcases h with h | ⟨u, h, _⟩
            · exact h
            · cases h
          | cons v l ih =>
            intro t h
            refine ih _ ?_
            rcases h with h | ⟨u, h, hb⟩
            · exact .inl (by rw [Nat.testBit_or, h, Bool.true_or])
            · rcases List.mem_cons.mp h with e | h
              · exact .inl (by rw [Nat.testBit_or, ← e, hb, Bool.or_true])
              · exact .inr ⟨u, h, hb⟩
        have := go (usP z m) 0 (.inr ⟨u, hum, hb⟩)
        rw [show (usP z m).foldl (fun t u => t ||| u.2) 0 = orP (usP z m) from rfl, k3] at this
        cases this
    rw [hleast, table_none hn k1 hc hu no _ 0 (Nat.le_refl _) hpos (Nat.zero_testBit k)]
    rfl
  · intro T _ L
    obtain ⟨x, h1, h2⟩ := table_is hn hc hu L _ 0 (Nat.le_refl _) hpos
    rw [hleast, h1]
    show (s.words[i]?).map (fun x_1 => Vahypa.scoreWord (Vahypc.withPieces z (Vahypc.family z m) x.ks) x_1) = _
    rw [hw]
    show some (Vahypa.scoreWord (Vahypc.withPieces z (Vahypc.family z m) x.ks) w) = some _
    have hps : ∀ p ∈ (T 0).2.2, PcOk p := fun p hp => by
      obtain ⟨u, hum, rfl⟩ := L.mem hu _ 0 (Nat.le_refl _) (Nat.le_refl _) (Nat.zero_le _) p hp
      obtain ⟨p, hp', rfl⟩ := List.mem_map.mp hum
      exact (fam_small (used_mem hp')).1
    have epat : (Vahypc.withPieces z (Vahypc.family z m) x.ks).pats = (T 0).2.2.map patP := by
      show (x.ks.filterMap fun k => (Vahypc.family z m)[k]?) = _
      rw [family_is hz]
      exact filter_pieces h2.2.2
    rw [score_is hps (hs.word w (List.mem_of_getElem? hw)) epat]
    have ein : innerP (Vahypc.withPieces z (Vahypc.family z m) x.ks) w.x = innerP s w.x := by
      rw [← hzz]
      rfl
    rw [ein]
    have ep : ∀ g, ptP s (T 0).2.2 (i, g) = (T 0).2.2.any fun p => fitsP p w.x g := fun g => by
      unfold ptP
      rw [wordAt_of hw]
    have ey : ∀ g, yesP s (i, g) = w.cuts.contains g := fun g => by
      unfold yesP
      rw [hw]
    unfold triOf
    rw [spots_word hw, spots_word hw, spots_word hw, List.length_map, List.length_map, List.length_map]
    simp only [ep, ey]
end WG
set_option Elab.async false
set_option linter.all false
set_option maxRecDepth 100000
set_option maxHeartbeats 2000000
namespace WG
open PySem PySem.Spec PyProof.Rows L2
open Vahype (Spot spotsOf Doubt)
/-! ### doubts against the specification -/
def dbP (d : Doubt) : DbP := (pr d.a, d.n)
theorem doubt_one {s : Vahypa.Lst} {m : Nat} {a : Spot} (ha : a ∈ spotsOf s) : (Vahype.doubtOf s m a).map dbP = dbtOf s m (pr a) := by
  obtain ⟨w, hw, hy, _⟩ := spot_at ha
  have ey : yesP s (pr a) = a.yes := by
    unfold yesP pr
    dsimp only
    rw [hw, hy]
  unfold Vahype.doubtOf dbtOf
  dsimp only
  rw [evidence_is ha, ey]
  show Option.map dbP (if (if a.yes = true then forT s (othersP s (pr a).1) (pcsAt s m (pr a)) else agT s (othersP s (pr a).1) (pcsAt s m (pr a))) < (if a.yes = true then agT s (othersP s (pr a).1) (pcsAt s m (pr a)) else forT s (othersP s (pr a).1) (pcsAt s m (pr a))) then some (⟨a, (if a.yes = true then agT s (othersP s (pr a).1) (pcsAt s m (pr a)) else forT s (othersP s (pr a).1) (pcsAt s m (pr a))) - (if a.yes = true then forT s (othersP s (pr a).1) (pcsAt s m (pr a)) else agT s (othersP s (pr a).1) (pcsAt s m (pr a)))⟩ : Doubt) else none) = _
  cases a.yes with
  | true =>
    simp only [if_true]
    split <;> rfl
  | false =>
    simp only [Bool.false_eq_true, if_false]
    split <;> rfl
theorem doubts_found (s : Vahypa.Lst) (m : Nat) : ((spotsOf s).filterMap (Vahype.doubtOf s m)).map dbP = (spotsP s).filterMap (dbtOf s m) := by
  have go : ∀ l : List Spot, (∀ a ∈ l, a ∈ spotsOf s) → (l.filterMap (Vahype.doubtOf s m)).map dbP = (l.map pr).filterMap (dbtOf s m) := by
    intro l
    induction l with
    | nil => intro _; rfl
    | cons a l ih =>
      intro h
      have e := doubt_one (s := s) (m := m) (h a (.head _))
      have ih := ih fun b hb => h b (.tail _ hb)
      rw [List.map_cons, List.filterMap_cons, List.filterMap_cons, ← e, ← ih]
      cases Vahype.doubtOf s m a <;> rfl
  exact go _ fun _ h => h
def leD (a b : Doubt) : Bool := decide (b.n ≤ a.n)
theorem leD_total : PySem.W.TotalLe leD := ⟨fun a b c h1 h2 => by
    have := of_decide_eq_true h1
    have := of_decide_eq_true h2
    exact decide_eq_true (by omega), fun a b => by
    rcases Nat.le_total b.n a.n with h | h
    · exact .inl (decide_eq_true h)
    · exact .inr (decide_eq_true h)⟩
theorem doubts_is (s : Vahypa.Lst) (m : Nat) : (Vahype.doubts s m).map dbP = doubtsP s m := by
  have o := doubts_order ((spotsOf s).filterMap (Vahype.doubtOf s m))
  have e : Vahype.doubts s m = ((spotsOf s).filterMap (Vahype.doubtOf s m)).mergeSort leD := by
    refine PySem.W.sort_unique leD_total ?_ fun c => ?_
    · refine List.Pairwise.imp (fun {a b} (h : ltD b a = false) => ?_) o.1
      have := of_decide_eq_false h
      exact decide_eq_true (by omega)
    · have z := o.2.cls c
      have ef : PySem.W.sameRank leD c = SrtO.eqv ltD c := by
        funext x
        unfold PySem.W.sameRank SrtO.eqv leD ltD
        rw [Bool.eq_iff_iff]
        simp only [Bool.and_eq_true, decide_eq_true_eq, Bool.not_eq_true', decide_eq_false_iff_not]
        omega
      rw [ef]
      exact z
  rw [e, PySem.W.sort_maps (r := leD) (s := geD) dbP fun a _ b _ => rfl, doubts_found]
  rfl
end WG
set_option Elab.async false
set_option linter.all false
set_option maxRecDepth 100000
set_option maxHeartbeats 2000000
namespace WG
open PySem PySem.Spec PyProof.Rows L2 RZ
/-! ### zip of a list and a tuple -/
/-- what stands at it goes on over what stands at l: its place, its items -/
structure Cur (P : Program) (w : World) (it l : Addr) (st : Nat → Heap → Prop) (its : Array Value → Heap → Prop) : Prop where
  more : ∀ {A : Around} {E : Value → Shared → Prop} {s : Shared} {i : Nat} {xs : Array Value} {x : Value} {Q : Value → Shared → Prop}, st i s.heap → its xs s.heap → xs[i]? = some x → (∀ h', st (i + 1) h' → Heap.SameBut it s.heap h' → Q x { s with heap := h' }) → wpAny (model P w) A (Builtin.SmallTypes.nextOf (.ref it)) Q E s
  over : ∀ {A : Around} {E : Value → Shared → Prop} {s : Shared} {i : Nat} {xs : Array Value} {Q : Value → Shared → Prop}, A.handled = none → st i s.heap → its xs s.heap → xs[i]? = none → (∀ h' e, Heap.ExtBut it s.heap h' → (∃ o, h'.get? e = some o ∧ o.cls = .type "StopIteration") → E (.ref e) { s with heap := h' }) → wpAny (model P w) A (Builtin.SmallTypes.nextOf (.ref it)) Q E s
  stK : ∀ {i : Nat} {h h' : Heap}, st i h → (∀ o, h.get? it = some o → h'.get? it = some o) → st i h'
  itK : ∀ {xs : Array Value} {h h' : Heap}, its xs h → (∀ o, h.get? l = some o → h'.get? l = some o) → its xs h'
  obj : ∀ {i : Nat} {h : Heap}, st i h → ∃ o, h.get? it = some o ∧ ∀ v, o.data ≠ .cell v
theorem cur_list {P : Program} {w : World} (it l : Addr) : Cur P w it l (fun i h => h.IsListIter it l i) (fun xs h => h.IsList l xs) :=
  ⟨fun a b c d => wpAny_nextOf_list_item a b c d, fun z a b c d => wpAny_nextOf_list_end z a b c d, fun a b => a.at b, fun a b => a.at b, fun ⟨o, a, _, b⟩ => ⟨o, a, fun v q => by rw [b] at q; cases q⟩⟩
theorem cur_tup {P : Program} {w : World} (it l : Addr) : Cur P w it l (fun i h => h.IsTupleIter it l i) (fun xs h => h.IsTuple l xs) :=
  ⟨fun a b c d => nextOf_tuple_item a b c d, fun z a b c d => nextOf_tuple_end z a b c d, fun a b => a.at b, fun a b => a.at b, fun ⟨o, a, _, b⟩ => ⟨o, a, fun v q => by rw [b] at q; cases q⟩⟩
section
variable {P : Program} {w : World} {A : Around} {E : Value → Shared → Prop} {s : Shared} {z TI TO i1 i2 l1 l2 : Addr} {k : Nat} {xs ys : Array Value} {x y a b : Value} {S1 S2 : Nat → Heap → Prop} {I1 I2 : Array Value → Heap → Prop}
/-- a pair more: both are asked in turn, the pair kept inside takes them, a new tuple is made of it -/
theorem zipC_more {Q : Value → Shared → Prop} (C1 : Cur P w i1 l1 S1 I1) (C2 : Cur P w i2 l2 S2 I2) (D : ZipApart z TI TO i1 i2 l1 l2) (hz : IsZip s.heap z TI TO .none) (hTI : IsPair s.heap TI (.ref i1) (.ref i2)) (hTO : IsPair s.heap TO a b)
    (s1 : S1 k s.heap) (s2 : S2 k s.heap) (t1 : I1 xs s.heap) (t2 : I2 ys s.heap) (hx : xs[k]? = some x) (hy : ys[k]? = some y)
    (go : ∀ h', IsZip h' z TI TO (rawInt s.heap.objs.size) → IsPair h' TO x y → S1 (k + 1) h' → S2 (k + 1) h' → IsPair h' s.heap.objs.size x y → (∀ c o, c ≠ z → c ≠ TO → c ≠ i1 → c ≠ i2 → s.heap.get? c = some o → h'.get? c = some o) → Q (.ref s.heap.objs.size) { s with heap := h' }) :
    wpAny (model P w) A (Builtin.«zip.__next__» ⟨[.ref z], []⟩) (fun r s' => ∃ v, r = .done (.ret v) ∧ Q v s') E s := by
  show wpAny _ _ (field (.ref z) 2 >>= _) _ E _
  refine wpAny_bind (wpAny_field hz rfl (x := .bool false) rfl ?_); show wpAny _ _ (field (.ref z) 3 >>= _) _ E _
  refine wpAny_bind (wpAny_field hz rfl (x := .ref TI) rfl ?_); refine wpAny_bind (wpAny_seqItems hTI rfl ?_); show wpAny _ _ (Builtin.SmallTypes.ownedTupleIsFree (.ref z) >>= _) _ E _
  refine wpAny_bind ?_; unfold Builtin.SmallTypes.ownedTupleIsFree
  refine wpAny_bind (wpAny_field hz rfl (x := .none) rfl (wpAny_pure ?_)); simp only [if_true]
  refine wpAny_bind (wpAny_rule ?_); refine wpAny_bind (wpAny_field hz rfl (x := .ref TO) rfl ?_)
  refine wpAny_bind (wpAny_setField_rec hz (by simp) fun ha zA bA => ?_)
  replace zA : IsZip ha z TI TO .ellipsis := zA
  refine wpAny_bind ?_; simp only [List.zipIdx_cons, List.zipIdx_nil, List.forIn_cons, List.forIn_nil]
  have kA : ∀ c o, c ≠ z → s.heap.get? c = some o → ha.get? c = some o := fun c o n e => bA.extBut _ _ n e
  -- the first
  refine wpAny_bind (wpAny_bind (wpAny_onRaise ?_)); show wpAny _ _ (Builtin.SmallTypes.nextOf (.ref i1) >>= _) _ _ _
  refine wpAny_bind (C1.more (C1.stK s1 fun o e => kA _ o D.i1z e) (C1.itK t1 fun o e => kA _ o D.l1z e) hx fun hb s1b bB => wpAny_pure ?_)
  have kB : ∀ c o, c ≠ i1 → ha.get? c = some o → hb.get? c = some o := fun c o n e => bB.extBut _ _ n e
  have oB : IsPair hb TO a b := kB _ _ D.TOi1 (kA _ _ D.TOz hTO)
  refine wpAny_bind (wpAny_seqItems oB rfl ?_); refine wpAny_bind (wpAny_updateSeq_pair oB fun hc oC bC => ?_)
  replace oC : IsPair hc TO x b := oC
  have kC : ∀ c o, c ≠ TO → hb.get? c = some o → hc.get? c = some o := fun c o n e => bC.extBut _ _ n e
  refine wpAny_bind (wpAny_letGo (wpAny_pure ?_))
  -- the second
  refine wpAny_bind (wpAny_bind (wpAny_onRaise ?_)); show wpAny _ _ (Builtin.SmallTypes.nextOf (.ref i2) >>= _) _ _ _
  refine wpAny_bind (C2.more (C2.stK s2 fun o e => kC _ o D.TOi2.symm (kB _ o D.i12.symm (kA _ o D.i2z e))) (C2.itK t2 fun o e => kC _ o D.l2TO (kB _ o D.l2i1 (kA _ o D.l2z e))) hy fun hd s2d bD => wpAny_pure ?_)
  have kD : ∀ c o, c ≠ i2 → hc.get? c = some o → hd.get? c = some o := fun c o n e => bD.extBut _ _ n e
  have oD : IsPair hd TO x b := kD _ _ D.TOi2 oC
  refine wpAny_bind (wpAny_seqItems oD rfl ?_); refine wpAny_bind (wpAny_updateSeq_pair oD fun hf oF bF => ?_)
  replace oF : IsPair hf TO x y := oF
  have kF : ∀ c o, c ≠ TO → hd.get? c = some o → hf.get? c = some o := fun c o n e => bF.extBut _ _ n e
  refine wpAny_bind (wpAny_letGo (wpAny_pure (wpAny_pure ?_))); refine wpAny_bind (wpAny_seqItems oF rfl ?_); refine wpAny_bind (wpAny_newTuple ?_)
  -- what stands
  have size : hf.objs.size = s.heap.objs.size := by rw [bF.1, bD.1, bC.1, bB.1, bA.1]
  have kAF : ∀ c o, c ≠ z → c ≠ TO → c ≠ i1 → c ≠ i2 → s.heap.get? c = some o → hf.get? c = some o := fun c o n1 n2 n3 n4 e => kF _ _ n2 (kD _ _ n4 (kC _ _ n2 (kB _ _ n3 (kA _ _ n1 e))))
  have zF : IsZip hf z TI TO .ellipsis := kF _ _ D.TOz.symm (kD _ _ D.i2z.symm (kC _ _ D.TOz.symm (kB _ _ D.i1z.symm zA)))
  have s1F : S1 (k + 1) hf := C1.stK s1b fun o e => kF _ o D.TOi1.symm (kD _ o D.i12 (kC _ o D.TOi1.symm e))
  have s2F : S2 (k + 1) hf := C2.stK s2d fun o e => kF _ o D.TOi2.symm e
  have zlt : z < hf.objs.size := Heap.lt_size zF
  show wpAny _ _ (Builtin.SmallTypes.ownedTupleHandOut (.ref z) (.ref hf.objs.size) >>= _) _ E _
  refine wpAny_bind ?_; unfold Builtin.SmallTypes.ownedTupleHandOut
  have zG : IsZip (hf.push { cls := .type "tuple", data := .seq #[x, y] }) z TI TO .ellipsis := Heap.get?_push_of_some _ zF
  refine wpAny_bind (wpAny_setField_rec zG (by simp) fun hg zg bg => ?_)
  replace zg : IsZip hg z TI TO (rawInt hf.objs.size) := zg
  refine wpAny_setField_rec zg (by simp) fun hk zk bk => ?_
  replace zk : IsZip hk z TI TO (rawInt hf.objs.size) := zk
  have kK : ∀ c o, c ≠ z → hf.get? c = some o → hk.get? c = some o := fun c o n e => bk.extBut _ _ n (bg.extBut _ _ n (Heap.get?_push_of_some _ e))
  have pK : IsPair hk hf.objs.size x y := bk.extBut _ _ (Nat.ne_of_gt zlt) (bg.extBut _ _ (Nat.ne_of_gt zlt) (Heap.get?_push_size _ rfl))
  rw [size] at zk pK
  refine wpAny_pure ⟨_, rfl, ?_⟩
  have fin := go hk zk (kK _ _ D.TOz oF) (C1.stK s1F fun o e => kK _ o D.i1z e) (C2.stK s2F fun o e => kK _ o D.i2z e) pK fun c o n1 n2 n3 n4 e => kK _ _ n1 (kAF c o n1 n2 n3 n4 e)
  rw [← size] at fin
  exact fin
/-- no pair more -/
theorem zipC_over {Q : Fin → Shared → Prop} (C1 : Cur P w i1 l1 S1 I1) (C2 : Cur P w i2 l2 S2 I2) (hh : A.handled = none) (D : ZipApart z TI TO i1 i2 l1 l2) (hz : IsZip s.heap z TI TO .none) (hTI : IsPair s.heap TI (.ref i1) (.ref i2)) (hTO : IsPair s.heap TO a b)
    (s1 : S1 k s.heap) (s2 : S2 k s.heap) (t1 : I1 xs s.heap) (t2 : I2 ys s.heap) (out : xs[k]? = none ∨ ys[k]? = none)
    (go : ∀ h' e, (∀ c o, c ≠ z → c ≠ TO → c ≠ i1 → c ≠ i2 → s.heap.get? c = some o → h'.get? c = some o) → (∃ o, h'.get? e = some o ∧ o.cls = .type "StopIteration") → E (.ref e) { s with heap := h' }) :
    wpAny (model P w) A (Builtin.«zip.__next__» ⟨[.ref z], []⟩) Q E s := by
  show wpAny _ _ (field (.ref z) 2 >>= _) _ E _
  refine wpAny_bind (wpAny_field hz rfl (x := .bool false) rfl ?_); show wpAny _ _ (field (.ref z) 3 >>= _) _ E _
  refine wpAny_bind (wpAny_field hz rfl (x := .ref TI) rfl ?_); refine wpAny_bind (wpAny_seqItems hTI rfl ?_); show wpAny _ _ (Builtin.SmallTypes.ownedTupleIsFree (.ref z) >>= _) _ E _
  refine wpAny_bind ?_; unfold Builtin.SmallTypes.ownedTupleIsFree
  refine wpAny_bind (wpAny_field hz rfl (x := .none) rfl (wpAny_pure ?_)); simp only [if_true]
  refine wpAny_bind (wpAny_rule ?_); refine wpAny_bind (wpAny_field hz rfl (x := .ref TO) rfl ?_)
  refine wpAny_bind (wpAny_setField_rec hz (by simp) fun ha zA bA => ?_)
  replace zA : IsZip ha z TI TO .ellipsis := zA
  refine wpAny_bind ?_; simp only [List.zipIdx_cons, List.zipIdx_nil, List.forIn_cons, List.forIn_nil]
  have kA : ∀ c o, c ≠ z → s.heap.get? c = some o → ha.get? c = some o := fun c o n e => bA.extBut _ _ n e
  have stopz : ∀ {h : Heap} {e : Addr} {oe : Obj}, IsZip h z TI TO .ellipsis → h.get? e = some oe → oe.cls = .type "StopIteration" → e ≠ z := fun {h e oe} q1 q2 q3 q => by
    subst q
    rw [q1] at q2
    cases q2
    simp at q3
  refine wpAny_bind (wpAny_bind (wpAny_onRaise ?_)); show wpAny _ _ (Builtin.SmallTypes.nextOf (.ref i1) >>= _) _ _ _
  cases hx : xs[k]? with
  | none =>
    refine wpAny_bind (C1.over hh (C1.stK s1 fun o e => kA _ o D.i1z e) (C1.itK t1 fun o e => kA _ o D.l1z e) hx fun hb e bB ⟨oe, g1, g2⟩ => ?_)
    have zB : IsZip hb z TI TO .ellipsis := bB _ _ D.i1z.symm zA
    refine wpAny_setField_rec zB (by simp) fun hc _ bC => go hc e (fun c o n1 _ n3 _ q => bC.extBut _ _ n1 (bB _ _ n3 (kA _ _ n1 q))) ⟨oe, bC.extBut _ _ (stopz zB g1 g2) g1, g2⟩
  | some x =>
    have hy : ys[k]? = none := out.resolve_left (by rw [hx]; intro q; cases q)
    refine wpAny_bind (C1.more (C1.stK s1 fun o e => kA _ o D.i1z e) (C1.itK t1 fun o e => kA _ o D.l1z e) hx fun hb s1b bB => wpAny_pure ?_)
    have kB : ∀ c o, c ≠ i1 → ha.get? c = some o → hb.get? c = some o := fun c o n e => bB.extBut _ _ n e
    have oB : IsPair hb TO a b := kB _ _ D.TOi1 (kA _ _ D.TOz hTO)
    refine wpAny_bind (wpAny_seqItems oB rfl ?_); refine wpAny_bind (wpAny_updateSeq_pair oB fun hc oC bC => ?_)
    have kC : ∀ c o, c ≠ TO → hb.get? c = some o → hc.get? c = some o := fun c o n e => bC.extBut _ _ n e
    refine wpAny_bind (wpAny_letGo (wpAny_pure ?_))
    refine wpAny_bind (wpAny_bind (wpAny_onRaise ?_)); show wpAny _ _ (Builtin.SmallTypes.nextOf (.ref i2) >>= _) _ _ _
    refine wpAny_bind (C2.over hh (C2.stK s2 fun o e => kC _ o D.TOi2.symm (kB _ o D.i12.symm (kA _ o D.i2z e))) (C2.itK t2 fun o e => kC _ o D.l2TO (kB _ o D.l2i1 (kA _ o D.l2z e))) hy fun hd e bD ⟨oe, g1, g2⟩ => ?_)
    have zD : IsZip hd z TI TO .ellipsis := bD _ _ D.i2z.symm (kC _ _ D.TOz.symm (kB _ _ D.i1z.symm zA))
    refine wpAny_setField_rec zD (by simp) fun hf _ bF => go hf e (fun c o n1 n2 n3 n4 q => bF.extBut _ _ n1 (bD _ _ n4 (kC _ _ n2 (kB _ _ n3 (kA _ _ n1 q))))) ⟨oe, bF.extBut _ _ (stopz zD g1 g2) g1, g2⟩
/-- next of it, by the walks above -/
theorem pyNext_more {Q : Option Value → Shared → Prop} (C1 : Cur P w i1 l1 S1 I1) (C2 : Cur P w i2 l2 S2 I2) (D : ZipApart z TI TO i1 i2 l1 l2) (hz : IsZip s.heap z TI TO .none) (hTI : IsPair s.heap TI (.ref i1) (.ref i2)) (hTO : IsPair s.heap TO a b)
    (s1 : S1 k s.heap) (s2 : S2 k s.heap) (t1 : I1 xs s.heap) (t2 : I2 ys s.heap) (hx : xs[k]? = some x) (hy : ys[k]? = some y)
    (go : ∀ h', IsZip h' z TI TO (rawInt s.heap.objs.size) → IsPair h' TO x y → S1 (k + 1) h' → S2 (k + 1) h' → IsPair h' s.heap.objs.size x y → (∀ c o, c ≠ z → c ≠ TO → c ≠ i1 → c ≠ i2 → s.heap.get? c = some o → h'.get? c = some o) → Q (some (.ref s.heap.objs.size)) { s with heap := h' }) :
    wpAny (model P w) A (pyNext (.ref z)) Q E s := by
  have ty : s.TypeIs (.ref z) "zip" := ⟨_, hz, rfl⟩
  unfold pyNext; refine wpAny_bind (wpAny_attempt (wpAny_callSpecial?_slot (name := Str.ofString "__next__") ty F.slot_zip_next ?_))
  refine wpAny_call_entry F.slot_zip_next ty F.entry_zip_next (zipC_more C1 C2 D hz hTI hTO s1 s2 t1 t2 hx hy fun h' a1 a2 a3 a4 a5 a6 => ?_) (F.args_zip_next_1 _)
  exact wpAny_pure (go h' a1 a2 a3 a4 a5 a6)
theorem pyNext_over {Q : Option Value → Shared → Prop} (C1 : Cur P w i1 l1 S1 I1) (C2 : Cur P w i2 l2 S2 I2) (hh : A.handled = none) (D : ZipApart z TI TO i1 i2 l1 l2) (hz : IsZip s.heap z TI TO .none) (hTI : IsPair s.heap TI (.ref i1) (.ref i2)) (hTO : IsPair s.heap TO a b)
    (s1 : S1 k s.heap) (s2 : S2 k s.heap) (t1 : I1 xs s.heap) (t2 : I2 ys s.heap) (out : xs[k]? = none ∨ ys[k]? = none)
    (go : ∀ h', (∀ c o, c ≠ z → c ≠ TO → c ≠ i1 → c ≠ i2 → s.heap.get? c = some o → h'.get? c = some o) → Q none { s with heap := h' }) : wpAny (model P w) A (pyNext (.ref z)) Q E s := by
  have ty : s.TypeIs (.ref z) "zip" := ⟨_, hz, rfl⟩
  unfold pyNext; refine wpAny_bind (wpAny_attempt (wpAny_callSpecial?_slot (name := Str.ofString "__next__") ty F.slot_zip_next ?_))
  refine wpAny_call_entry F.slot_zip_next ty F.entry_zip_next (zipC_over C1 C2 hh D hz hTI hTO s1 s2 t1 t2 out fun h' e a1 ⟨oe, g1, g2⟩ => ?_) (F.args_zip_next_1 _)
  exact wpAny_bind (wpAny_isInstance (T := "StopIteration") (b := true) ⟨oe, g1, g2⟩ isSubtype_stop (wpAny_pure (go _ a1)))
end
/-- the objects that zip makes, one upon the other -/
def zA (h : Heap) (l1 : Addr) : Heap := h.push { cls := .type "list_iterator", data := .fields #[.ref l1, .int 0 0] }
def zB (h : Heap) (l1 l2 : Addr) : Heap := (zA h l1).push { cls := .type "tuple_iterator", data := .fields #[.ref l2, .int 0 0] }
def zC (h : Heap) (l1 l2 : Addr) : Heap := (zB h l1 l2).push { cls := .type "tuple", data := .seq #[.ref h.objs.size, .ref (zA h l1).objs.size] }
def zD (h : Heap) (l1 l2 : Addr) : Heap := (zC h l1 l2).push { cls := .type "tuple", data := .seq #[.none, .none] }
def zE (h : Heap) (l1 l2 : Addr) : Heap := (zD h l1 l2).push { cls := .type "zip", data := .fields #[.none, .bool false, .bool false, .ref (zB h l1 l2).objs.size, .ref (zC h l1 l2).objs.size] }
theorem zip_newLT (l1 l2 : Addr) (xs ys : Array Value) : Meets (Builtin.«zip.__new__» ⟨[.type "zip", .ref l1, .ref l2], []⟩) (fun _ R s => s.heap.IsList l1 xs ∧ s.heap.IsTuple l2 ys ∧ R (.ok (.ret (.ref (zD s.heap l1 l2).objs.size))) { s with heap := zE s.heap l1 l2 }) :=
  .of_wp fun prog w A R s h => by
    obtain ⟨hp, g, d, tk, os⟩ := s
    obtain ⟨q1, q2, h⟩ := h
    have hsub := sub_zip
    have w1 : Heap.IsList (Shared.heap ⟨hp, g, d, tk, os⟩) l1 xs := q1
    have w2 : Heap.IsTuple (Shared.heap ⟨hp.push { cls := .type "list_iterator", data := .fields #[.ref l1, .int 0 0] }, g, d, tk, os⟩) l2 ys := Heap.IsTuple.push q2 _
    wp_walk using wpAny_pyIter_list w1, wpAny_pyIter_tuple w2
    exact ⟨_, rfl, h⟩
theorem call_zipLT {P : Program} {w : World} {A : Around} {E : Value → Shared → Prop} {s : Shared} {l1 l2 : Addr} {xs ys : Array Value} {Q : Value → Shared → Prop} (q1 : s.heap.IsList l1 xs) (q2 : s.heap.IsTuple l2 ys)
    (go : ∀ h', IsZip h' (s.heap.objs.size + 4) (s.heap.objs.size + 2) (s.heap.objs.size + 3) .none → IsPair h' (s.heap.objs.size + 2) (.ref s.heap.objs.size) (.ref (s.heap.objs.size + 1)) → IsPair h' (s.heap.objs.size + 3) .none .none →
      h'.IsListIter s.heap.objs.size l1 0 → h'.IsTupleIter (s.heap.objs.size + 1) l2 0 → (∀ c o, s.heap.get? c = some o → h'.get? c = some o) → Q (.ref (s.heap.objs.size + 4)) { s with heap := h' }) :
    wpAny (model P w) A (call (.type "zip") [.ref l1, .ref l2]) Q E s := by
  refine callType_new F.called_zip (by decide) (F.typeCall_zip_2 _ _) (F.newCall_zip_2 _ _) (fun ob => F.args_object_init_3 ob _ _) F.entry_zip_new (zip_newLT l1 l2 xs ys) ⟨q1, q2, ?_⟩
  have nA : (zA s.heap l1).objs.size = s.heap.objs.size + 1 := Heap.size_push ..
  have nB : (zB s.heap l1 l2).objs.size = s.heap.objs.size + 2 := (Heap.size_push ..).trans (by rw [nA])
  have nC : (zC s.heap l1 l2).objs.size = s.heap.objs.size + 3 := (Heap.size_push ..).trans (by rw [nB])
  have nD : (zD s.heap l1 l2).objs.size = s.heap.objs.size + 4 := (Heap.size_push ..).trans (by rw [nC])
  have up1 : ∀ {c : Addr} {o : Obj}, (zC s.heap l1 l2).get? c = some o → (zE s.heap l1 l2).get? c = some o := fun e => Heap.get?_push_of_some _ (Heap.get?_push_of_some _ e)
  have up2 : ∀ {c : Addr} {o : Obj}, (zA s.heap l1).get? c = some o → (zE s.heap l1 l2).get? c = some o := fun e => up1 (Heap.get?_push_of_some _ (Heap.get?_push_of_some _ e))
  have gE : (zE s.heap l1 l2).get? (zD s.heap l1 l2).objs.size = some { cls := .type "zip", data := .fields #[.none, .bool false, .bool false, .ref (zB s.heap l1 l2).objs.size, .ref (zC s.heap l1 l2).objs.size] } := Heap.get?_push_size _ rfl
  have gD : (zE s.heap l1 l2).get? (zC s.heap l1 l2).objs.size = some { cls := .type "tuple", data := .seq #[.none, .none] } := Heap.get?_push_of_some _ (Heap.get?_push_size _ rfl)
  have gC : (zE s.heap l1 l2).get? (zB s.heap l1 l2).objs.size = some { cls := .type "tuple", data := .seq #[.ref s.heap.objs.size, .ref (zA s.heap l1).objs.size] } := up1 (Heap.get?_push_size _ rfl)
  have gB : (zE s.heap l1 l2).get? (zA s.heap l1).objs.size = some { cls := .type "tuple_iterator", data := .fields #[.ref l2, .int 0 0] } := up1 (Heap.get?_push_of_some _ (Heap.get?_push_size _ rfl))
  have gA : (zE s.heap l1 l2).get? s.heap.objs.size = some { cls := .type "list_iterator", data := .fields #[.ref l1, .int 0 0] } := up2 (Heap.get?_push_size _ rfl)
  show _ ∧ _
  rw [nB, nC, nD] at gE
  rw [nA, nB] at gC
  rw [nC] at gD
  rw [nA] at gB
  rw [nD]
  exact ⟨⟨_, gE, rfl⟩, go _ gE gC gD ⟨_, gA, rfl, rfl⟩ ⟨_, gB, rfl, rfl⟩ fun c o e => up2 (Heap.get?_push_of_some _ e)⟩
/-- the pairs of the list at a and the tuple at b -/
def ItzLT (K : PySem.W.Frag) (a b : Addr) (xs ys : List V) : It :=
  ⟨fun i H => SqL K H a xs ∧ SqT K H b ys ∧ i < xs.length, fun i H v H' => ∃ T x y, xs[i]? = some x ∧ ys[i]? = some y ∧ v = .ref T ∧ H T = none ∧ H' = upd H T (.tup [x, y]), fun i H => SqL K H a xs ∧ SqT K H b ys ∧ xs.length ≤ i⟩
theorem turn_zipLT {P : Program} {w : World} {K : PySem.W.Frag} {elts : List Expr} {kk : Nat} {tpos : Pos} {a b z TI TO i1 i2 : Addr} {xs ys : List V} (D : ZipApart z TI TO i1 i2 a b) (hl : xs.length = ys.length) :
    Turn P w K (.Tuple elts kk tpos) (ItzLT K a b xs ys) [z, TI, TO, i1, i2] z (fun i h => IsZip h z TI TO .none ∧ IsPair h TI (.ref i1) (.ref i2) ∧ (∃ x y, IsPair h TO x y) ∧ h.IsListIter i1 a i ∧ h.IsTupleIter i2 b i) := by
  have five : ∀ {c : Addr}, c ∈ [z, TI, TO, i1, i2] → c = z ∨ c = TI ∨ c = TO ∨ c = i1 ∨ c = i2 := fun q => by simpa using q
  have C1 : Cur P w i1 a (fun i h => h.IsListIter i1 a i) (fun xs h => h.IsList a xs) := cur_list i1 a
  have C2 : Cur P w i2 b (fun i h => h.IsTupleIter i2 b i) (fun xs h => h.IsTuple b xs) := cur_tup i2 b
  refine ⟨by simp, fun i h ⟨g1, g2, ⟨x, y, g3⟩, g4, g5⟩ c hc => ?_, fun i h h' ⟨g1, g2, ⟨x, y, g3⟩, g4, g5⟩ k => ?_, ?_, ?_, fun A i s Q E g q => wpAny_pyIter_zip g.1 q⟩
  · rcases five hc with rfl | rfl | rfl | rfl | rfl
    · exact ⟨_, g1, fun v q => nomatch q⟩
    · exact ⟨_, g2, fun v q => nomatch q⟩
    · exact ⟨_, g3, fun v q => nomatch q⟩
    · exact C1.obj g4
    · exact C2.obj g5
  · exact ⟨k z (by simp) _ g1, k TI (by simp) _ g2, ⟨x, y, k TO (by simp) _ g3⟩, g4.at fun o q => k i1 (by simp) o q, g5.at fun o q => k i2 (by simp) o q⟩
  · intro X hP hw hK hc i pins s σ H E I free ⟨g1, g2, ⟨x0, y0, g3⟩, g4, g5⟩ ⟨qx, qy, hi⟩
    subst hP hw hK
    obtain ⟨its, rv, p, _⟩ := I.list qx
    obtain ⟨its2, rv2, p2, _⟩ := I.tuple qy
    have hx : xs[i]? = some xs[i] := List.getElem?_eq_getElem hi
    have hy : ys[i]? = some ys[i] := List.getElem?_eq_getElem (hl ▸ hi)
    obtain ⟨u, hu, ru⟩ := rv.get hx
    obtain ⟨u2, hu2, ru2⟩ := rv2.get hy
    have zlt : z < s.heap.objs.size := Heap.lt_size g1
    refine pyNext_more C1 C2 D g1 g2 g3 g4 g5 p.isList p2 (x := u) (y := u2) (by simpa using hu) (by simpa using hu2) fun h' m1 m2 m3 m4 m5 m6 => ?_
    refine ⟨_, rfl, wpAny_letOwnedTupleGo_zip (s := { s with heap := h' }) m1 fun h2 n1 sb => ?_⟩
    have n5 : h2.get? s.heap.objs.size = some { cls := .type "tuple", data := .seq #[u, u2] } := (sb.2 _ (Nat.ne_of_gt zlt)).trans m5
    have made : ObjOk X.prog X.w (upd H s.heap.objs.size (.tup [xs[i], ys[i]])) h2 s.heap.objs.size (.tup [xs[i], ys[i]]) := ⟨by show 2 ≤ sizeLine; decide, [u, u2], .cons ru (.cons ru2 .nil), ⟨_, n5, rfl, _, rfl⟩⟩
    have out : ∀ {c : Addr}, c ∉ [z, TI, TO, i1, i2] → c ≠ z ∧ c ≠ TI ∧ c ≠ TO ∧ c ≠ i1 ∧ c ≠ i2 := fun q => ⟨fun e => q (by simp [e]), fun e => q (by simp [e]), fun e => q (by simp [e]), fun e => q (by simp [e]), fun e => q (by simp [e])⟩
    have I1 : Inv X pins σ (upd H s.heap.objs.size (.tup [xs[i], ys[i]])) { s with heap := h2 } :=
      I.turnedNew (t' := s.toks) (ch := [z, TI, TO, i1, i2]) (fun c o hb q => (sb.2 c (out hb).1).trans (m6 c o (out hb).1 (out hb).2.2.1 (out hb).2.2.2.1 (out hb).2.2.2.2 q)) free (Nat.le_refl _) made
    have keep2 : ∀ {c : Addr} {o : Obj}, c ≠ z → h'.get? c = some o → h2.get? c = some o := fun n e => (sb.2 _ n).trans e
    refine ⟨.ref s.heap.objs.size, _, I1, rfl, ⟨_, _, _, hx, hy, rfl, I.hok.fresh (Nat.le_refl _), rfl⟩, ⟨n1, keep2 D.TIz (m6 _ _ D.TIz D.TITO D.TIi1 D.TIi2 g2), ⟨u, u2, keep2 D.TOz m2⟩, m3.at fun o q => keep2 D.i1z q, m4.at fun o q => keep2 D.i2z q⟩, fun c hcm => ?_⟩
    have hlt : c < s.heap.objs.size := by
      obtain ⟨o1, w1, _⟩ := id g4
      obtain ⟨o2, w2, _⟩ := id g5
      rcases five hcm with rfl | rfl | rfl | rfl | rfl <;> first | exact zlt | exact Heap.lt_size g2 | exact Heap.lt_size g3 | exact Heap.lt_size w1 | exact Heap.lt_size w2
    exact (upd_ne (Nat.ne_of_lt hlt)).trans (free c hcm).1
  · intro X hP hw hK hc i pins s σ H E I free ⟨g1, g2, ⟨x0, y0, g3⟩, g4, g5⟩ ⟨qx, qy, hi⟩
    subst hP hw hK
    obtain ⟨its, rv, p, _⟩ := I.list qx
    obtain ⟨its2, rv2, p2, _⟩ := I.tuple qy
    have len := rv.length
    have he : its.toArray[i]? = none := by simp; omega
    refine pyNext_over C1 C2 (I.ok.hd hc) D g1 g2 g3 g4 g5 p.isList p2 (.inl he) fun h' m => ⟨rfl, ?_⟩
    exact I.turnedL (t' := s.toks) (ch := [z, TI, TO, i1, i2]) (fun c o hb q => m c o (fun e => hb (by simp [e])) (fun e => hb (by simp [e])) (fun e => hb (by simp [e])) (fun e => hb (by simp [e])) q) free
def iZipLT (K : PySem.W.Frag) (ta : TA) : TI := fun σ H R => ta σ H fun vs H1 => ∃ a b xs ys, vs = [.ref a, .ref b] ∧ SqL K H1 a xs ∧ SqT K H1 b ys ∧ xs.length = ys.length ∧ R (ItzLT K a b xs ys) H1
theorem pi_zipLT {X : Cx} {e e2 : Expr} {ta : TA} {p pos tpos : Pos} {elts : List Expr} {kk : Nat} (hg : Gl X "zip") (hm : X.mg "zip" = none) (ha : PA X [e, e2] ta)
    (hs : starEach [e, e2] X.env = (false, eval e X.env) :: starEach [e2] X.env := by rfl) (hpl : (backTo pos (starEach [e2] X.env)).any (·.1) = false := by rfl) : PI X (.Tuple elts kk tpos) (.Call (.Name "zip" p) [e, e2] [] pos) (iZipLT X.K ta) := by
  refine ⟨fun pins s σ H R I h => Call_ (ld_blt I hg hm PyProof.Rows.boot_zip (PyProof.Rows.callWith_type1 (thn (ha.run pos pins s σ H _ I h) fun us s1 ⟨vs, H1, I1, r1, a, b, xs, ys, ex, qx, qy, hl, q⟩ => ?_) hs hpl))⟩
  subst ex
  obtain ⟨u1, u2, rfl, rfl, rfl⟩ : ∃ u1 u2, u1 = Value.ref a ∧ u2 = Value.ref b ∧ us = [u1, u2] := by
    cases r1 with
    | cons r rr => cases rr with
      | cons r' rr => cases rr; cases r; cases r'; exact ⟨_, _, rfl, rfl, rfl⟩
  obtain ⟨its, rv, p1, _⟩ := I1.list qx
  obtain ⟨its2, rv2, p2, _⟩ := I1.tuple qy
  obtain ⟨o2, w2, _⟩ := id p2
  have new : ∀ c, c ∈ [s1.heap.objs.size + 4, s1.heap.objs.size + 2, s1.heap.objs.size + 3, s1.heap.objs.size, s1.heap.objs.size + 1] → FpOk X pins H1 c := fun c hcm => by
    have hle : s1.heap.objs.size ≤ c := by
      have five : c = s1.heap.objs.size + 4 ∨ c = s1.heap.objs.size + 2 ∨ c = s1.heap.objs.size + 3 ∨ c = s1.heap.objs.size ∨ c = s1.heap.objs.size + 1 := by simpa using hcm
      rcases five with q | q | q | q | q <;> (rw [q]; first | exact Nat.le_add_right _ _ | exact Nat.le_refl _)
    exact I1.fpOk hle (I1.hok.fresh hle)
  refine call_zipLT p1.isList (show s1.heap.IsTuple b its2.toArray from p2) fun h' m1 m2 m3 m4 m5 m6 => wpAny_pyIter_zip m1 ?_
  exact ⟨s1.heap.objs.size + 4, _, _, _, H1, rfl, I1.kept (t' := s1.toks) m6, turn_zipLT (PySem.W.ktu_apart s1.heap.objs.size a b p1.lt (Heap.lt_size w2)) hl, ⟨m1, m2, ⟨_, _, m3⟩, m4, m5⟩, new, q⟩
theorem walk_zipLT {K : PySem.W.Frag} {a b : Addr} {xs ys : List V} : Walk (ItzLT K a b xs ys) xs.length (fun H => SqL K H a xs ∧ SqT K H b ys) (fun i H v H' => ∃ T x y, xs[i]? = some x ∧ ys[i]? = some y ∧ v = .ref T ∧ H T = none ∧ H' = upd H T (.tup [x, y])) :=
  ⟨fun i _ hi q => ⟨q.1, q.2, hi⟩, fun _ q => ⟨q.1, q.2, Nat.le_refl _⟩, fun _ _ _ _ _ _ y => y⟩
end WG
set_option Elab.async false
set_option linter.all false
set_option maxRecDepth 100000
set_option maxHeartbeats 2000000
namespace WG
open PySem PySem.Spec PyProof.Rows L2
open LamX (TabB Tabs TabS ExtN)
/-! ### keep_out_each -/
/-- a new list of numbers is told, where the tables may have grown -/
def OutT (D : Ads) (H : Hp) (Q : VK) (l : List Int) : Prop := ∀ H' r, ExtN H H' → Tabs (tabsT D) H' → Fresh H r → H' r = some (.lst (l.map V.int)) → Q (.ref r) H'
theorem OutT.on {D : Ads} {H H1 : Hp} {Q : VK} {l : List Int} (k : OutT D H Q l) (e : ExtN H H1) : OutT D H1 Q l := fun H' r e2 t hr h => k H' r (e.trans e2) t (extN_fresh e hr) h
theorem OutT.now {D : Ads} {H : Hp} {Q : VK} {l : List Int} {vs : List V} (k : OutT D H Q l) (t : Tabs (tabsT D) H) (e : l.map V.int = vs) : ∀ p, H p = none → Q (.ref p) (upd H p (.lst vs)) := fun p hp =>
  k _ p (extN_same (same_upd hp)) (tabs_same t (same_upd hp)) (Fresh.of hp) (by rw [upd_same, e])
def accP (s : Vahypa.Lst) (m j : Nat) : List Vahypa.Score := ((List.range j).map (Vahype.keptOut s m)).filterMap id
theorem acc_none {s : Vahypa.Lst} {m j : Nat} (h : Vahype.keptOut s m j = none) : accP s m (j + 1) = accP s m j := by
  unfold accP
  rw [List.range_succ, List.map_append, List.filterMap_append, List.map_singleton, h]
  simp
theorem acc_some {s : Vahypa.Lst} {m j : Nat} {c : Vahypa.Score} (h : Vahype.keptOut s m j = some c) : accP s m (j + 1) = accP s m j ++ [c] := by
  unfold accP
  rw [List.range_succ, List.map_append, List.filterMap_append, List.map_singleton, h]
  simp
def sumP (l : List Vahypa.Score) : Vahypa.Score := l.foldl Vahypa.addScore ⟨0, 0, 0⟩
theorem sum_snoc (l : List Vahypa.Score) (c : Vahypa.Score) : sumP (l ++ [c]) = Vahypa.addScore (sumP l) c := by
  unfold sumP
  rw [List.foldl_append]
  rfl
def scV (c : Vahypa.Score) : List V := [.int (c.hits : Nat), .int (c.faults : Nat), .int (c.misses : Nat)]
def cleanN (l : List Vahypa.Score) : Nat := (l.filter Vahype.clean).length
theorem clean_snoc (l : List Vahypa.Score) (c : Vahypa.Score) : cleanN (l ++ [c]) = cleanN l + if Vahype.clean c = true then 1 else 0 := by
  unfold cleanN
  rw [List.filter_append, List.length_append, List.filter_cons, List.filter_nil]
  split <;> rfl
/-- fewer goals without a word -/
theorem goals_less {s : Vahypa.Lst} (hs : Read s) (i : Nat) : (goalsP (Vahype.without s i)).length ≤ (goalsP s).length := by
  have e : ∀ z, Read z → (goalsP z).length = ((z.words.map fun w => (w.cuts.filter (Vahypa.within z w.x)).length)).sum := fun z hz => by
    have h1 : (goalsP z).length = (Vahypc.goals z).length := by rw [goals_is hz, List.length_map]
    rw [h1]
    unfold Vahypc.goals
    have go : ∀ (ws : List Vahypa.Word) (j : Nat), ((ws.zipIdx j).flatMap fun w => (w.1.cuts.filter (Vahypa.within z w.1.x)).map fun g => (⟨w.2, g⟩ : Vahypc.Goal)).length = (ws.map fun w => (w.cuts.filter (Vahypa.within z w.x)).length).sum := by
      intro ws
      induction ws with
      | nil => intro j; rfl
      | cons v ws ih =>
        intro j
        rw [List.zipIdx_cons, List.flatMap_cons, List.length_append, ih, List.length_map, List.map_cons, List.sum_cons]
    exact go z.words 0
  rw [e _ hs, e _ (without_read hs i)]
  show ((s.words.eraseIdx i).map fun w => (w.cuts.filter (Vahypa.within s w.x)).length).sum ≤ _
  generalize (fun w : Vahypa.Word => (w.cuts.filter (Vahypa.within s w.x)).length) = f
  have go : ∀ (ws : List Vahypa.Word) (i : Nat), ((ws.eraseIdx i).map f).sum ≤ (ws.map f).sum := by
    intro ws
    induction ws with
    | nil => intro i; exact Nat.le_refl _
    | cons v ws ih =>
      intro i
      cases i with
      | zero =>
        rw [List.eraseIdx_cons_zero, List.map_cons, List.sum_cons]
        omega
      | succ i =>
        have := ih i
        rw [List.eraseIdx_cons_succ, List.map_cons, List.map_cons, List.sum_cons, List.sum_cons]
        omega
  exact go s.words i
abbrev s_keep_out_each : Stmt := top 60
abbrev N_keep_out_each : List Str := ["wordlist", "length", "exact", "told", "total", "number", "held", "have", "more"]
theorem sc_keep_out_each : FnScope N_keep_out_each ["wordlist", "length"] (defScope s_keep_out_each) := ⟨rfl, rfl, rfl, by decide +kernel, rfl, by decide +kernel, by decide +kernel⟩
def sp_keep_out_each (D : Ads) : Sp := fun vs H Q _ => ∃ a s m, vs = [.ref a, .int (m : Nat)] ∧ ListAt D H a s ∧ Read s ∧ m ≤ 3 ∧ (goalsP s).length ≤ 9 ∧ Tabs (tabsT D) H ∧ OutT D H Q (VahypeNeutral.encode (Vahype.crossAnswer s m))
section
variable {P : Program} {w : World} {K : PySem.W.Frag} {mg : Str → Option Value} {base : Heap} {D : Ads}
theorem df_keep_out_each {f : Addr} {fd : FuncData} (F : At K mg "keep_out_each" s_keep_out_each ["wordlist", "length"] f fd) (T : Txt K mg D) (c_keep_out : Df P w K mg base CX0 6 "keep_out" ["wordlist", "number", "length"] (sp_keep_out D)) :
    Df P w K mg base CX0 7 "keep_out_each" ["wordlist", "length"] (sp_keep_out_each D) := by
  refine df0 (N := N_keep_out_each) F sc_keep_out_each (fun vs H Q E h => ?_) (fun cdv A outer s H vs Q E hr h => ⟨_, (pss_cons (ps_set (i := 2) sc_keep_out_each.nd rfl (Or.inl rfl) pe_int)
(pss_cons (ps_set (i := 3) sc_keep_out_each.nd rfl (Or.inl rfl) pe_int)
(pss_cons (ps_set (i := 4) sc_keep_out_each.nd rfl (Or.inl rfl) (pe_lst (pa_cons pe_int (pa_cons pe_int (pa_cons pe_int pa_nil)))))
(pss_cons (ps_for PassesOwn.never rfl (pi_range1 rfl T.n_range (pa_cons (pe_callB call_len_seq (by rfl) T.n_len (by decide +kernel) (pa_cons (pe_fld (pv 0) rfl) pa_nil)) pa_nil)) (pg_name (i := 5) sc_keep_out_each.nd rfl (Or.inl rfl))
(pss_cons (ps_set (i := 6) sc_keep_out_each.nd rfl (Or.inl rfl) (pe_d0 c_keep_out hr (by decide) rfl (pa_cons (pv 0) (pa_cons (pv 5) (pa_cons (pv 1) pa_nil)))))
(pss_one (ps_if (pt_cmpR op_notN (pv 6) pe_non (nomark _))
(pss_cons (ps_aug (i := 3) sc_keep_out_each.nd rfl (Or.inl rfl) pe_int ip_add)
(C8.pss_cut (ps_if (PW.pt (pw_and (pt_cmpR op_eq (pe_ix ix_tup (pv 6) pe_int (fun _ _ => rfl)) pe_int (nomark _)) (pw_and1 (pt_cmpR op_eq (pe_ix ix_tup (pv 6) pe_int (fun _ _ => rfl)) pe_int (nomark _)))))
(pss_one (ps_aug (i := 2) sc_keep_out_each.nd rfl (Or.inl rfl) pe_int ip_add))
pss_nil)
(pss_one (ps_setLc (i := 4) (own := [("have", 7), ("more", 8)]) (g := gTup K 2 (gCons (gName 7) (gCons (gName 8) gNil))) (te := tOp (rI0 fun i j => .int (i + j)) (tVar 7) (tVar 8)) rfl sc_keep_out_each.nd rfl rfl (sw_true rfl rfl rfl (by decide +kernel)) (pi_zipLT rfl T.n_zip (pa_cons (pv 4) (pa_cons (pv 6) pa_nil))) (blkOk_by (own := [("have", 7), ("more", 8)]) (N := N_keep_out_each) (sc := defScope s_keep_out_each) (by decide +kernel)) (fun _ _ _ _ _ => (pg_tup rfl (pgs_cons (pg_name (i := 7) sc_keep_out_each.nd rfl (Or.inl rfl)) (pgs_cons (pg_name (i := 8) sc_keep_out_each.nd rfl (Or.inl rfl)) pgs_nil)))) (fun _ _ _ _ _ => pts_nil) (fun _ _ _ _ _ => (pe_op op_add (pv 7) (pv 8)))))))
pss_nil))))
(pss_one (ps_ret (pe_op op_cat (pe_lst (pa_cons (pv 2) (pa_cons (pv 3) pa_nil))) (pv 4)))))))), ?_⟩)
  · obtain ⟨a, s, m, rfl, _⟩ := h
    rfl
  · obtain ⟨a, s, m, rfl, hL, hR, hm, h9, hT, k⟩ := h
    -- total = [0, 0, 0]
    refine ⟨by show 3 ≤ sizeLine; decide, fun t0 ht0 => ?_⟩
    have e0 : Same H (upd H t0 (.lst [.int 0, .int 0, .int 0])) := same_upd ht0
    have hL0 := hL.same e0
    obtain ⟨dx, wl, pl, h1, ⟨ws, h2, h2p⟩, h3⟩ := id hL0
    have wlen := h2p.length
    have w24 := hR.fine.nw
    -- for number in range(len(wordlist.words))
    refine ⟨_, rfl, a, D.cL, dx, _, _, rfl, h1, T.kL, T.lW, fL_words _ _ _ _, wl, _, rfl, .inl (SqL.of h2), _, rfl, by rw [List.length_map]; omega, by rw [List.length_map]; omega, ?_⟩
    rw [Int.toNat_natCast]
    refine for_it (walk_range (lo := 0) (n := (ws.map V.ref).length)) (fun i σ H' => ∃ tl v5 v6 v7 v8, σ = [some (.ref a), some (.int (m : Nat)), some (.int (cleanN (accP s m i) : Nat)), some (.int ((accP s m i).length : Nat)), some (.ref tl), v5, v6, v7, v8] ∧ ExtN H H' ∧ Tabs (tabsT D) H' ∧ H' tl = some (.lst (scV (sumP (accP s m i))))) ?_ ?_ ?_ ?_
    · exact ⟨t0, none, none, none, none, rfl, extN_same e0, tabs_same hT e0, upd_same⟩
    · intro _ _ _ _ _; trivial
    · rintro i x σ H1 H2 hi ⟨tl, v5, v6, v7, v8, rfl, e1, hT1, htl⟩ ⟨rfl, rfl⟩
      have ei : (0 + (i : Int)) = ((i : Nat) : Int) := Int.zero_add _
      dsimp only
      rw [ei]
      rw [List.length_map] at hi
      have hi2 : i < s.words.length := by omega
      obtain ⟨wo, hwo⟩ : ∃ wo, s.words[i]? = some wo := ⟨_, List.getElem?_eq_getElem hi2⟩
      have h9i : (goalsP (Vahype.without s i)).length ≤ 9 := Nat.le_trans (goals_less hR i) h9
      obtain ⟨kN, kS⟩ := kept_is hR (m := m) hwo h9i
      -- held = keep_out(wordlist, number, length)
      refine ⟨_, rfl, _, rfl, _, rfl, a, s, i, m, rfl, hL.ext e1, hR.fine, hm, hi2, h9i, hT1, fun H3 e3 hT3 => ⟨fun hno => ?_, fun hyes t Tt LT ht => ?_⟩⟩
      · have ek := kN hno
        refine ⟨_, rfl, rfl, _, rfl, iteF' rfl ?_⟩
        refine ⟨tl, some (.int (i : Nat)), some .non, v7, v8, ?_, e1.trans e3, hT3, ?_⟩
        · rw [acc_none ek]
          rfl
        · rw [acc_none ek]
          exact e3 _ _ htl lst_tbl
      · have ek := kS Tt hyes LT
        generalize hc : (⟨(triOf s i (Tt 0).2.2 (spotsP s)).1, (triOf s i (Tt 0).2.2 (spotsP s)).2.1, (triOf s i (Tt 0).2.2 (spotsP s)).2.2⟩ : Vahypa.Score) = c at ek
        have ht' : H3 t = some (.tup (scV c)) := by rw [← hc]; exact ht
        refine ⟨_, rfl, rfl, _, rfl, iteT' rfl ?_⟩
        -- told += 1
        refine ⟨_, rfl, _, _, rfl, rfl, ?_⟩
        refine ⟨fun σ H' => σ = [some (.ref a), some (.int (m : Nat)), some (.int (cleanN (accP s m (i + 1)) : Nat)), some (.int ((accP s m (i + 1)).length : Nat)), some (.ref tl), some (.int (i : Nat)), some (.ref t), v7, v8] ∧ H3 = H', ?_, ?_⟩
        · have el : ((accP s m i).length : Int) + 1 = (((accP s m (i + 1)).length : Nat) : Int) := by
            rw [acc_some ek, List.length_append, List.length_singleton]
            rfl
          have ecl : cleanN (accP s m (i + 1)) = cleanN (accP s m i) + if Vahype.clean c = true then 1 else 0 := by rw [acc_some ek, clean_snoc]
          refine ⟨_, rfl, t, _, 1, _, rfl, rfl, SqT.of ht', rfl, rfl, _, rfl, ?_⟩
          have d0 : ∀ n : Nat, decide (V.int (n : Nat) = V.int 0) = (n == 0) := fun n => by
            rw [Bool.eq_iff_iff]
            simp only [decide_eq_true_eq, int_iff, beq_iff_eq]
            omega
          dsimp only
          rw [d0, el]
          cases hf : c.faults == 0 with
          | false =>
            have ncl : ¬ Vahype.clean c = true := by unfold Vahype.clean; rw [hf]; simp
            rw [if_neg ncl] at ecl
            refine iteF (iteF ⟨?_, rfl⟩)
            rw [ecl]
            rfl
          | true =>
            refine iteT ⟨_, rfl, t, _, 2, _, rfl, rfl, SqT.of ht', rfl, rfl, _, rfl, ?_⟩
            rw [d0]
            cases hmm : c.misses == 0 with
            | false =>
              have ncl : ¬ Vahype.clean c = true := by unfold Vahype.clean; rw [hf, hmm]; simp
              rw [if_neg ncl] at ecl
              refine iteF ⟨?_, rfl⟩
              rw [ecl]
              rfl
            | true =>
              have ncl : Vahype.clean c = true := by unfold Vahype.clean; rw [hf, hmm]; rfl
              rw [if_pos ncl] at ecl
              refine iteT ⟨_, rfl, _, _, rfl, rfl, ?_, rfl⟩
              rw [ecl]
              rfl
        · rintro σ _ ⟨rfl, rfl⟩
          have htl3 := e3 _ _ htl lst_tbl
          -- total = [..]
          refine ⟨_, rfl, _, rfl, tl, t, _, _, rfl, SqL.of htl3, SqT.of ht', rfl, fun O hO => ?_⟩
          have eO : Same H3 (upd H3 O (.lst [])) := same_upd hO
          have three : ∀ (n : Nat) (x y : V), (scV (sumP (accP s m i)))[n]? = some x → (scV c)[n]? = some y → ∃ u v : Int, x = .int u ∧ y = .int v ∧ (scV (Vahypa.addScore (sumP (accP s m i)) c))[n]? = some (.int (u + v)) := by
            unfold scV Vahypa.addScore
            rintro (_ | _ | _ | n) x y q1 q2
            · cases q1; cases q2; exact ⟨_, _, rfl, rfl, by simp⟩
            · cases q1; cases q2; exact ⟨_, _, rfl, rfl, by simp⟩
            · cases q1; cases q2; exact ⟨_, _, rfl, rfl, by simp⟩
            · cases q1
          refine lc_it walk_zipLT (fun n H' => Same H3 H' ∧ H' O = some (.lst ((scV (Vahypa.addScore (sumP (accP s m i)) c)).take n))) ⟨eO, upd_same⟩ ?_ ?_ ?_
          · rintro n H' _ ⟨e4, _⟩
            exact ⟨SqL.of (e4 _ _ htl3), SqT.of (e4 _ _ ht')⟩
          · rintro n x H4 H5 hn ⟨e4, hb⟩ ⟨T0, x0, y0, hx, hy, rfl, nT, rfl⟩
            obtain ⟨u, v, rfl, rfl, hs⟩ := three n _ _ hx hy
            have eT : Same H4 (upd H4 T0 (.tup [.int u, .int v])) := same_upd nT
            refine ⟨T0, _, rfl, SqT.of upd_same, rfl, _, _, rfl, _, _, rfl, rfl, ?_⟩
            refine ⟨rfl, _, rfl, _, rfl, _, _, rfl, rfl, _, eT _ _ hb, ?_, fun b w hbw => ?_, ?_⟩
            · rw [List.length_take]
              exact Nat.lt_of_le_of_lt (Nat.min_le_right _ _) (by show 3 < sizeLine; decide)
            · rw [upd_ne (ne_of_none hbw hO)]
              exact (e4.trans eT) _ _ hbw
            · rw [upd_same, take_more hs]
          · rintro H4 ⟨e4, hb⟩
            refine ⟨O, some (.int (i : Nat)), some (.ref t), v7, v8, rfl, (e1.trans e3).trans (extN_same e4), tabs_same hT3 e4, ?_⟩
            rw [acc_some ek, sum_snoc, hb]
            rfl
    · rintro σ H1 ⟨tl, v5, v6, v7, v8, rfl, e1, hT1, htl⟩
      rw [List.length_map, wlen] at htl ⊢
      refine ⟨_, rfl, _, rfl, by show 2 ≤ sizeLine; decide, fun p hp => ?_⟩
      have ep : Same H1 (upd H1 p (.lst [.int (cleanN (accP s m s.words.length) : Nat), .int ((accP s m s.words.length).length : Nat)])) := same_upd hp
      refine ⟨_, rfl, p, tl, _, _, rfl, rfl, upd_same, ep _ _ htl, by show 2 + 3 ≤ sizeLine; decide, (k.on (e1.trans (extN_same ep))).now (tabs_same hT1 ep) ?_⟩
      rfl
end
end WG
set_option Elab.async false
set_option linter.all false
set_option maxRecDepth 100000
set_option maxHeartbeats 2000000
namespace WG
open PySem PySem.Spec PyProof.Rows L2
open LamX (TabB Tabs TabS ExtN)
/-! ### answer_doubts -/
theorem chain_lt {σ : L2.St} {H : Hp} {lo hi v : Int} {tb tc : TE} {R : Bool → Hp → Prop} (hb : ∀ Q : VK, Q (.int v) H → tb σ H Q) (hc : ∀ Q : VK, Q (.int hi) H → tc σ H Q) (h : R (decide (lo ≤ v ∧ v < hi)) H) :
    tTest (tChain (rI0 fun i j => .bl (decide (i ≤ j))) (rI0 fun i j => .bl (decide (i < j))) (tC (.int lo)) tb tc) σ H R := by
  refine hb _ ⟨_, _, rfl, rfl, _, rfl, ?_⟩
  by_cases z : lo ≤ v
  · rw [decide_eq_true z]
    refine iteT (hc _ ⟨_, _, rfl, rfl, _, rfl, ?_⟩)
    rw [show decide (lo ≤ v ∧ v < hi) = decide (v < hi) by simp [z]] at h
    exact h
  · rw [decide_eq_false z]
    refine iteF ⟨_, rfl, ?_⟩
    rw [decide_eq_false (fun q => z q.1)] at h
    exact h
def rowD (d : DbP) : List Int := [(d.1.1 : Int), (d.1.2 : Int), (d.2 : Int)]
theorem ans_doubts {s : Vahypa.Lst} {m : Int} (h : 1 ≤ m ∧ m ≤ 3) : ansOf s (.doubts m) = if 10 < s.words.length then [-6] else ((doubtsP s m.toNat).length : Int) :: (doubtsP s m.toNat).flatMap rowD := by
  unfold ansOf Vahype.looked
  dsimp only
  rw [len_in h]
  show VahypeNeutral.encode (if 10 < s.words.length then VahypBase.one (-6) else ⟨((Vahype.doubts s m.toNat).length : Int), (Vahype.doubts s m.toNat).flatMap fun d => Vahype.spotRow d.a ++ VahypBase.nats [d.n]⟩) = _
  split
  · rfl
  · rw [← doubts_is, List.length_map, List.flatMap_map]
    rfl
abbrev s_answer_doubts : Stmt := top 80
abbrev N_answer_doubts : List Str := ["wordlist", "m", "doubts", "answer", "spot", "more"]
theorem sc_answer_doubts : FnScope N_answer_doubts ["wordlist", "m"] (defScope s_answer_doubts) := ⟨rfl, rfl, rfl, by decide +kernel, rfl, by decide +kernel, by decide +kernel⟩
def sp_answer_doubts (D : Ads) : Sp := fun vs H Q _ => ∃ a s m, vs = [.ref a, .int m] ∧ ListAt D H a s ∧ Read s ∧ Tabs (tabsT D) H ∧ OutT D H Q (ansOf s (.doubts m))
section
variable {P : Program} {w : World} {K : PySem.W.Frag} {mg : Str → Option Value} {base : Heap} {D : Ads}
theorem df_answer_doubts {f : Addr} {fd : FuncData} (F : At K mg "answer_doubts" s_answer_doubts ["wordlist", "m"] f fd) (T : Txt K mg D) (c_find_doubts : Df P w K mg base CX0 4 "find_doubts" ["wordlist", "length"] (sp_find_doubts D)) :
    Df P w K mg base CX0 5 "answer_doubts" ["wordlist", "m"] (sp_answer_doubts D) := by
  refine df0 (N := N_answer_doubts) F sc_answer_doubts (fun vs H Q E h => ?_) (fun cdv A outer s H vs Q E hr h => ⟨_, (pss_cons (ps_if (pt_not (pt_chain op_le op_le pe_int (pv 1) pe_int))
(pss_one (ps_ret (pe_lst (pa_cons (pe_un un_neg pe_int) pa_nil))))
pss_nil)
(pss_cons (ps_if (pt_cmpR op_gt (pe_callB call_len_seq (by rfl) T.n_len (by decide +kernel) (pa_cons (pe_fld (pv 0) rfl) pa_nil)) (C8.pe_gc rfl T.c_MOST_WORDS_TO_DOUBT) (nomark _))
(pss_one (ps_ret (pe_lst (pa_cons (pe_un un_neg pe_int) pa_nil))))
pss_nil)
(pss_cons (ps_set (i := 2) sc_answer_doubts.nd rfl (Or.inl rfl) (pe_d0 c_find_doubts hr (by decide) rfl (pa_cons (pv 0) (pa_cons (pv 1) pa_nil))))
(pss_cons (ps_set (i := 3) sc_answer_doubts.nd rfl (Or.inl rfl) (pe_lst (pa_cons (pe_callB call_len_seq (by rfl) T.n_len (by decide +kernel) (pa_cons (pv 2) pa_nil)) pa_nil)))
(pss_cons (ps_for PassesOwn.never rfl (pi_list (pv 2)) (pg_tup rfl (pgs_cons (pg_name (i := 4) sc_answer_doubts.nd rfl (Or.inl rfl)) (pgs_cons (pg_name (i := 5) sc_answer_doubts.nd rfl (Or.inl rfl)) pgs_nil)))
(pss_one (ps_expr (pe_bm PySem.F.plainAttrs_list PySem.F.slot_list_extend PySem.F.type_list_extend mt_extend (pv 3) (pa_cons (pe_lst (pa_cons (pe_ix ix_tup (pv 4) pe_int (fun _ _ => rfl)) (pa_cons (pe_ix ix_tup (pv 4) pe_int (fun _ _ => rfl)) (pa_cons (pv 5) pa_nil)))) pa_nil)))))
(pss_one (ps_ret (pv 3)))))))), ?_⟩)
  · obtain ⟨a, s, m, rfl, _⟩ := h
    rfl
  · obtain ⟨a, s, m, rfl, hL, hR, hT, k⟩ := h
    by_cases ok : 1 ≤ m ∧ m ≤ 3
    · rw [ans_doubts ok] at k
      refine chain_le (fun _ h => ⟨_, rfl, h⟩) ?_
      refine iteF' (by rw [decide_eq_true ok]; rfl) ?_
      obtain ⟨n, rfl⟩ : ∃ n : Nat, m = (n : Int) := ⟨m.toNat, by omega⟩
      rw [Int.toNat_natCast] at k
      obtain ⟨dx, wl, ppl, h1, ⟨ws, h2, h2p⟩, h3⟩ := id hL
      have wlen : (ws.map V.ref).length = s.words.length := by rw [List.length_map, h2p.length]
      refine ⟨_, rfl, a, D.cL, dx, _, _, rfl, h1, T.kL, T.lW, fL_words _ _ _ _, wl, _, rfl, .inl (SqL.of h2), _, _, rfl, rfl, _, rfl, ?_⟩
      rw [wlen]
      by_cases few : 10 < s.words.length
      · refine iteT' (decide_eq_true (by omega)) ?_
        rw [if_pos few] at k
        exact ⟨_, rfl, by show 1 ≤ sizeLine; decide, k.now hT rfl⟩
      · refine iteF' (decide_eq_false (by omega)) ?_
        rw [if_neg few] at k
        -- doubts = find_doubts(wordlist, m)
        refine ⟨_, rfl, _, rfl, a, s, n, rfl, hL, hR.fine, by omega, hT, fun H1 l e1 hT1 _ ⟨as, hl, has⟩ => ?_⟩
        have dlen : (doubtsP s n).length ≤ 360 := by
          unfold doubtsP
          rw [List.length_mergeSort]
          exact Nat.le_trans (List.length_filterMap_le _ _) (spots_len hR.fine)
        -- answer = [len(doubts)]
        refine ⟨_, rfl, l, _, rfl, .inl (SqL.of hl), by show 1 ≤ sizeLine; decide, fun r hr1 => ?_⟩
        have e2 : Same H1 (upd H1 r (.lst [.int (as.map V.ref).length])) := same_upd hr1
        have nr : ∀ {b : Addr} {o : HO}, H1 b = some o → b ≠ r := fun hb => ne_of_none hb hr1
        refine ⟨_, rfl, l, rfl, ⟨_, SqL.of (e2 _ _ hl)⟩, ?_⟩
        have frow : ∀ (L : List DbP), (L.flatMap rowD).length = 3 * L.length := fun L => by
          induction L with
          | nil => rfl
          | cons d L ih => rw [List.flatMap_cons, List.length_append, ih, List.length_cons]; show 3 + _ = _; omega
        refine for_it (walk_list (K := K) (a := l) (xs := as.map V.ref)) (fun i σ H' => ∃ v4 v5, σ = [some (.ref a), some (.int (n : Nat)), some (.ref l), some (.ref r), v4, v5] ∧ Same H1 H' ∧ H' r = some (.lst ((((doubtsP s n).length : Int) :: ((doubtsP s n).take i).flatMap rowD).map V.int))) ?_ ?_ ?_ ?_
        · refine ⟨none, none, rfl, e2, ?_⟩
          rw [upd_same, List.length_map, has.length]
          rfl
        · rintro i σ H' _ ⟨_, _, _, e, _⟩
          exact SqL.of (e _ _ hl)
        · rintro i x σ H2 H3 hi ⟨v4, v5, rfl, e, hr2⟩ ⟨rfl, hx⟩
          obtain ⟨t, ht, rfl⟩ := refs_get hx
          obtain ⟨d, hd, b, k1, k2⟩ := pget has ht
          have k1 := e _ _ k1
          have k2 : PairAt H3 b d.1 := e _ _ k2
          refine ⟨t, _, rfl, SqT.of k1, rfl, _, _, rfl, _, _, rfl, rfl, ?_⟩
          refine ⟨_, rfl, .inl ⟨rfl, _, SqL.of hr2⟩, _, rfl, b, _, 0, _, rfl, rfl, SqT.of k2, rfl, _, rfl, b, _, 1, _, rfl, rfl, SqT.of k2, rfl, _, rfl, by show 3 ≤ sizeLine; decide, fun q hq => ?_⟩
          have nrq : r ≠ q := ne_of_none hr2 hq
          refine ⟨r, q, _, _, rfl, rfl, (upd_ne nrq).trans hr2, upd_same, ?_, some (.ref b), some (.int (d.2 : Nat)), rfl, fun c o hc => ?_, ?_⟩
          · rw [List.length_map, List.length_cons, frow, List.length_take]
            exact Nat.le_trans (by show _ + 3 ≤ 2000; omega) (by decide)
          · rw [upd_ne (nr hc), upd_ne (ne_of_none (e _ _ hc) hq)]
            exact e _ _ hc
          · rw [upd_same, take_more hd, List.flatMap_append, List.map_cons, List.map_cons, List.map_append]
            rfl
        · rintro σ H2 ⟨v4, v5, rfl, e, hr2⟩
          rw [List.length_map, has.length, List.take_length] at hr2
          exact ⟨_, rfl, k H2 r (e1.trans (extN_same e)) (tabs_same hT1 e) (extN_fresh e1 (Fresh.of hr1)) hr2⟩
    · unfold ansOf Vahype.looked at k
      dsimp only at k
      rw [len_out ok] at k
      refine chain_le (fun _ h => ⟨_, rfl, h⟩) ?_
      refine iteT' (by rw [decide_eq_false ok]; rfl) ?_
      exact ⟨_, rfl, by show 1 ≤ sizeLine; decide, k.now hT rfl⟩
/-! ### answer_keptout -/
theorem ans_kept {s : Vahypa.Lst} {m i : Int} (h : 1 ≤ m ∧ m ≤ 3) : ansOf s (.keptOut m i) = if 0 ≤ i ∧ i < (s.words.length : Int) then (if 9 < (Vahypc.goals (Vahype.without s i.toNat)).length then [-6] else match Vahype.keptOut s m.toNat i.toNat with
    | none => [0]
    | some c => [1, (c.hits : Int), (c.faults : Int), (c.misses : Int)]) else [-2] := by
  unfold ansOf Vahype.looked
  dsimp only
  rw [len_in h]
  unfold VahypBase.index
  by_cases c : 0 ≤ i ∧ i < (s.words.length : Int)
  · rw [if_pos c, if_pos c]
    dsimp only
    unfold Vahype.tooMany Vahypc.COUNT
    simp only [decide_eq_true_eq]
    split
    · rfl
    · cases Vahype.keptOut s m.toNat i.toNat <;> rfl
  · rw [if_neg c, if_neg c]
    rfl
abbrev s_answer_keptout : Stmt := top 81
abbrev N_answer_keptout : List Str := ["wordlist", "m", "i", "held"]
theorem sc_answer_keptout : FnScope N_answer_keptout ["wordlist", "m", "i"] (defScope s_answer_keptout) := ⟨rfl, rfl, rfl, by decide +kernel, rfl, by decide +kernel, by decide +kernel⟩
def sp_answer_keptout (D : Ads) : Sp := fun vs H Q _ => ∃ a s m i, vs = [.ref a, .int m, .int i] ∧ ListAt D H a s ∧ Read s ∧ Tabs (tabsT D) H ∧ OutT D H Q (ansOf s (.keptOut m i))
theorem df_answer_keptout {f : Addr} {fd : FuncData} (F : At K mg "answer_keptout" s_answer_keptout ["wordlist", "m", "i"] f fd) (T : Txt K mg D) (c_find_goals : Df P w K mg base CX0 2 "find_goals" ["wordlist"] (sp_find_goals D))
    (c_leave_word_out : Df P w K mg base CX0 3 "leave_word_out" ["wordlist", "number"] (sp_leave_word_out D)) (c_keep_out : Df P w K mg base CX0 6 "keep_out" ["wordlist", "number", "length"] (sp_keep_out D)) :
    Df P w K mg base CX0 7 "answer_keptout" ["wordlist", "m", "i"] (sp_answer_keptout D) := by
  refine df0 (N := N_answer_keptout) F sc_answer_keptout (fun vs H Q E h => ?_) (fun cdv A outer s H vs Q E hr h => ⟨_, (pss_cons (ps_if (pt_not (pt_chain op_le op_le pe_int (pv 1) pe_int))
(pss_one (ps_ret (pe_lst (pa_cons (pe_un un_neg pe_int) pa_nil))))
pss_nil)
(pss_cons (ps_if (pt_not (pt_chain op_le op_lt pe_int (pv 2) (pe_callB call_len_seq (by rfl) T.n_len (by decide +kernel) (pa_cons (pe_fld (pv 0) rfl) pa_nil))))
(pss_one (ps_ret (pe_lst (pa_cons (pe_un un_neg pe_int) pa_nil))))
pss_nil)
(pss_cons (ps_if (pt_cmpR op_gt (pe_callB call_len_seq (by rfl) T.n_len (by decide +kernel) (pa_cons (pe_d0 c_find_goals hr (by decide) rfl (pa_cons (pe_d0 c_leave_word_out hr (by decide) rfl (pa_cons (pv 0) (pa_cons (pv 2) pa_nil))) pa_nil)) pa_nil)) (C8.pe_gc rfl T.c_MOST_GOALS) (nomark _))
(pss_one (ps_ret (pe_lst (pa_cons (pe_un un_neg pe_int) pa_nil))))
pss_nil)
(pss_cons (ps_set (i := 3) sc_answer_keptout.nd rfl (Or.inl rfl) (pe_d0 c_keep_out hr (by decide) rfl (pa_cons (pv 0) (pa_cons (pv 2) (pa_cons (pv 1) pa_nil)))))
(pss_cons (ps_if (pt_cmpR op_isN (pv 3) pe_non (nomark _))
(pss_one (ps_ret (pe_lst (pa_cons pe_int pa_nil))))
pss_nil)
(pss_one (ps_ret (pe_op op_cat (pe_lst (pa_cons pe_int pa_nil)) (pe_callTy call_list_of (by rfl) T.n_list (by decide +kernel) (pa_cons (pv 3) pa_nil)))))))))), ?_⟩)
  · obtain ⟨a, s, m, i, rfl, _⟩ := h
    rfl
  · obtain ⟨a, s, m, i, rfl, hL, hR, hT, k⟩ := h
    by_cases ok : 1 ≤ m ∧ m ≤ 3
    · rw [ans_kept ok] at k
      refine chain_le (fun _ h => ⟨_, rfl, h⟩) ?_
      refine iteF' (by rw [decide_eq_true ok]; rfl) ?_
      obtain ⟨n, rfl⟩ : ∃ n : Nat, m = (n : Int) := ⟨m.toNat, by omega⟩
      rw [Int.toNat_natCast] at k
      obtain ⟨dx, wl, ppl, h1, ⟨ws, h2, h2p⟩, h3⟩ := id hL
      have wlen : (ws.map V.ref).length = s.words.length := by rw [List.length_map, h2p.length]
      -- if not 0 <= i < len(wordlist.words)
      dsimp only [tNext, tSeq, tIfS, tNot]
      refine chain_lt (hi := (s.words.length : Nat)) (fun _ h => ⟨_, rfl, h⟩) (fun _ h => ⟨_, rfl, a, D.cL, dx, _, _, rfl, h1, T.kL, T.lW, fL_words _ _ _ _, wl, _, rfl, .inl (SqL.of h2), by rw [wlen]; exact h⟩) ?_
      by_cases hi : 0 ≤ i ∧ i < (s.words.length : Int)
      · rw [if_pos hi] at k
        refine iteF' (by rw [decide_eq_true hi]; rfl) ?_
        obtain ⟨j, rfl⟩ : ∃ j : Nat, i = (j : Int) := ⟨i.toNat, by omega⟩
        rw [Int.toNat_natCast] at k
        have hj : j < s.words.length := by omega
        have hz := without_read hR j
        -- if len(find_goals(leave_word_out(wordlist, i))) > MOST_GOALS
        refine ⟨_, rfl, _, rfl, a, s, j, rfl, hL, hR.fine, fun H1 x e1 hx => ⟨x, _, rfl, hx, hz.fine, fun H2 g e2 ng ⟨gs, hg, hgs⟩ => ?_⟩⟩
        have glen : (gs.map V.ref).length = (Vahypc.goals (Vahype.without s j)).length := by rw [goals_is hz, List.length_map, List.length_map, hgs.length]
        have e12 := e1.trans e2
        refine ⟨g, _, rfl, .inl (SqL.of hg), _, _, rfl, rfl, _, rfl, ?_⟩
        rw [glen]
        by_cases few : 9 < (Vahypc.goals (Vahype.without s j)).length
        · refine iteT' (decide_eq_true (by omega)) ?_
          rw [if_pos few] at k
          exact ⟨_, rfl, by show 1 ≤ sizeLine; decide, (k.on (extN_same e12)).now (tabs_same hT e12) rfl⟩
        · refine iteF' (decide_eq_false (by omega)) ?_
          rw [if_neg few] at k
          have h9 : (goalsP (Vahype.without s j)).length ≤ 9 := by
            rw [goals_is hz, List.length_map] at few
            omega
          obtain ⟨wo, hwo⟩ : ∃ wo, s.words[j]? = some wo := ⟨_, List.getElem?_eq_getElem hj⟩
          obtain ⟨kN, kS⟩ := kept_is hR (m := n) hwo h9
          refine ⟨_, rfl, _, rfl, _, rfl, a, s, j, n, rfl, hL.same e12, hR.fine, by omega, hj, h9, tabs_same hT e12, fun H3 e3 hT3 => ⟨fun hno => ?_, fun hyes t Tt LT ht => ?_⟩⟩
          · rw [kN hno] at k
            refine ⟨_, rfl, rfl, _, rfl, iteT' (decide_eq_true rfl) ?_⟩
            exact ⟨by show 1 ≤ sizeLine; decide, (k.on ((extN_same e12).trans e3)).now hT3 rfl⟩
          · rw [kS Tt hyes LT] at k
            have ht' : H3 t = some (.tup [.int ((triOf s j (Tt 0).2.2 (spotsP s)).1 : Nat), .int ((triOf s j (Tt 0).2.2 (spotsP s)).2.1 : Nat), .int ((triOf s j (Tt 0).2.2 (spotsP s)).2.2 : Nat)]) := ht
            refine ⟨_, rfl, rfl, _, rfl, iteF' (decide_eq_false (fun z => by cases z)) ?_⟩
            refine ⟨by show 1 ≤ sizeLine; decide, fun u hu => ?_⟩
            have eu : Same H3 (upd H3 u (.lst [.int 1])) := same_upd hu
            refine ⟨_, rfl, t, _, rfl, .inr (SqT.of (eu _ _ ht')), fun v hv => ?_⟩
            have ev : Same (upd H3 u (.lst [.int 1])) (upd (upd H3 u (.lst [.int 1])) v (.lst [.int ((triOf s j (Tt 0).2.2 (spotsP s)).1 : Nat), .int ((triOf s j (Tt 0).2.2 (spotsP s)).2.1 : Nat), .int ((triOf s j (Tt 0).2.2 (spotsP s)).2.2 : Nat)])) := same_upd hv
            exact ⟨u, v, _, _, rfl, rfl, ev _ _ upd_same, upd_same, by show 1 + 3 ≤ sizeLine; decide, (k.on (((extN_same e12).trans e3).trans (extN_same (eu.trans ev)))).now (tabs_same hT3 (eu.trans ev)) rfl⟩
      · rw [if_neg hi] at k
        refine iteT' (by rw [decide_eq_false hi]; rfl) ?_
        exact ⟨_, rfl, by show 1 ≤ sizeLine; decide, k.now hT rfl⟩
    · unfold ansOf Vahype.looked at k
      dsimp only at k
      rw [len_out ok] at k
      refine chain_le (fun _ h => ⟨_, rfl, h⟩) ?_
      refine iteT' (by rw [decide_eq_false ok]; rfl) ?_
      exact ⟨_, rfl, by show 1 ≤ sizeLine; decide, k.now hT rfl⟩
/-! ### answer_cross -/
theorem ans_cross {s : Vahypa.Lst} {m : Int} (h : 1 ≤ m ∧ m ≤ 3) : ansOf s (.cross m) = if 6 < s.words.length then [-6] else if 9 < (Vahypc.goals s).length then [-6] else VahypeNeutral.encode (Vahype.crossAnswer s m.toNat) := by
  unfold ansOf Vahype.looked
  dsimp only
  rw [len_in h]
  unfold Vahype.tooMany Vahypc.COUNT Vahype.FEWER
  simp only [decide_eq_true_eq]
  split
  · rfl
  · split <;> rfl
abbrev s_answer_cross : Stmt := top 82
abbrev N_answer_cross : List Str := ["wordlist", "m"]
theorem sc_answer_cross : FnScope N_answer_cross ["wordlist", "m"] (defScope s_answer_cross) := ⟨rfl, rfl, rfl, by decide +kernel, rfl, by decide +kernel, by decide +kernel⟩
def sp_answer_cross (D : Ads) : Sp := fun vs H Q _ => ∃ a s m, vs = [.ref a, .int m] ∧ ListAt D H a s ∧ Read s ∧ Tabs (tabsT D) H ∧ OutT D H Q (ansOf s (.cross m))
theorem df_answer_cross {f : Addr} {fd : FuncData} (F : At K mg "answer_cross" s_answer_cross ["wordlist", "m"] f fd) (T : Txt K mg D) (c_find_goals : Df P w K mg base CX0 2 "find_goals" ["wordlist"] (sp_find_goals D))
    (c_keep_out_each : Df P w K mg base CX0 7 "keep_out_each" ["wordlist", "length"] (sp_keep_out_each D)) : Df P w K mg base CX0 8 "answer_cross" ["wordlist", "m"] (sp_answer_cross D) := by
  refine df0 (N := N_answer_cross) F sc_answer_cross (fun vs H Q E h => ?_) (fun cdv A outer s H vs Q E hr h => ⟨_, (pss_cons (ps_if (pt_not (pt_chain op_le op_le pe_int (pv 1) pe_int))
(pss_one (ps_ret (pe_lst (pa_cons (pe_un un_neg pe_int) pa_nil))))
pss_nil)
(pss_cons (ps_if (PW.pt (pw_or (pt_cmpR op_gt (pe_callB call_len_seq (by rfl) T.n_len (by decide +kernel) (pa_cons (pe_fld (pv 0) rfl) pa_nil)) (C8.pe_gc rfl T.c_MOST_WORDS_TO_CROSS) (nomark _)) (pw_or1 (pt_cmpR op_gt (pe_callB call_len_seq (by rfl) T.n_len (by decide +kernel) (pa_cons (pe_d0 c_find_goals hr (by decide) rfl (pa_cons (pv 0) pa_nil)) pa_nil)) (C8.pe_gc rfl T.c_MOST_GOALS) (nomark _)))))
(pss_one (ps_ret (pe_lst (pa_cons (pe_un un_neg pe_int) pa_nil))))
pss_nil)
(pss_one (ps_ret (pe_d0 c_keep_out_each hr (by decide) rfl (pa_cons (pv 0) (pa_cons (pv 1) pa_nil))))))), ?_⟩)
  · obtain ⟨a, s, m, rfl, _⟩ := h
    rfl
  · obtain ⟨a, s, m, rfl, hL, hR, hT, k⟩ := h
    by_cases ok : 1 ≤ m ∧ m ≤ 3
    · rw [ans_cross ok] at k
      refine chain_le (fun _ h => ⟨_, rfl, h⟩) ?_
      refine iteF' (by rw [decide_eq_true ok]; rfl) ?_
      obtain ⟨n, rfl⟩ : ∃ n : Nat, m = (n : Int) := ⟨m.toNat, by omega⟩
      rw [Int.toNat_natCast] at k
      obtain ⟨dx, wl, ppl, h1, ⟨ws, h2, h2p⟩, h3⟩ := id hL
      have wlen : (ws.map V.ref).length = s.words.length := by rw [List.length_map, h2p.length]
      refine ⟨_, rfl, a, D.cL, dx, _, _, rfl, h1, T.kL, T.lW, fL_words _ _ _ _, wl, _, rfl, .inl (SqL.of h2), _, _, rfl, rfl, _, rfl, ?_⟩
      rw [wlen]
      by_cases few : 6 < s.words.length
      · refine iteT' (decide_eq_true (by omega)) ?_
        refine iteT ?_
        rw [if_pos few] at k
        exact ⟨_, rfl, by show 1 ≤ sizeLine; decide, k.now hT rfl⟩
      · refine iteF' (decide_eq_false (by omega)) ?_
        rw [if_neg few] at k
        refine ⟨_, rfl, a, s, rfl, hL, hR.fine, fun H2 g e2 ng ⟨gs, hg, hgs⟩ => ?_⟩
        have glen : (gs.map V.ref).length = (Vahypc.goals s).length := by rw [goals_is hR, List.length_map, List.length_map, hgs.length]
        refine ⟨g, _, rfl, .inl (SqL.of hg), _, _, rfl, rfl, _, rfl, ?_⟩
        rw [glen]
        by_cases many : 9 < (Vahypc.goals s).length
        · refine iteT' (decide_eq_true (by omega)) ?_
          rw [if_pos many] at k
          exact ⟨_, rfl, by show 1 ≤ sizeLine; decide, (k.on (extN_same e2)).now (tabs_same hT e2) rfl⟩
        · refine iteF' (decide_eq_false (by omega)) ?_
          rw [if_neg many] at k
          have h9 : (goalsP s).length ≤ 9 := by
            rw [goals_is hR, List.length_map] at many
            omega
          exact ⟨_, rfl, _, rfl, a, s, n, rfl, hL.same e2, hR, by omega, h9, tabs_same hT e2, k.on (extN_same e2)⟩
    · unfold ansOf Vahype.looked at k
      dsimp only at k
      rw [len_out ok] at k
      refine chain_le (fun _ h => ⟨_, rfl, h⟩) ?_
      refine iteT' (by rw [decide_eq_false ok]; rfl) ?_
      exact ⟨_, rfl, by show 1 ≤ sizeLine; decide, k.now hT rfl⟩
end
end WG
set_option Elab.async false
set_option linter.all false
set_option maxRecDepth 100000
set_option maxHeartbeats 2000000
namespace WG
open PySem PySem.Spec PyProof.Rows L2
open VahypBase (Bytes Fault)
/-! ### Holder -/
def fH (v : V) : List (Str × V) := [("held", v)]
theorem fH_held (v : V) : (fH v).lookup ("held" : Str) = some v := lk_here
theorem fH_load (v : V) : (fH v).lookup ("load" : Str) = none := (lk_past (by decide +kernel)).trans rfl
theorem fH_put (u v : V) : putF "held" v (fH u) = fH v := put_here
/-! a list none of whose own lists stands where Z says -/
def WordZ (C : Addr) (Z : Addr → Prop) (H : Hp) (a : Addr) (w : Vahypa.Word) : Prop := ∃ dx bl, H a = some (.ins C dx (fW w.x bl)) ∧ H bl = some (.lst (nv w.cuts)) ∧ ¬ Z bl
def ListZ (D : Ads) (Z : Addr → Prop) (H : Hp) (a : Addr) (s : Vahypa.Lst) : Prop := ∃ dx wl pl, H a = some (.ins D.cL dx (fL s.l s.r wl pl)) ∧ RefsAt (WordZ D.cW Z) H wl s.words ∧ RefsAt PatAt H pl s.pats ∧ ¬ Z wl ∧ ¬ Z pl
theorem ListZ.at {D : Ads} {Z : Addr → Prop} {H : Hp} {a : Addr} {s : Vahypa.Lst} (h : ListZ D Z H a s) : ListAt D H a s := by
  obtain ⟨dx, wl, pl, h1, ⟨ws, h2, h2p⟩, h3, _⟩ := h
  exact ⟨dx, wl, pl, h1, ⟨ws, h2, Paired.mapP h2p fun x w z => by obtain ⟨dz, bl, z1, z2, _⟩ := z; exact ⟨dz, bl, z1, z2⟩⟩, h3⟩
theorem ListNew.z {D : Ads} {Z : Addr → Prop} {H0 H : Hp} {a : Addr} {s : Vahypa.Lst} (hz : ∀ b, Z b → H0 b ≠ none) (h : ListNew D H0 H a s) : ListZ D Z H a s := by
  obtain ⟨dx, wl, pl, h1, ⟨ws, h2, h2p⟩, h3, n1, n2⟩ := h
  exact ⟨dx, wl, pl, h1, ⟨ws, h2, Paired.mapP h2p fun x w z => by obtain ⟨dz, bl, z1, z2, z3⟩ := z; exact ⟨dz, bl, z1, z2, fun q => hz _ q z3⟩⟩, h3, fun q => hz _ q n1, fun q => hz _ q n2⟩
/-- where a write spares lists of Z, and all that isn't a list -/
theorem ListZ.on {D : Ads} {Z : Addr → Prop} {H H' : Hp} {a : Addr} {s : Vahypa.Lst} (h : ListZ D Z H a s) (k1 : ∀ b dx fs, (H b = some (.ins D.cL dx fs) → H' b = some (.ins D.cL dx fs)) ∧ (H b = some (.ins D.cW dx fs) → H' b = some (.ins D.cW dx fs)))
    (k2 : ∀ b xs, ¬ Z b → H b = some (.lst xs) → H' b = some (.lst xs)) (k3 : ∀ b xs, H b = some (.tup xs) → H' b = some (.tup xs)) : ListZ D Z H' a s := by
  obtain ⟨dx, wl, pl, h1, ⟨ws, h2, h2p⟩, ⟨ps, h3, h3p⟩, n1, n2⟩ := h
  refine ⟨dx, wl, pl, (k1 _ _ _).1 h1, ⟨ws, k2 _ _ n1 h2, Paired.mapP h2p fun x w z => ?_⟩, ⟨ps, k2 _ _ n2 h3, Paired.mapP h3p fun x p z => k3 _ _ z⟩, n1, n2⟩
  obtain ⟨dz, bl, z1, z2, z3⟩ := z
  exact ⟨dz, bl, (k1 _ _ _).2 z1, k2 _ _ z3 z2, z3⟩
theorem ListZ.same {D : Ads} {Z : Addr → Prop} {H H' : Hp} {a : Addr} {s : Vahypa.Lst} (e : Same H H') (h : ListZ D Z H a s) : ListZ D Z H' a s := h.on (fun _ _ _ => ⟨e _ _, e _ _⟩) (fun _ _ _ => e _ _) fun _ _ => e _ _
theorem ListZ.put {D : Ads} {Z : Addr → Prop} {H : Hp} {a t : Addr} {s : Vahypa.Lst} {xs : List V} {o : HO} (h : ListZ D Z H a s) (ht : H t = some (.lst xs)) (hz : Z t) : ListZ D Z (upd H t o) a s :=
  h.on (fun b dx fs => ⟨fun q => (upd_ne fun z => by rw [z, ht] at q; cases q).trans q, fun q => (upd_ne fun z => by rw [z, ht] at q; cases q).trans q⟩) (fun b xs n q => (upd_ne fun z => n (by rw [z]; exact hz)).trans q) fun b xs q => (upd_ne fun z => by rw [z, ht] at q; cases q).trans q
/-- the holder at a holds o -/
def HolderAt (D : Ads) (Z : Addr → Prop) (H : Hp) (a : Addr) (o : Vahype.Obj) : Prop := ∃ dx v, H a = some (.ins D.cH dx (fH v)) ∧ match o with
  | none => v = .non
  | some s => ∃ b, v = .ref b ∧ ListZ D Z H b s ∧ Read s
theorem HolderAt.same {D : Ads} {Z : Addr → Prop} {H H' : Hp} {a : Addr} {o : Vahype.Obj} (e : Same H H') (h : HolderAt D Z H a o) : HolderAt D Z H' a o := by
  obtain ⟨dx, v, h1, h2⟩ := h
  refine ⟨dx, v, e _ _ h1, ?_⟩
  cases o with
  | none => exact h2
  | some s =>
    obtain ⟨b, q1, q2, q3⟩ := h2
    exact ⟨b, q1, q2.same e, q3⟩
theorem HolderAt.put {D : Ads} {Z : Addr → Prop} {H : Hp} {a t : Addr} {o : Vahype.Obj} {xs : List V} {u : HO} (h : HolderAt D Z H a o) (ht : H t = some (.lst xs)) (hz : Z t) : HolderAt D Z (upd H t u) a o := by
  obtain ⟨dx, v, h1, h2⟩ := h
  refine ⟨dx, v, (upd_ne fun z => by rw [z, ht] at h1; cases h1).trans h1, ?_⟩
  cases o with
  | none => exact h2
  | some s =>
    obtain ⟨b, q1, q2, q3⟩ := h2
    exact ⟨b, q1, q2.put ht hz, q3⟩
abbrev s_Holder_init : Stmt := inClass (top 73) 0
abbrev N_Holder_init : List Str := ["self"]
theorem sc_Holder_init : FnScope N_Holder_init ["self"] (defScope s_Holder_init) := ⟨rfl, rfl, rfl, by decide +kernel, rfl, by decide +kernel, by decide +kernel⟩
def sp_Holder_init (C : Addr) : Sp := fun vs H Q _ => ∃ (a dx : Addr), vs = [.ref a] ∧ H a = some (.ins C dx []) ∧ ∀ H', H' a = some (.ins C dx (fH .non)) → (∀ b, b ≠ a → H' b = H b) → Q .non H'
abbrev s_Holder_load : Stmt := inClass (top 73) 1
abbrev N_Holder_load : List Str := ["self", "text", "loaded", "fault"]
theorem sc_Holder_load : FnScope N_Holder_load ["self", "text"] (defScope s_Holder_load) := ⟨rfl, rfl, rfl, by decide +kernel, rfl, by decide +kernel, by decide +kernel⟩
def sp_Holder_load (K : PySem.W.Frag) (D : Ads) : Sp := fun vs H Q _ => ∃ (a t : Addr) (o : Vahype.Obj) (b : Bytes) (Z : Addr → Prop), vs = [.ref a, .ref t] ∧ HolderAt D Z H a o ∧ (∀ b, Z b → H b ≠ none) ∧ SqL K H t (bv b) ∧ b.length ≤ 10000 ∧
  ∀ H' r, HolderAt D Z H' a (Vahype.step o (.load b)).1 → But a H H' → H' r = some (.lst ((VahypeNeutral.encode (Vahype.step o (.load b)).2).map V.int)) → r ≠ a → H r = none → Q (.ref r) H'
section
variable {P : Program} {w : World} {K : PySem.W.Frag} {mg : Str → Option Value} {base : Heap} {D : Ads}
theorem ok_Holder_init {f : Addr} {fd : FuncData} (F : Fun K "__init__" "Holder.__init__" s_Holder_init f fd) (T : Txt K mg D) : FnOk P w K mg base CX0 1 f fd ["self"] (sp_Holder_init D.cH) := by
  refine F.ok sc_Holder_init (fun vs H Q E h => ?_) (fun cdv A outer s H vs Q E hr h => ⟨_, (pss_one (ps_fld (pv 0) pe_non rfl)), ?_⟩)
  · obtain ⟨a, dx, rfl, _⟩ := h
    rfl
  · obtain ⟨a, dx, rfl, ha, k⟩ := h
    refine ⟨_, rfl, a, D.cH, dx, _, rfl, ha, T.kH, T.hH, by show 0 < 1000; decide, ?_⟩
    exact k _ upd_same fun b hb => upd_ne hb
theorem ok_Holder_load {f : Addr} {fd : FuncData} (F : Fun K "load" "Holder.load" s_Holder_load f fd) (T : Txt K mg D) (hHL : D.cH ≠ D.cL) (hHW : D.cH ≠ D.cW)
    (c_read_list : Df P w K mg base (L2.CX P w) 5 "read_list" ["text"] (sp_read_list K D)) : FnOk P w K mg base CX0 6 f fd ["self", "text"] (sp_Holder_load K D) := by
  refine F.ok sc_Holder_load (fun vs H Q E h => ?_) (fun cdv A outer s H vs Q E hr h => ⟨_, (pss_cons (ps_try_as (i := 3) (tb := fun W => tAsg (tCallS (sp_read_list K D) (WE W) (tCons (tVar 1) tNil)) (gName 2)) (ts := fun a cls d => tRet (tLst (tCons (tC (.int 0)) (tCons (tXf a cls d D.cF "code" (tVar 3)) (tCons (tXf a cls d D.cF "place" (tVar 3)) tNil))))) (Wout := fun _ _ _ _ => False) rfl rfl sc_Holder_load.nd rfl rfl ⟨rfl, by decide, Or.inl T.gF⟩ takes0
  (fun W pn xe tk _ => pss_one (ps_set (i := 2) sc_Holder_load.nd rfl (Or.inl rfl) (by exact (pe_dX c_read_list hr (by decide) rfl tk (by exact (pa_cons (pv 1) pa_nil))))))
  (fun a oe cls d pn hz hf => pss_one (ps_ret (by exact (pe_lst (pa_cons pe_int (pa_cons (pe_xf T.xX T.xc hz hf (pv 3)) (pa_cons (pe_xf T.xX T.xp hz hf (pv 3)) pa_nil))))))))
(pss_cons (ps_fld (pv 0) (pv 2) rfl)
(pss_one (ps_ret (pe_lst (pa_cons pe_int (pa_cons (pe_callB call_len_seq (by rfl) T.n_len (by decide +kernel) (pa_cons (pe_fld (pv 2) rfl) pa_nil)) (pa_cons (pe_callB call_len_seq (by rfl) T.n_len (by decide +kernel) (pa_cons (pe_fld (pv 2) rfl) pa_nil)) pa_nil)))))))), ?_⟩)
  · obtain ⟨a, t, o, b, Z, rfl, _⟩ := h
    rfl
  · obtain ⟨a, t, o, b, Z, rfl, hA, hZ, hb, hlen, k⟩ := h
    obtain ⟨dx, v, ha, hv⟩ := id hA
    refine ⟨_, rfl, t, b, rfl, hb, hlen, fun s hs H1 p e1 hp => ?_, fun g hg => ?_⟩
    · have es : Vahype.step o (.load b) = (some s, ⟨1, VahypBase.nats [s.words.length, s.pats.length]⟩) := by
        show (match Vahypa.read b with | .ok s => _ | .error f => _) = _
        rw [hs]
      rw [es] at k
      have ha1 := e1 _ _ ha
      have hpz := hp.z hZ
      refine ⟨_, rfl, _, rfl, a, D.cH, dx, _, rfl, ha1, T.kH, T.hH, by show 1 < 1000; decide, ?_⟩
      rw [fH_put]
      have e2 : But a H1 (upd H1 a (.ins D.cH dx (fH (.ref p)))) := fun b u nb hb => (upd_ne nb).trans hb
      have hp2 : ListZ D Z (upd H1 a (.ins D.cH dx (fH (.ref p)))) p s := hpz.on (fun b dz fs => ⟨fun q => e2 _ _ (fun z => by rw [z, ha1] at q; injection Option.some.inj q with q _ _; exact hHL q) q, fun q => e2 _ _ (fun z => by rw [z, ha1] at q; injection Option.some.inj q with q _ _; exact hHW q) q⟩)
        (fun b xs _ q => e2 _ _ (fun z => by rw [z, ha1] at q; cases q) q) fun b xs q => e2 _ _ (fun z => by rw [z, ha1] at q; cases q) q
      obtain ⟨dy, wl, pl, h1, ⟨ws, h2, h2p⟩, ⟨ps, h3, h3p⟩⟩ := id hp2.at
      refine ⟨_, rfl, p, D.cL, dy, _, _, rfl, h1, T.kL, T.lW, fL_words _ _ _ _, wl, _, rfl, .inl (SqL.of h2), _, rfl, p, D.cL, dy, _, _, rfl, h1, T.kL, T.lP, fL_patterns _ _ _ _, pl, _, rfl, .inl (SqL.of h3), by show 3 ≤ sizeLine; decide, fun r hr1 => ?_⟩
      have nar : a ≠ r := fun z => by rw [← z, upd_same] at hr1; cases hr1
      have e3 : Same (upd H1 a (.ins D.cH dx (fH (.ref p)))) (upd (upd H1 a (.ins D.cH dx (fH (.ref p)))) r (.lst [.int 1, .int (ws.map V.ref).length, .int (ps.map V.ref).length])) := same_upd hr1
      refine k _ r ⟨dx, .ref p, e3 _ _ upd_same, p, rfl, hp2.same e3, read_ok hs⟩ (fun b u nb hb => e3 _ _ (e2 _ _ nb (e1 _ _ hb))) ?_ (Ne.symm nar) ?_
      · rw [upd_same, List.length_map, List.length_map, h2p.length, h3p.length]
        rfl
      · rw [upd_ne (Ne.symm nar)] at hr1
        exact e1.free hr1
    · intro d H1 e1 hd hx
      have es : Vahype.step o (.load b) = (o, VahypBase.faulty g) := by
        show (match Vahypa.read b with | .ok s => _ | .error f => _) = _
        rw [hg]
      rw [es] at k
      refine ⟨true, T.te, fun _ x hx0 => ?_, fun q => Bool.noConfusion q⟩
      refine ⟨_, rfl, rfl, rfl, d, _, _, rfl, hx, (lk_past (by decide +kernel)).trans lk_here, _, rfl, rfl, rfl, d, _, _, rfl, hx, lk_here, by show 3 ≤ sizeLine; decide, fun r hr1 => ?_⟩
      have e2 : Same H1 (upd H1 r (.lst [.int 0, .int g.code, .int g.place])) := same_upd hr1
      have e12 := e1.trans e2
      refine k _ r ⟨dx, v, e12 _ _ ha, ?_⟩ (fun b u nb hb => e12 _ _ hb) (by rw [upd_same]; rfl) (fun z => by rw [z, e1 _ _ ha] at hr1; cases hr1) (e1.free hr1)
      cases o with
      | none => exact hv
      | some s =>
        obtain ⟨b', q1, q2, q3⟩ := hv
        exact ⟨b', q1, q2.same e12, q3⟩
end
end WG
set_option Elab.async false
set_option linter.all false
set_option maxRecDepth 100000
set_option maxHeartbeats 2000000
namespace WG
open PySem PySem.Spec PyProof.Rows L2
/-! ### a written dict with whole numbers for keys -/
def KIat (K : PySem.W.Frag) (a : Addr) (i : Int) (v : V) : Prop := ∃ es n u, K.lookup a = some ⟨.type "dict", none, .dict es n, #[]⟩ ∧ (∀ e ∈ es.toList, ∃ k t, e.key = .int k t ∧ e.hash = hashInt k) ∧ findBy Value.isInt es i = some u ∧ RelV v u
def rIxI (K : PySem.W.Frag) : R2 := fun x y H Q => ∃ p i v, x = .ref p ∧ y = .int i ∧ KIat K p i v ∧ Q v H
theorem ix_kint {X : Cx} : IxR X (rIxI X.K) := by
  rintro value slice pins s σ H x y v u Q I rx ry ⟨p, i, r, rfl, rfl, ⟨es, n, u0, hl, hk, e, ru⟩, q⟩ hs
  obtain rfl : v = Value.ref p := rx
  obtain ⟨t, rfl⟩ := ry
  have hm : s.heap.MapOf (intKind X.prog X.w) p (fun k => findBy Value.isInt es k) := ⟨_, es, n, I.kIn _ _ hl, ⟨rfl, rfl, rfl⟩, rfl, fun d hd => by
    obtain ⟨k, t, e1, e2⟩ := hk d (Array.mem_toList_iff.mpr hd)
    exact ⟨k, by rw [e1]; exact intKind_is X.prog X.w k t, e2⟩, fun _ => rfl⟩
  exact tail_any hm.typeIs slot_dict_getitem.lookup (wpAny_getItem_of (intKind_is X.prog X.w i t) hm e ⟨r, H, I.tok _, ru, q⟩) hs
def intsB (es : Array DictEntry) : Bool := es.toList.all fun e => match e.key with
  | .int k _ => e.hash == hashInt k
  | _ => false
def lookB (es : Array DictEntry) (i j : Int) : Bool := match findBy Value.isInt es i with
  | some (.int k _) => k == j
  | _ => false
theorem kiat_of {K : PySem.W.Frag} {a : Addr} {es : Array DictEntry} {n : Nat} {i j : Int} (h : K.lookup a = some ⟨.type "dict", none, .dict es n, #[]⟩) (h1 : intsB es = true) (h2 : lookB es i j = true) : KIat K a i (.int j) := by
  unfold lookB at h2
  split at h2
  · rename_i k t e
    refine ⟨es, n, _, h, fun d hd => ?_, e, t, ?_⟩
    · have q := List.all_eq_true.mp h1 d hd
      split at q
      · rename_i k t e
        exact ⟨k, t, e, beq_iff_eq.mp q⟩
      · cases q
    · rw [beq_iff_eq.mp h2]
  · cases h2
/-! ### find_call_end -/
/-- how many numbers stand behind a call's own -/
def behindT : List (Int × Int) := [(1, 1), (2, 1), (3, 3), (4, 1), (5, 2), (6, 1)]
structure TxtA (K : PySem.W.Frag) (mg : Str → Option Value) (aA : Addr) (tab : List (Int × Int)) : Prop where
  c_ARGUMENTS : cst mg "ARGUMENTS" (.ref aA)
  look : ∀ p ∈ tab, KIat K aA p.1 (.int p.2)
def numOf : Vahype.Call → Int
  | .load _ => 0
  | .conflicts _ => 1
  | .leftOut _ => 2
  | .evidence _ _ _ => 3
  | .doubts _ => 4
  | .keptOut _ _ => 5
  | .cross _ => 6
theorem seg_head {sg : List Int} {k : Vahype.Call} (h : Seg sg k) : ∃ r, sg = numOf k :: r ∧ (numOf k = 0 → r.head? = some ((sg.length : Int) - 2)) ∧ (numOf k ≠ 0 → (numOf k, (r.length : Int)) ∈ behindT) := by
  cases h with
  | load b hb => exact ⟨_, rfl, fun _ => by
      show some (b.length : Int) = some (((bi b).length + 1 + 1 : Nat) - 2 : Int)
      unfold bi
      rw [List.length_map]
      congr 1
      omega, fun z => absurd rfl z⟩
  | _ => exact ⟨_, rfl, nofun, fun _ => by simp [numOf, behindT]⟩
abbrev s_find_call_end : Stmt := top 75
abbrev N_find_call_end : List Str := ["calls", "at"]
theorem sc_find_call_end : FnScope N_find_call_end ["calls", "at"] (defScope s_find_call_end) := ⟨rfl, rfl, rfl, by decide +kernel, rfl, by decide +kernel, by decide +kernel⟩
def sp_find_call_end (K : PySem.W.Frag) (tab : List (Int × Int)) : Sp := fun vs H Q _ => ∃ (a : Addr) (l rest sg : List Int) (p : Nat) (k : Vahype.Call), vs = [.ref a, .int p] ∧ SqL K H a (l.map V.int) ∧ l.drop p = sg ++ rest ∧ Seg sg k ∧
  (numOf k ≠ 0 → ∀ j, (numOf k, j) ∈ behindT → (numOf k, j) ∈ tab) ∧ Q (.int (p + sg.length : Nat)) H
section
variable {P : Program} {w : World} {K : PySem.W.Frag} {mg : Str → Option Value} {base : Heap} {D : Ads} {aA : Addr} {tab : List (Int × Int)}
theorem df_find_call_end {f : Addr} {fd : FuncData} (F : At K mg "find_call_end" s_find_call_end ["calls", "at"] f fd) (T : Txt K mg D) (TA : TxtA K mg aA tab) : Df P w K mg base CX0 1 "find_call_end" ["calls", "at"] (sp_find_call_end K tab) := by
  refine df0 (N := N_find_call_end) F sc_find_call_end (fun vs H Q E h => ?_) (fun cdv A outer s H vs Q E hr h => ⟨_, (pss_cons (ps_if (pt_cmpR op_eq (pe_ix ix_list (pv 0) (pv 1) (fun _ _ => rfl)) (C8.pe_gc rfl T.c_LOAD) (nomark _))
(pss_one (ps_ret (pe_op op_add (pe_op op_add (pv 1) pe_int) (pe_ix ix_list (pv 0) (pe_op op_add (pv 1) pe_int) (fun _ _ => rfl)))))
pss_nil)
(pss_one (ps_ret (pe_op op_add (pe_op op_add (pv 1) pe_int) (pe_ix ix_kint (C8.pe_gc rfl TA.c_ARGUMENTS) (pe_ix ix_list (pv 0) (pv 1) (fun _ _ => rfl)) (fun _ _ => rfl)))))), ?_⟩)
  · obtain ⟨a, l, rest, sg, p, k, rfl, _⟩ := h
    rfl
  · obtain ⟨a, l, rest, sg, p, k, rfl, hl, hd, hs, hin, q⟩ := h
    obtain ⟨r, er, h0, h1⟩ := seg_head hs
    have at0 : l[p]? = some (numOf k) := by
      have z := congrArg (fun z => z[0]?) hd
      rw [List.getElem?_drop, er] at z
      exact z
    have g0 : (l.map V.int)[p]? = some (.int (numOf k)) := by rw [List.getElem?_map, at0]; rfl
    refine ⟨_, rfl, _, rfl, a, _, _, _, rfl, rfl, hl, atI_nat g0, ?_⟩
    have ed : decide (V.int (numOf k) = V.int 0) = decide (numOf k = 0) := by
      rw [Bool.eq_iff_iff]
      simp only [decide_eq_true_eq, int_iff]
    refine ⟨rfl, _, rfl, ?_⟩
    rw [ed]
    by_cases c : numOf k = 0
    · rw [decide_eq_true c]
      have h0 := h0 c
      cases r with
      | nil => cases h0
      | cons n r =>
        have h0 : n = (sg.length : Int) - 2 := Option.some.inj h0
        have at1 : l[p + 1]? = some n := by
          have z := congrArg (fun z => z[1]?) hd
          rw [List.getElem?_drop, er] at z
          exact z
        have g1 : (l.map V.int)[p + 1]? = some (.int n) := by rw [List.getElem?_map, at1]; rfl
        refine iteT ⟨_, rfl, _, _, rfl, rfl, _, rfl, _, rfl, _, _, rfl, rfl, a, _, _, _, rfl, rfl, hl, atI_nat (j := p + 1) g1, _, _, rfl, rfl, ?_⟩
        have e : (p : Int) + 2 + n = ((p + sg.length : Nat) : Int) := by omega
        show Q (.int ((p : Int) + 2 + n)) H
        rw [e]
        exact q
    · rw [decide_eq_false c]
      have h1 := h1 c
      have kd := TA.look _ (hin c _ h1)
      refine iteF ⟨_, rfl, _, _, rfl, rfl, _, rfl, _, rfl, a, _, _, _, rfl, rfl, hl, atI_nat g0, _, _, _, rfl, rfl, kd, _, _, rfl, rfl, ?_⟩
      have e : (p : Int) + 1 + (r.length : Int) = ((p + sg.length : Nat) : Int) := by
        rw [er, List.length_cons]
        omega
      show Q (.int ((p : Int) + 1 + (r.length : Int))) H
      rw [e]
      exact q
end
end WG
set_option Elab.async false
set_option linter.all false
set_option maxRecDepth 100000
set_option maxHeartbeats 2000000
namespace WG
open PySem PySem.Spec PyProof.Rows L2
open VahypBase (Bytes)
open LamX (TabB Tabs TabS ExtN)
/-! ### answers -/
def runO (o : Vahype.Obj) (l : List Sg) : Vahype.Obj := l.foldl (fun o g => (Vahype.step o g.2).1) o
theorem play_snoc : ∀ (l : List Sg) (o : Vahype.Obj) (g : Sg), playK o (l ++ [g]) = playK o l ++ [VahypeNeutral.encode (Vahype.step (runO o l) g.2).2]
  | [], _, _ => rfl
  | h :: l, o, g => congrArg (VahypeNeutral.encode (Vahype.step o h.2).2 :: ·) (play_snoc l (Vahype.step o h.2).1 g)
theorem told_app (l m : List (List Int)) : PyFlat.told (l ++ m) = PyFlat.told l ++ PyFlat.told m := List.flatMap_append
theorem play_app : ∀ (l m : List Sg) (o : Vahype.Obj), playK o (l ++ m) = playK o l ++ playK (runO o l) m
  | [], _, _ => rfl
  | h :: l, m, o => congrArg (VahypeNeutral.encode (Vahype.step o h.2).2 :: ·) (play_app l m (Vahype.step o h.2).1)
def flatS (l : List Sg) : List Int := l.flatMap (·.1)
theorem flatS_app (l m : List Sg) : flatS (l ++ m) = flatS l ++ flatS m := List.flatMap_append
theorem seg_pos {sg : List Int} {k : Vahype.Call} (h : Seg sg k) : 0 < sg.length := by
  obtain ⟨r, e, _⟩ := seg_head h
  rw [e]
  exact Nat.succ_pos _
theorem cut_nat (xs : List V) {p q : Nat} (h : p ≤ q) (hq : q ≤ xs.length) : cutV xs (some (p : Int)) (some (q : Int)) = (xs.drop p).take (q - p) := by
  unfold cutV
  rw [HT.sIx_nat, HT.sIx_nat, Nat.min_eq_left hq, Nat.min_eq_left (by omega)]
/-- all but the tables and what stands at a stay -/
def ButN (a : Addr) (H H' : Hp) : Prop := ∀ b o, b ≠ a → H b = some o → (∀ ps, o ≠ .tbl ps) → H' b = some o
theorem seq_ext {K : PySem.W.Frag} {H H' : Hp} {a : Addr} {xs : List V} (e : ExtN H H') (h : SqL K H a xs) : SqL K H' a xs := by
  rcases h with (h | ⟨o, h⟩) | h
  · exact .inl (.inl (e _ _ h lst_tbl))
  · exact .inl (.inr ⟨o, e _ _ h (fun _ z => by cases z)⟩)
  · exact .inr h
/-- where a plain object is written the tables stand -/
theorem tabs_put {T : List (Addr × Str)} {H : Hp} {d : Addr} {o u : HO} (t : Tabs T H) (hd : H d = some u) (n1 : ∀ ps, u ≠ .tbl ps) (n2 : ∀ φ, u ≠ .ext φ) : Tabs T (upd H d o) := fun p hp => by
  obtain ⟨ps, h1, h2, h3⟩ := t p hp
  refine ⟨ps, (upd_ne (ne_of h1 hd (fun z => n1 _ z.symm))).trans h1, h2, fun pos cv h => ?_⟩
  obtain ⟨c, e, h4⟩ := h3 pos cv h
  exact ⟨c, e, (upd_ne (ne_of h4 hd (fun z => n2 _ z.symm))).trans h4⟩
theorem tabs_but {T : List (Addr × Str)} {H H' : Hp} {a : Addr} {u : HO} (t : Tabs T H) (e : But a H H') (hd : H a = some u) (n1 : ∀ ps, u ≠ .tbl ps) (n2 : ∀ φ, u ≠ .ext φ) : Tabs T H' := fun p hp => by
  obtain ⟨ps, h1, h2, h3⟩ := t p hp
  refine ⟨ps, e _ _ (ne_of h1 hd (fun z => n1 _ z.symm)) h1, h2, fun pos cv h => ?_⟩
  obtain ⟨c, e2, h4⟩ := h3 pos cv h
  exact ⟨c, e2, e _ _ (ne_of h4 hd (fun z => n2 _ z.symm)) h4⟩
theorem HolderAt.ext {D : Ads} {Z : Addr → Prop} {H H' : Hp} {a : Addr} {o : Vahype.Obj} (e : ExtN H H') (h : HolderAt D Z H a o) : HolderAt D Z H' a o := by
  obtain ⟨dx, v, h1, h2⟩ := h
  refine ⟨dx, v, e _ _ h1 ins_tbl, ?_⟩
  cases o with
  | none => exact h2
  | some s =>
    obtain ⟨b, q1, q2, q3⟩ := h2
    exact ⟨b, q1, q2.on (fun b dx fs => ⟨fun q => e _ _ q ins_tbl, fun q => e _ _ q ins_tbl⟩) (fun b xs _ q => e _ _ q lst_tbl) (fun b xs q => e _ _ q tup_tbl), q3⟩
def sp_answer_call (D : Ads) : Sp := fun vs H Q _ => ∃ (a c : Addr) (o : Vahype.Obj) (sg : List Int) (k : Vahype.Call) (Z : Addr → Prop), vs = [.ref a, .ref c] ∧ HolderAt D Z H a o ∧ (∀ b, Z b → H b ≠ none) ∧ H c = some (.lst (sg.map V.int)) ∧ Seg sg k ∧ Tabs (tabsT D) H ∧
  ∀ H' r, HolderAt D Z H' a (Vahype.step o k).1 → ButN a H H' → Tabs (tabsT D) H' → H' r = some (.lst ((VahypeNeutral.encode (Vahype.step o k).2).map V.int)) → r ≠ a → Fresh H r → Q (.ref r) H'
abbrev s_answers : Stmt := top 74
abbrev N_answers : List Str := ["calls", "holder", "told", "at", "end", "answer"]
theorem sc_answers : FnScope N_answers ["calls"] (defScope s_answers) := ⟨rfl, rfl, rfl, by decide +kernel, rfl, by decide +kernel, by decide +kernel⟩
def sp_answers (K : PySem.W.Frag) (T : List (Addr × Str)) : Sp := fun vs H Q _ => ∃ (a : Addr) (ns : List Int), vs = [.ref a] ∧ SqL K H a (ns.map V.int) ∧ PyVahype.answers_asked ns = true ∧ Tabs T H ∧
  ∀ (H' : Hp) (p : Addr), H' p = some (.lst ((PyVahype.answers ns).map V.int)) → Q (.ref p) H'
section
variable {P : Program} {w : World} {K : PySem.W.Frag} {mg : Str → Option Value} {base : Heap} {D : Ads}
theorem ok_answers {f : Addr} {fd : FuncData} {lv : Nat} (hlv : 2 ≤ lv) (F : At K mg "answers" s_answers ["calls"] f fd) (T : Txt K mg D) (m_Holder : Mka P w K mg base 1 "Holder" D.cH ["self"] (sp_Holder_init D.cH))
    (c_find_call_end : Df P w K mg base CX0 1 "find_call_end" ["calls", "at"] (sp_find_call_end K behindT)) (c_answer_call : Df P w K mg base CX0 lv "answer_call" ["holder", "call"] (sp_answer_call D)) :
    FnOk P w K mg base CX0 (lv + 1) f fd ["calls"] (sp_answers K (tabsT D)) := by
  refine F.fn.ok (N := N_answers) sc_answers (fun vs H Q E h => ?_) (fun cdv A outer s H vs Q E hr h => ⟨_, (pss_cons (ps_set (i := 1) sc_answers.nd rfl (Or.inl rfl) (pe_mk0 m_Holder hr hlv rfl))
(pss_cons (ps_set (i := 2) sc_answers.nd rfl (Or.inl rfl) (pe_lst pa_nil))
(pss_cons (ps_set (i := 3) sc_answers.nd rfl (Or.inl rfl) pe_int)
(pss_cons (ps_while PassesOwn.never (pt_cmpR op_lt (pv 3) (pe_callB call_len_seq (by rfl) T.n_len (by decide +kernel) (pa_cons (pv 0) pa_nil)) (nomark _))
(pss_cons (ps_set (i := 4) sc_answers.nd rfl (Or.inl rfl) (pe_d0 c_find_call_end hr (by omega) rfl (pa_cons (pv 0) (pa_cons (pv 3) pa_nil))))
(pss_cons (ps_set (i := 5) sc_answers.nd rfl (Or.inl rfl) (pe_d0 c_answer_call hr (Nat.le_refl _) rfl (pa_cons (pv 1) (pa_cons (pe_slice sl_list (pv 0) (po_some (pv 3)) (po_some (pv 4))) pa_nil))))
(pss_cons (ps_expr (pe_bm PySem.F.plainAttrs_list PySem.F.slot_list_append PySem.F.type_list_append mt_append (pv 2) (pa_cons (pe_callB call_len_seq (by rfl) T.n_len (by decide +kernel) (pa_cons (pv 5) pa_nil)) pa_nil)))
(pss_cons (ps_expr (pe_bm PySem.F.plainAttrs_list PySem.F.slot_list_extend PySem.F.type_list_extend mt_extend (pv 2) (pa_cons (pv 5) pa_nil)))
(pss_one (ps_set (i := 3) sc_answers.nd rfl (Or.inl rfl) (pv 4))))))))
(pss_one (ps_ret (pv 2))))))), ?_⟩)
  · obtain ⟨a, ns, rfl, _⟩ := h
    rfl
  · obtain ⟨a, ns, rfl, hns, hask, hT, kk⟩ := h
    obtain ⟨sg, el, hseg, l1, l12, ea, short⟩ := asked_is hask
    have el : ns = flatS sg := el
    rw [ea] at kk short
    -- holder = Holder()
    intro x dx hx hdx hne
    refine ⟨x, dx, rfl, upd_same, fun H1 h1 h2 => ⟨rfl, ?_⟩⟩
    have e1 : Same H H1 := fun b u hb => by
      have n1 : b ≠ x := fun z => by rw [z, hx] at hb; cases hb
      have n2 : b ≠ dx := fun z => by rw [z, hdx] at hb; cases hb
      rw [h2 b n1, upd_ne n1, upd_ne n2]
      exact hb
    -- told = []
    refine ⟨by show 0 ≤ sizeLine; exact Nat.zero_le _, fun tl htl => ?_⟩
    have ntx : tl ≠ x := fun z => by rw [z, h1] at htl; cases htl
    have e2 : Same H1 (upd H1 tl (.lst [])) := same_upd htl
    have hN : HolderAt D (· = tl) (upd H1 tl (.lst [])) x none := ⟨dx, .non, e2 _ _ h1, rfl⟩
    have natx : ∀ {b : Addr} {u : HO}, H b = some u → b ≠ x := fun hb z => by rw [z, hx] at hb; cases hb
    have natl : ∀ {b : Addr} {u : HO}, H b = some u → b ≠ tl := fun hb => ne_of_none (e1 _ _ hb) htl
    refine ⟨fun m σ H' => ∃ i v4 v5, m = sg.length - i ∧ i ≤ sg.length ∧ σ = [some (.ref a), some (.ref x), some (.ref tl), some (.int ((flatS (sg.take i)).length : Nat)), v4, v5] ∧ ExtN H H' ∧ Tabs (tabsT D) H' ∧ HolderAt D (· = tl) H' x (runO none (sg.take i)) ∧
        H' tl = some (.lst ((PyFlat.told (playK none (sg.take i))).map V.int)), ⟨_, 0, none, none, rfl, Nat.zero_le _, rfl, extN_same (e1.trans e2), tabs_same hT (e1.trans e2), hN, upd_same⟩, ?_⟩
    rintro m σ H2 ⟨i, v4, v5, rfl, hi, rfl, e3, hT2, hA, ht⟩
    have nslen : (ns.map V.int).length = (flatS sg).length := by rw [List.length_map, el]
    refine ⟨_, rfl, _, rfl, a, _, rfl, .inl (seq_ext e3 hns), _, _, rfl, rfl, _, rfl, ?_⟩
    rw [nslen]
    by_cases c : i < sg.length
    · obtain ⟨g, hg⟩ : ∃ g, sg[i]? = some g := ⟨_, List.getElem?_eq_getElem c⟩
      have hgm := List.mem_of_getElem? hg
      have hs := hseg g hgm
      have dr : sg.drop i = g :: sg.drop (i + 1) := by
        rw [List.drop_eq_getElem_cons c]
        congr 1
        exact Option.some.inj ((List.getElem?_eq_getElem c).symm.trans hg)
      have whole : flatS sg = flatS (sg.take i) ++ (g.1 ++ flatS (sg.drop (i + 1))) := by
        have z := flatS_app (sg.take i) (sg.drop i)
        rw [List.take_append_drop, dr] at z
        exact z
      have pos := seg_pos hs
      have lens : (flatS sg).length = (flatS (sg.take i)).length + (g.1.length + (flatS (sg.drop (i + 1))).length) := by rw [whole, List.length_append, List.length_append]
      refine iteT' (decide_eq_true (by omega)) ⟨_, fun σ' H' h => h, ?_⟩
      have hd : ns.drop (flatS (sg.take i)).length = g.1 ++ flatS (sg.drop (i + 1)) := by
        rw [el, whole]
        exact List.drop_left
      -- end = find_call_end(calls, at)
      refine ⟨_, rfl, _, rfl, a, ns, flatS (sg.drop (i + 1)), g.1, (flatS (sg.take i)).length, g.2, rfl, seq_ext e3 hns, hd, hs, fun _ _ z => z, ?_⟩
      -- answer = answer_call(holder, calls[at:end])
      refine ⟨_, rfl, _, rfl, _, rfl, _, rfl, _, rfl, _, rfl, a, _, rfl, seq_ext e3 hns, fun cl hcl => ?_⟩
      have ecut : cutV (ns.map V.int) (some ((flatS (sg.take i)).length : Nat)) (some (((flatS (sg.take i)).length + g.1.length : Nat) : Int)) = g.1.map V.int := by
        rw [cut_nat _ (Nat.le_add_right _ _) (by rw [nslen]; omega), Nat.add_sub_cancel_left, ← List.map_drop, hd, ← List.map_take, List.take_left]
      rw [ecut]
      have e4 : Same H2 (upd H2 cl (.lst (g.1.map V.int))) := same_upd hcl
      have hA2 : HolderAt D (· = tl) (upd H2 cl (.lst (g.1.map V.int))) x (runO none (sg.take i)) := hA.same e4
      refine ⟨x, cl, runO none (sg.take i), g.1, g.2, (· = tl), rfl, hA2, (fun b z q => by rw [z, e4 _ _ ht] at q; cases q), upd_same, hs, tabs_same hT2 e4, fun H3 r hA3 b3 hT3 hr3 nrx nr => ?_⟩
      have ht2 := e4 _ _ ht
      have ht3 := b3 _ _ ntx ht2 lst_tbl
      have nrt : r ≠ tl := (nr.ne ht2 lst_tbl).symm
      have more : PyFlat.told (playK none (sg.take (i + 1))) = PyFlat.told (playK none (sg.take i)) ++ (((VahypeNeutral.encode (Vahype.step (runO none (sg.take i)) g.2).2).length : Int) :: VahypeNeutral.encode (Vahype.step (runO none (sg.take i)) g.2).2) := by
        rw [take_more hg, play_snoc, told_app]
        congr 1
        show _ ++ [] = _
        rw [List.append_nil]
      have room : (PyFlat.told (playK none (sg.take (i + 1)))).length ≤ 10000000 := by
        have z := play_app (sg.take (i + 1)) (sg.drop (i + 1)) none
        rw [List.take_append_drop] at z
        rw [z, told_app, List.length_append] at short
        omega
      rw [more, List.length_append, List.length_cons] at room
      -- told.append(len(answer))
      refine ⟨_, rfl, .inl ⟨rfl, _, SqL.of ht3⟩, _, rfl, r, _, rfl, .inl (SqL.of hr3), tl, _, _, rfl, rfl, ht3, ?_, ?_⟩
      · rw [List.length_map]
        exact Nat.lt_of_le_of_lt (by omega : _ ≤ 10000000) (by rw [sizeLine_eq]; decide)
      -- told.extend(answer)
      refine ⟨_, rfl, .inl ⟨rfl, _, SqL.of upd_same⟩, _, rfl, tl, r, _, _, rfl, rfl, upd_same, (upd_ne nrt).trans hr3, ?_, ?_⟩
      · rw [List.length_append, List.length_map, List.length_map, List.length_singleton, sizeLine_eq]
        omega
      -- at = end
      refine ⟨_, rfl, ?_⟩
      have ln : (flatS (sg.take (i + 1))).length = (flatS (sg.take i)).length + g.1.length := by
        rw [take_more hg, flatS_app, List.length_append]
        unfold flatS
        rw [List.flatMap_cons, List.flatMap_nil, List.append_nil]
      refine ⟨sg.length - (i + 1), by omega, i + 1, some (.int (((flatS (sg.take i)).length + g.1.length : Nat) : Int)), some (.ref r), rfl, c, ?_, fun b u hb nb => ?_, tabs_put (tabs_put hT3 ht3 lst_tbl (fun _ z => by cases z)) upd_same lst_tbl (fun _ z => by cases z), ?_, ?_⟩
      · rw [ln]
        rfl
      · rw [upd_ne (natl hb), upd_ne (natl hb)]
        exact b3 _ _ (natx hb) (e4 _ _ (e3 _ _ hb nb)) nb
      · have er : runO none (sg.take (i + 1)) = (Vahype.step (runO none (sg.take i)) g.2).1 := by
          rw [take_more hg]
          unfold runO
          rw [List.foldl_append]
          rfl
        rw [er]
        exact (hA3.put ht3 rfl).put upd_same rfl
      · rw [upd_same, more, List.map_append, List.map_cons, List.append_assoc, List.length_map]
        rfl
    · have hi2 : i = sg.length := by omega
      subst hi2
      rw [List.take_length] at ht ⊢
      refine iteF' (decide_eq_false (by omega)) ?_
      exact ⟨_, rfl, kk H2 tl ht⟩
end
end WG
set_option Elab.async false
set_option linter.all false
set_option maxRecDepth 100000
set_option maxHeartbeats 2000000
namespace WG
open PySem PySem.Spec PyProof.Rows L2
open VahypBase (Bytes)
open LamX (TabB Tabs TabS ExtN)
/-! ### answer_call -/
structure Mta (P : Program) (w : World) (K : PySem.W.Frag) (mg : Str → Option Value) (base : Heap) (k : Nat) (C : Addr) (m : Str) (ps : List Str) (sp : Sp) : Prop where
  ex : ∃ (f : Addr) (fd : FuncData), Meth K C m f ∧ FnOk P w K mg base CX0 k f fd ps sp ∧ Binds K fd ps [] ∧ Cls K C
theorem pe_mt1 {X : Cx} {k j : Nat} {m : Str} {C : Addr} {ps : List Str} {sp : Sp} {pos apos : Pos} {e o : Expr} {es : List Expr} {ta : TE} {t : TA} {pl : Sem Bool} (c : Mta X.prog X.w X.K X.mg X.base k C m ps sp) (hr : Room j X.A) (hk : k ≤ j) (he : PE X o ta) (ha : PA X (e :: es) t)
    (hst : starEach (e :: es) X.env = (false, eval e X.env) :: starEach es X.env := by rfl) (hpl : (backTo pos (starEach es X.env)).any (·.1) = false := by rfl)
    (ht : eval (.Call (.Attribute o m apos) (e :: es) [] pos) X.env = (do
      let ov ← eval o X.env
      standAt apos.atName
      let (f, first) ← holding [ov] (getMethod ov m pl)
      callWith pos f first (backTo pos (starEach (e :: es) X.env)) (backToKw pos (keywordEach [] X.env))) := by rfl) :
    PE X (.Call (.Attribute o m apos) (e :: es) [] pos) (tMeth C m sp [] E0 ta t) := by
  obtain ⟨f, fd, M, F, b, c⟩ := c.ex
  exact pe_meth he c M F (hr.mono hk) b .nil pass0 ha hst hpl ht
theorem told_none {k : Vahype.Call} (h : numOf k ≠ 0) : Vahype.step none k = (none, VahypBase.one (-1)) := by
  cases k <;> first | rfl | exact absurd rfl h
theorem told_some {k : Vahype.Call} {s : Vahypa.Lst} (h : numOf k ≠ 0) : Vahype.step (some s) k = (some s, Vahype.looked s k) := by
  cases k <;> first | rfl | exact absurd rfl h
abbrev s_answer_call : Stmt := top 76
abbrev N_answer_call : List Str := ["holder", "call"]
theorem sc_answer_call : FnScope N_answer_call ["holder", "call"] (defScope s_answer_call) := ⟨rfl, rfl, rfl, by decide +kernel, rfl, by decide +kernel, by decide +kernel⟩
section
variable {P : Program} {w : World} {K : PySem.W.Frag} {mg : Str → Option Value} {base : Heap} {D : Ads}
theorem df_answer_call {f : Addr} {fd : FuncData} (F : At K mg "answer_call" s_answer_call ["holder", "call"] f fd) (T : Txt K mg D) (c_Holder_load : Mta P w K mg base 6 D.cH "load" ["self", "text"] (sp_Holder_load K D))
    (c_answer_conflicts : Df P w K mg base CX0 3 "answer_conflicts" ["wordlist", "n"] (sp_answer_conflicts D)) (c_answer_leftout : Df P w K mg base CX0 4 "answer_leftout" ["wordlist", "n"] (sp_answer_leftout D))
    (c_answer_evidence : Df P w K mg base CX0 5 "answer_evidence" ["wordlist", "spot", "m"] (sp_answer_evidence D)) (c_answer_doubts : Df P w K mg base CX0 5 "answer_doubts" ["wordlist", "m"] (sp_answer_doubts D))
    (c_answer_keptout : Df P w K mg base CX0 7 "answer_keptout" ["wordlist", "m", "i"] (sp_answer_keptout D)) (c_answer_cross : Df P w K mg base CX0 8 "answer_cross" ["wordlist", "m"] (sp_answer_cross D)) : Df P w K mg base CX0 9 "answer_call" ["holder", "call"] (sp_answer_call D) := by
  refine df0 (N := N_answer_call) F sc_answer_call (fun vs H Q E h => ?_) (fun cdv A outer s H vs Q E hr h => ⟨_, (pss_cons (ps_if (pt_cmpR op_eq (pe_ix ix_list (pv 1) pe_int (fun _ _ => rfl)) (C8.pe_gc rfl T.c_LOAD) (nomark _))
(pss_one (ps_ret (pe_mt1 c_Holder_load hr (by decide) (pv 0) (pa_cons (pe_slice sl_list (pv 1) (po_some pe_int) po_none) pa_nil))))
pss_nil)
(pss_cons (ps_if (pt_cmpR op_isN (pe_fld (pv 0) rfl) pe_non (nomark _))
(pss_one (ps_ret (pe_lst (pa_cons (pe_un un_neg pe_int) pa_nil))))
pss_nil)
(pss_cons (ps_if (pt_cmpR op_eq (pe_ix ix_list (pv 1) pe_int (fun _ _ => rfl)) (C8.pe_gc rfl T.c_CONFLICTS) (nomark _))
(pss_one (ps_ret (pe_d0 c_answer_conflicts hr (by decide) rfl (pa_cons (pe_fld (pv 0) rfl) (pa_cons (pe_ix ix_list (pv 1) pe_int (fun _ _ => rfl)) pa_nil)))))
pss_nil)
(pss_cons (ps_if (pt_cmpR op_eq (pe_ix ix_list (pv 1) pe_int (fun _ _ => rfl)) (C8.pe_gc rfl T.c_LEFTOUT) (nomark _))
(pss_one (ps_ret (pe_d0 c_answer_leftout hr (by decide) rfl (pa_cons (pe_fld (pv 0) rfl) (pa_cons (pe_ix ix_list (pv 1) pe_int (fun _ _ => rfl)) pa_nil)))))
pss_nil)
(pss_cons (ps_if (pt_cmpR op_eq (pe_ix ix_list (pv 1) pe_int (fun _ _ => rfl)) (C8.pe_gc rfl T.c_EVIDENCE) (nomark _))
(pss_one (ps_ret (pe_d0 c_answer_evidence hr (by decide) rfl (pa_cons (pe_fld (pv 0) rfl) (pa_cons (pe_tup (pa_cons (pe_ix ix_list (pv 1) pe_int (fun _ _ => rfl)) (pa_cons (pe_ix ix_list (pv 1) pe_int (fun _ _ => rfl)) pa_nil))) (pa_cons (pe_ix ix_list (pv 1) pe_int (fun _ _ => rfl)) pa_nil))))))
pss_nil)
(pss_cons (ps_if (pt_cmpR op_eq (pe_ix ix_list (pv 1) pe_int (fun _ _ => rfl)) (C8.pe_gc rfl T.c_DOUBTS) (nomark _))
(pss_one (ps_ret (pe_d0 c_answer_doubts hr (by decide) rfl (pa_cons (pe_fld (pv 0) rfl) (pa_cons (pe_ix ix_list (pv 1) pe_int (fun _ _ => rfl)) pa_nil)))))
pss_nil)
(pss_cons (ps_if (pt_cmpR op_eq (pe_ix ix_list (pv 1) pe_int (fun _ _ => rfl)) (C8.pe_gc rfl T.c_KEPTOUT) (nomark _))
(pss_one (ps_ret (pe_d0 c_answer_keptout hr (by decide) rfl (pa_cons (pe_fld (pv 0) rfl) (pa_cons (pe_ix ix_list (pv 1) pe_int (fun _ _ => rfl)) (pa_cons (pe_ix ix_list (pv 1) pe_int (fun _ _ => rfl)) pa_nil))))))
pss_nil)
(pss_one (ps_ret (pe_d0 c_answer_cross hr (by decide) rfl (pa_cons (pe_fld (pv 0) rfl) (pa_cons (pe_ix ix_list (pv 1) pe_int (fun _ _ => rfl)) pa_nil)))))))))))), ?_⟩)
  · obtain ⟨a, c, o, sg, k, Z, rfl, _⟩ := h
    rfl
  · obtain ⟨a, c, o, sg, k, Z, rfl, hA, hZ, hc, hs, hT, kk⟩ := h
    obtain ⟨dx, v, ha, hv⟩ := id hA
    obtain ⟨r, er, _, _⟩ := seg_head hs
    have g0 : (sg.map V.int)[0]? = some (.int (numOf k)) := by rw [er]; rfl
    have ed : ∀ j : Int, decide (V.int (numOf k) = V.int j) = decide (numOf k = j) := fun j => by
      rw [Bool.eq_iff_iff]
      simp only [decide_eq_true_eq, int_iff]
    refine ⟨_, rfl, c, _, _, _, rfl, rfl, SqL.of hc, atI_nat (j := 0) g0, rfl, _, rfl, ?_⟩
    rw [ed]
    by_cases c0 : numOf k = 0
    · rw [decide_eq_true c0]
      cases hs with
      | load b hb =>
        refine iteT ⟨_, rfl, a, dx, _, rfl, ha, fH_load v, _, rfl, _, rfl, c, _, rfl, SqL.of hc, fun t ht => ?_⟩
        have e1 : Same H (upd H t (.lst (cutV ((0 :: (b.length : Int) :: bi b).map V.int) (some 2) none))) := same_upd ht
        have ecut : cutV ((0 :: (b.length : Int) :: bi b).map V.int) (some 2) none = bv b := by
          unfold cutV
          rw [show (some (2 : Int)) = some ((2 : Nat) : Int) from rfl, HT.sIx_nat, HT.sIx_none]
          have l2 : 2 ≤ ((0 :: (b.length : Int) :: bi b).map V.int).length := by simp
          rw [Nat.min_eq_left l2]
          show ((bi b).map V.int).take _ = bv b
          have e : (bi b).map V.int = bv b := by
            unfold bi bv
            rw [List.map_map]
            rfl
          rw [e, List.take_of_length_le]
          unfold bi bv
          simp
        rw [ecut] at e1 ⊢
        refine ⟨a, t, o, b, Z, rfl, hA.same e1, fun x z => ?_, SqL.of upd_same, Nat.le_trans hb (by decide), fun H' r hA' bt hr' nra nr => ?_⟩
        · cases hx : H x with
          | none => exact absurd hx (hZ x z)
          | some u => rw [e1 _ _ hx]; exact nofun
        · have nrt : r ≠ t := fun z => by rw [z, upd_same] at nr; cases nr
          rw [upd_ne nrt] at nr
          exact kk H' r hA' (fun x u nx hx _ => bt _ _ nx (e1 _ _ hx)) (tabs_but (tabs_same hT e1) bt (e1 _ _ ha) ins_tbl (fun _ z => by cases z)) hr' nra (Fresh.of nr)
      | _ => cases c0
    · rw [decide_eq_false c0]
      refine iteF ⟨_, rfl, a, D.cH, dx, _, _, rfl, ha, T.kH, T.hH, fH_held v, rfl, _, rfl, ?_⟩
      cases o with
      | none =>
        have hv : v = .non := hv
        subst hv
        rw [told_none c0] at kk
        refine iteT' (decide_eq_true rfl) ⟨_, rfl, by show 1 ≤ sizeLine; decide, fun t ht => ?_⟩
        exact kk _ t (hA.same (same_upd ht)) (fun x u _ hx _ => same_upd ht _ _ hx) (tabs_same hT (same_upd ht)) (by rw [upd_same]; rfl) (fun z => by rw [z, ha] at ht; cases ht) (Fresh.of ht)
      | some s =>
        obtain ⟨b, rfl, hb, hR⟩ := hv
        rw [told_some c0] at kk
        have outT : OutT D H Q (ansOf s k) := fun H' r e T' fr hr' => kk H' r (hA.ext e) (fun x u _ hx nb => e _ _ hx nb) T' hr' (fr.ne ha ins_tbl).symm fr
        have out : Out H Q (ansOf s k) := fun H' r e nr hr' => outT H' r (extN_same e) (tabs_same hT e) (Fresh.of nr) hr'
        refine iteF' (decide_eq_false (by simp)) ⟨_, rfl, c, _, _, _, rfl, rfl, SqL.of hc, atI_nat (j := 0) g0, rfl, _, rfl, ?_⟩
        rw [ed]
        cases hs with
        | load b hb => exact absurd rfl c0
        | conflicts n hn =>
          exact iteT' (decide_eq_true rfl) ⟨_, rfl, a, D.cH, dx, _, _, rfl, ha, T.kH, T.hH, fH_held _, _, rfl, c, _, _, _, rfl, rfl, SqL.of hc, atI_nat (j := 1) rfl, b, s, n, rfl, hb.at, hR, out⟩
        | leftOut n hn =>
          refine iteF' (decide_eq_false (by simp [numOf])) ⟨_, rfl, c, _, _, _, rfl, rfl, SqL.of hc, atI_nat (j := 0) rfl, rfl, _, rfl, ?_⟩
          exact iteT' (by decide) ⟨_, rfl, a, D.cH, dx, _, _, rfl, ha, T.kH, T.hH, fH_held _, _, rfl, c, _, _, _, rfl, rfl, SqL.of hc, atI_nat (j := 1) rfl, b, s, n, rfl, hb.at, hR, out⟩
        | evidence i g m h1 h2 h3 =>
          refine iteF' (decide_eq_false (by simp [numOf])) ⟨_, rfl, c, _, _, _, rfl, rfl, SqL.of hc, atI_nat (j := 0) rfl, rfl, _, rfl, ?_⟩
          refine iteF' (by decide) ⟨_, rfl, c, _, _, _, rfl, rfl, SqL.of hc, atI_nat (j := 0) rfl, rfl, _, rfl, ?_⟩
          refine iteT' (by decide) ⟨_, rfl, a, D.cH, dx, _, _, rfl, ha, T.kH, T.hH, fH_held _, _, rfl, c, _, _, _, rfl, rfl, SqL.of hc, atI_nat (j := 1) rfl, _, rfl, c, _, _, _, rfl, rfl, SqL.of hc, atI_nat (j := 2) rfl, by show 2 ≤ sizeLine; decide, fun p hp => ?_⟩
          have e1 : Same H (upd H p (.tup [.int i, .int g])) := same_upd hp
          exact ⟨_, rfl, c, _, _, _, rfl, rfl, SqL.of (e1 _ _ hc), atI_nat (j := 3) rfl, b, p, s, i, g, m, rfl, (hb.same e1).at, hR, upd_same, out.on e1⟩
        | doubts m h1 =>
          refine iteF' (decide_eq_false (by simp [numOf])) ⟨_, rfl, c, _, _, _, rfl, rfl, SqL.of hc, atI_nat (j := 0) rfl, rfl, _, rfl, ?_⟩
          refine iteF' (by decide) ⟨_, rfl, c, _, _, _, rfl, rfl, SqL.of hc, atI_nat (j := 0) rfl, rfl, _, rfl, ?_⟩
          refine iteF' (by decide) ⟨_, rfl, c, _, _, _, rfl, rfl, SqL.of hc, atI_nat (j := 0) rfl, rfl, _, rfl, ?_⟩
          exact iteT' (by decide) ⟨_, rfl, a, D.cH, dx, _, _, rfl, ha, T.kH, T.hH, fH_held _, _, rfl, c, _, _, _, rfl, rfl, SqL.of hc, atI_nat (j := 1) rfl, b, s, m, rfl, hb.at, hR, hT, outT⟩
        | keptOut m i h1 h2 =>
          refine iteF' (decide_eq_false (by simp [numOf])) ⟨_, rfl, c, _, _, _, rfl, rfl, SqL.of hc, atI_nat (j := 0) rfl, rfl, _, rfl, ?_⟩
          refine iteF' (by decide) ⟨_, rfl, c, _, _, _, rfl, rfl, SqL.of hc, atI_nat (j := 0) rfl, rfl, _, rfl, ?_⟩
          refine iteF' (by decide) ⟨_, rfl, c, _, _, _, rfl, rfl, SqL.of hc, atI_nat (j := 0) rfl, rfl, _, rfl, ?_⟩
          refine iteF' (by decide) ⟨_, rfl, c, _, _, _, rfl, rfl, SqL.of hc, atI_nat (j := 0) rfl, rfl, _, rfl, ?_⟩
          exact iteT' (by decide) ⟨_, rfl, a, D.cH, dx, _, _, rfl, ha, T.kH, T.hH, fH_held _, _, rfl, c, _, _, _, rfl, rfl, SqL.of hc, atI_nat (j := 1) rfl, _, rfl, c, _, _, _, rfl, rfl, SqL.of hc, atI_nat (j := 2) rfl, b, s, m, i, rfl, hb.at, hR, hT, outT⟩
        | cross m h1 =>
          refine iteF' (decide_eq_false (by simp [numOf])) ⟨_, rfl, c, _, _, _, rfl, rfl, SqL.of hc, atI_nat (j := 0) rfl, rfl, _, rfl, ?_⟩
          refine iteF' (by decide) ⟨_, rfl, c, _, _, _, rfl, rfl, SqL.of hc, atI_nat (j := 0) rfl, rfl, _, rfl, ?_⟩
          refine iteF' (by decide) ⟨_, rfl, c, _, _, _, rfl, rfl, SqL.of hc, atI_nat (j := 0) rfl, rfl, _, rfl, ?_⟩
          refine iteF' (by decide) ⟨_, rfl, c, _, _, _, rfl, rfl, SqL.of hc, atI_nat (j := 0) rfl, rfl, _, rfl, ?_⟩
          refine iteF' (by decide) ⟨_, rfl, a, D.cH, dx, _, _, rfl, ha, T.kH, T.hH, fH_held _, _, rfl, c, _, _, _, rfl, rfl, SqL.of hc, atI_nat (j := 1) rfl, b, s, m, rfl, hb.at, hR, hT, outT⟩
end
end WG
set_option Elab.async false
set_option linter.all false
set_option maxRecDepth 100000
set_option maxHeartbeats 2000000
namespace WG
open PySem PySem.Spec PyProof.Rows L2
open PySem.W (WData Codec OpenSpec Well WellAll ReadsW ReadsAllW)
open LamX (TabB Tabs TabS ExtN)
/-! ### the end, with tables of code objects -/
abbrev emptyTab : Obj := { cls := .none, data := .fields #[] }
theorem spec_callTs {P : Program} {w : World} {K : PySem.W.Frag} {mg mb : Str → Option Value} {CX : CXT} {k : Nat} {fa : Addr} {cs : List (Addr × Addr)} {fd : FuncData} {ps : List Str} {sp : Sp} {s₁ : Shared} {vals : List Value} {ds : List WData} {R : PySem.W.WRecords} {cl : Str → Option Addr} {d0 : WData}
    (KX : K.In s₁.heap) (hns : s₁.heap.Ns mainGlobals mg) (hb : s₁.heap.Ns builtinsNs mb) (hbb : ∀ x : Str, x ≠ "__name__" → mb x = bootBuiltins x) (hlim : s₁.heap.NoLimit) (hg : s₁.gens = #[])
    (hT : ∀ p ∈ cs, s₁.heap.get? p.2 = some emptyTab) (nT : ∀ p ∈ cs, K.lookup p.2 = none) (C : ∀ p ∈ cs, PySem.W.CodeHd s₁.heap p.1 p.2)
    (hbm : ∃ (bm : Addr) (ob : Obj), mg "__builtins__" = some (.ref bm) ∧ bm ≠ builtinsNs ∧ s₁.heap.get? bm = some ob ∧ ob.cls = .type "module" ∧ ob.dict = some builtinsNs ∧ ob.data = .plain)
    (hwl : WellAll w.params s₁.heap vals ds) (hpl : plWs ds = true) (hwt : ∀ d ∈ ds, d.weight ≤ 1048576) (hr : Room k callerA)
    (F : ∀ base : Heap, K.In base → base.Ns mainGlobals mg → (∀ p ∈ cs, TabB base mg p.1 p.2) → FnOk P w K mg base CX k fa fd ps sp) (hbind : ∀ (s : Shared) (us : List Value), us.length = ps.length → BindsTo s fd ⟨us, []⟩ (ps.zip us)) (hlen : ds.length = ps.length)
    (hsp : ∀ (H : Hp) (xs : List V), (∀ p ∈ cs, H p.2 = some (.tbl #[])) → DwAll K H xs ds → sp xs H (fun v H' => Dw K H' v d0) fun _ _ _ => False)
    (hCX : ∀ H e s', CX [] H s₁ (fun _ _ _ => False) e s' → False) :
    codeAny (model P w) callerA (.call (.ref fa) ⟨vals, []⟩) (fun r s' => ∃ u as, r = .ok (.ret u) ∧ ReadsW R cl s'.heap u d0 as ∧ OldK s₁.heap s'.heap ∧ s'.os = s₁.os ∧ AllBare s'.gens) s₁ := by
  obtain ⟨A, ho, ar⟩ := area_all ds vals hwl hpl hwt
  have hO0 : OnlyF (argH K s₁.heap A) := argH_only ar
  have hok0 : HOk P w (argH K s₁.heap A) s₁.heap := argH_ok ar
  have hS0 := dw_all KX ar ds vals hwl hpl ho
  have hV := vals_toV ho
  have hK0 : ∀ b u, argH K s₁.heap A b = some u → K.lookup b = none := fun b u q => (argH_is ar q).1
  have isT : ∀ b : Addr, b ∈ cs.map (·.2) → s₁.heap.get? b = some emptyTab := fun b hb => by
    obtain ⟨p, hp, e⟩ := List.mem_map.mp hb
    rw [← e]
    exact hT p hp
  have memT : ∀ p ∈ cs, p.2 ∈ cs.map (·.2) := fun p hp => List.mem_map.mpr ⟨p, hp, rfl⟩
  have apart : ∀ b u, argH K s₁.heap A b = some u → b ∉ cs.map (·.2) := fun b u q hb => by
    have e := isT b hb
    obtain ⟨_, vs, _, _, ⟨e2, _⟩ | ⟨e2, _⟩⟩ := argH_is ar q
    · rw [e2] at e
      have z := congrArg Obj.data (Option.some.inj e)
      cases (show Data.seq vs.toArray _ = Data.fields #[] from z)
    · rw [e2] at e
      have z := congrArg Obj.data (Option.some.inj e)
      cases (show Data.seq vs.toArray _ = Data.fields #[] from z)
  have seqs : ∀ b u, argH K s₁.heap A b = some u → ∃ o vs n, s₁.heap.get? b = some o ∧ o.data = .seq vs n := fun b u q => by
    obtain ⟨_, vs, _, _, ⟨e2, _⟩ | ⟨e2, _⟩⟩ := argH_is ar q
    · exact ⟨_, _, _, e2, rfl⟩
    · exact ⟨_, _, _, e2, rfl⟩
  generalize argH K s₁.heap A = H0 at hO0 hok0 hS0 hK0 apart seqs
  -- the tables are tracked, too
  obtain ⟨H, eH⟩ : ∃ H : Hp, H = fun b => if b ∈ cs.map (·.2) then some (HO.tbl #[]) else H0 b := ⟨_, rfl⟩
  have inT : ∀ b, b ∈ cs.map (·.2) → H b = some (.tbl #[]) := fun b hb => by rw [eH]; exact if_pos hb
  have outT : ∀ b, b ∉ cs.map (·.2) → H b = H0 b := fun b hb => by rw [eH]; exact if_neg hb
  have old : ∀ b u, H0 b = some u → H b = some u := fun b u q => by rw [outT b (apart b u q)]; exact q
  have hH : ∀ p ∈ cs, H p.2 = some (.tbl #[]) := fun p hp => inT _ (memT p hp)
  have hO : ∀ b, H b = none ∨ b ∈ cs.map (·.2) ∨ ∃ o u, H b = some (.frz o u) := fun b => by
    by_cases hb : b ∈ cs.map (·.2)
    · exact .inr (.inl hb)
    · rw [outT b hb]
      rcases hO0 b with z | z
      · exact .inl z
      · exact .inr (.inr z)
  have hok : HOk P w H s₁.heap := fun b u q => by
    by_cases hb : b ∈ cs.map (·.2)
    · rw [inT b hb] at q
      cases q
      exact isT b hb
    · rw [outT b hb] at q
      refine (hok0 b u q).stay (fun c v _ z => z) (fun c z => old c _ z) fun c xs z => old c _ z
  have sq : ∀ {a : Addr} {xs : List V}, SqL K H0 a xs → SqL K H a xs := fun {a xs} h => by
    rcases h with (h | ⟨o, h⟩) | h
    · exact .inl (.inl (old _ _ h))
    · exact .inl (.inr ⟨o, old _ _ h⟩)
    · exact .inr h
  have sqt : ∀ {a : Addr} {xs : List V}, SqT K H0 a xs → SqT K H a xs := fun {a xs} h => by
    rcases h with (h | ⟨o, h⟩) | h
    · exact .inl (.inl (old _ _ h))
    · exact .inl (.inr ⟨o, old _ _ h⟩)
    · exact .inr h
  have hS : DwAll K H (vals.map toV) ds := by
    have one : ∀ {v : V} {d : WData}, Dw K H0 v d → Dw K H v d := fun {v d} x =>
      Dw.rec (motive_1 := fun v d _ => Dw K H v d) (motive_2 := fun vs ds _ => DwAll K H vs ds) .non (fun b => .bl b) (fun i => .int i) (fun x => .str x) (fun b => .byt b) (fun h _ ih => .lst (sq h) ih) (fun h _ ih => .tup (sqt h) ih) .nil (fun _ _ a b => .cons a b) x
    have all : ∀ {vs : List V} {ds : List WData}, DwAll K H0 vs ds → DwAll K H vs ds := fun {vs ds} x => by
      induction ds generalizing vs with
      | nil => cases x; exact .nil
      | cons d ds ih =>
        cases x with
        | cons a b => exact .cons (one a) (ih b)
    exact all hS0
  have hK : ∀ b u, H b = some u → b ∉ cs.map (·.2) → K.lookup b = none := fun b u q hb => hK0 b u (by rw [← outT b hb]; exact q)
  have noD : ∀ {b : Addr} {o : Obj}, s₁.heap.get? b = some o → (∀ vs n, o.data ≠ .seq vs n) → o.data ≠ .fields #[] → H b = none := fun {b o} e h1 h2 => by
    cases q : H b with
    | none => rfl
    | some u =>
      by_cases hb : b ∈ cs.map (·.2)
      · rw [isT b hb] at e
        cases e
        exact (h2 rfl).elim
      · rw [outT b hb] at q
        obtain ⟨o', vs, n, e2, d2⟩ := seqs b u q
        rw [e] at e2
        cases e2
        exact (h1 _ _ d2).elim
  have noA : ∀ {b : Addr} {o : Obj} {es : Array DictEntry} {ep : Nat}, s₁.heap.get? b = some o → o.data = .dict es ep → H b = none := fun {b o es ep} e d => by
    refine noD e (fun vs n z => ?_) fun z => ?_
    · rw [d] at z
      cases z
    · rw [d] at z
      cases z
  have base_of : ∀ {b : Addr} {o : Obj}, s₁.heap.get? b = some o → H b = none → (hidT s₁.heap H).get? b = some o := fun e n => hidT_get e n
  have nsK : ∀ {b : Addr} {m : Str → Option Value}, s₁.heap.Ns b m → (hidT s₁.heap H).Ns b m := fun {b m} ⟨o, es, ep, e, d, r⟩ => ⟨o, es, ep, base_of e (noA e d), d, r⟩
  have nK : ∀ b o, K.lookup b = some o → H b = none := fun b o e => by
    cases q : H b with
    | none => rfl
    | some u =>
      by_cases hb : b ∈ cs.map (·.2)
      · obtain ⟨p, hp, ep⟩ := List.mem_map.mp hb
        rw [← ep, nT p hp] at e
        cases e
      · rw [hK b u q hb] at e
        cases e
  have hKb : K.In (hidT s₁.heap H) := fun b o e => base_of (KX b o e) (nK b o e)
  have hM : Mod K mg (hidT s₁.heap H) := ⟨hKb, nsK hns, ⟨mb, nsK hb, hbb⟩, let ⟨mc, h1, h2⟩ := hlim; ⟨mc, nsK h1, h2⟩⟩
  have TB : ∀ p ∈ cs, TabB (hidT s₁.heap H) mg p.1 p.2 := fun p hp => by
    have hTp := hT p hp
    refine ⟨?_, ?_, fun z => ?_⟩
    · obtain ⟨o, us, file, tf, flags, tg, inF, text, tt, e1, r1, r2, r3, r4, r5, r6, r7, r8, hne⟩ := C p hp
      refine ⟨o, us, file, tf, flags, tg, inF, text, tt, base_of e1 (noD e1 (fun vs n z => ?_) fun z => ?_), r1, r2, r3, r4, r5, r6, r7, r8, hne⟩
      · rw [r2] at z
        cases z
      · rw [r2] at z
        cases z
        simp at r3
    · obtain ⟨bm, ob, b1, b2, b3, b4, b5, b6⟩ := hbm
      have nG : bm ≠ mainGlobals := fun q => by
        obtain ⟨o, es, ep, e, hd, _⟩ := hns
        rw [q, e] at b3
        cases b3
        rw [hd] at b6
        cases b6
      have nP : bm ≠ p.2 := fun q => by
        rw [q, hTp] at b3
        cases b3
        cases b6
      refine ⟨bm, ob, b1, b2, nG, nP, base_of b3 (noD b3 (fun vs n z => ?_) fun z => ?_), b4, b5, b6⟩
      · rw [b6] at z
        cases z
      · rw [b6] at z
        cases z
    · obtain ⟨o, es, ep, e, hd, _⟩ := hns
      rw [z, hTp] at e
      cases e
      cases hd
  have e0 : Env0 P w K mg (hidT s₁.heap H) callerA [] s₁ H := ⟨rfl, hM, fun b o e => of_hidT e, Nat.le_of_eq (hidT_size _ _), trivial, fun b hb => absurd (show b ∈ ([] : List Addr) from hb) (by simp), hok, .of_eq hg⟩
  have hl : vals.length = ps.length := by rw [wellAll_len hwl]; exact hlen
  refine codeAny_mono ((F _ hKb (nsK hns) TB).run callerA [] s₁ H ⟨vals, []⟩ vals (vals.map toV) _ _ hr e0 (hbind s₁ vals hl) hV (hsp H _ hH hS)) fun r s' x => ?_
  cases r with
  | error e => exact (hCX H e s' x).elim
  | ok fl =>
    cases fl with
    | next => exact False.elim x
    | brk => exact False.elim x
    | cont => exact False.elim x
    | ret u =>
      obtain ⟨v, H', os, bare, un, hok', r', q⟩ := x
      have key : ∀ b o, b ∉ cs.map (·.2) → s₁.heap.get? b = some o → s'.heap.get? b = some o := fun b o nb e => by
        cases q2 : H b with
        | none => exact un.keep b o e q2 (by intro z; exact absurd (show b ∈ ([] : List Addr) from z) (by simp)) (by simp)
        | some u2 =>
          rcases hO b with z | z | ⟨ob, u3, z⟩
          · rw [q2] at z
            cases z
          · exact absurd z nb
          · have z2 := un.frzs b ob _ z
            obtain ⟨e1, _⟩ := hok b _ z
            obtain ⟨e2, _⟩ := hok' b _ z2
            rw [e] at e1
            cases e1
            exact e2
      have grown : ∀ p ∈ cs, ∃ more : Array Value, s'.heap.get? p.2 = some { cls := .none, data := .fields more } := fun p hp => by
        obtain ⟨more, z⟩ := un.tbls p.2 #[] (hH p hp)
        exact ⟨_, hok' p.2 _ z⟩
      have KX' : K.In s'.heap := fun b o e => key b o (fun hb => by
        obtain ⟨p, hp, ep⟩ := List.mem_map.mp hb
        rw [← ep, nT p hp] at e
        cases e) (KX b o e)
      obtain ⟨as, hrd⟩ := Dw.reads (R := R) (cl := cl) hok' KX' d0 v u q r'
      refine ⟨u, as, rfl, hrd, ⟨fun b o e => ?_, fun b o e => ?_⟩, os, bare⟩
      · by_cases hb : b ∈ cs.map (·.2)
        · obtain ⟨p, hp, ep⟩ := List.mem_map.mp hb
          obtain ⟨more, hm⟩ := grown p hp
          rw [← ep] at e ⊢
          rw [hT p hp] at e
          cases e
          exact .inr (.inl ⟨((C p hp).tab (hT p hp)).isCodeTable, rfl, #[], more, rfl, by rw [Array.empty_append]; exact hm⟩)
        · exact .inl (key b o hb e)
      · by_cases hb : b ∈ cs.map (·.2)
        · obtain ⟨p, hp, ep⟩ := List.mem_map.mp hb
          obtain ⟨more, hm⟩ := grown p hp
          rw [← ep]
          exact ⟨_, hm⟩
        · exact ⟨o, key b o hb e⟩
/-- the goal that k_headS leaves, tables beside it -/
theorem walk_specTs {r : OpenSpec} {k : Nat} {q : Program} {loose : List Str} {XP : (Str → Option Value) → Heap → Prop} {YP : World → Heap → Prop} {d : DefRec} {K : Params → PySem.W.Frag} {CX : CXT} {ps : List Str} {sp : PySem.W.Frag → Sp} {cs : PySem.W.Frag → List (Addr × Addr)}
    (hwell : r.wellSaid = true) (hdf : d.params.defaults = []) (hlen : r.args.length = ps.length) (hr : Room k callerA)
    (hY : ∀ (w : World) (h : Heap), YP w h → (K w.params).In h)
    (tabs : ∀ (w : World) (mean : ExcName → Option Value) (mg mb : Str → Option Value) (h : Heap), YP w h → Top q (PySem.W.looseW q loose) mean mg mb h → ∀ p ∈ cs (K w.params), (PySem.W.CodeHd h p.1 p.2 ∧ h.get? p.2 = some emptyTab) ∧ (K w.params).lookup p.2 = none)
    (F : ∀ (w : World) (mg : Str → Option Value) (fa : Addr) (h : Heap), YP w h → (K w.params).In h → h.Ns mainGlobals mg → mg d.name = some (.ref fa) →
      ∃ fd : FuncData, (∀ (s : Shared) (us : List Value), us.length = ps.length → BindsTo s fd ⟨us, []⟩ (ps.zip us)) ∧
        ∀ base : Heap, (K w.params).In base → base.Ns mainGlobals mg → (∀ p ∈ cs (K w.params), TabB base mg p.1 p.2) → FnOk r.prog w (K w.params) mg base CX k fa fd ps (sp (K w.params)))
    (hsp : ∀ (K : PySem.W.Frag) (H : Hp) (xs : List V) (a : Codec.denoteAll r.args), (∀ p ∈ cs K, H p.2 = some (.tbl #[])) → Codec.withinAll r.args a = true → Codec.app r.args r.asked a = true → DwAll K H xs (Codec.encAll r.args a) →
      sp K xs H (fun v H' => Dw K H' v (r.ret.enc (Codec.app r.args r.f a))) fun _ _ _ => False)
    (hCX : ∀ (H : Hp) (s : Shared) (e : Value) (s' : Shared), CX [] H s (fun _ _ _ => False) e s' → False) :
    PySem.W.WalkOS q loose XP YP r d [] (fun f vs => PySem.call f vs) := by
  intro w s₀ s₁ mg mb G Y fa o pm cd doc dV kV ho hd hcd hD hmg hg args vals as hpre hlay hrd hwl hlo
  obtain ⟨a, e1, e2⟩ := PySem.W.os_pre_some hpre
  obtain ⟨e3, hwi⟩ := Codec.encAll_of_decAll r.args args a e1
  subst e3
  have KX := hY w _ Y
  have TT := tabs w _ mg mb _ Y G.T
  obtain ⟨fd, hb, hF⟩ := F w mg fa _ Y KX G.T.g hmg
  refine PySem.W.enter_call (codeAny_mono (spec_callTs (R := []) (cl := classAt s₀.heap) (d0 := r.ret.enc (Codec.app r.args r.f a)) KX G.T.g G.T.b G.T.builtins G.T.nolimit hg (fun p hp => (TT p hp).1.2) (fun p hp => (TT p hp).2) (fun p hp => (TT p hp).1.1) G.T.bmain hwl (pl_encAll _ _) (layable_weight hlay) hr hF hb (by rw [encAll_len]; exact hlen)
    (fun H xs hO hS => hsp (K w.params) H xs a hO hwi e2 hS) fun H e s' => hCX H s₁ e s') fun r' s' hq => ?_)
  obtain ⟨u, as', rfl, h1, h2, h3, h4⟩ := hq
  exact ⟨.inl ⟨u, _, as', rfl, fun _ => rfl, h1, (OpenSpec.post_iff hwell hwi _ _).mpr rfl, fun z => Bool.noConfusion (show false = true from z)⟩, h2, h3, h4⟩
/-- where a def's code object and its table stand -/
def tabGet (K : PySem.W.Frag) (x : Str) : Addr × Addr := (PySem.W.tabIn K x).getD (0, 0)
theorem tab_get {K : PySem.W.Frag} {x : Str} (h : (PySem.W.tabIn K x).isSome = true) : PySem.W.tabIn K x = some ((tabGet K x).1, (tabGet K x).2) := by
  unfold tabGet
  cases q : PySem.W.tabIn K x with
  | none => rw [q] at h; cases h
  | some p => rfl
theorem not_there {K : PySem.W.Frag} {a : Addr} (h : (K.lookup a).isNone = true) : K.lookup a = none := Option.isNone_iff_eq_none.mp h
/-- the code of a def that stands in the written part -/
theorem code_is {K : PySem.W.Frag} {h : Heap} {mg : Str → Option Value} {x : Str} {c P f : Addr} {fd : FuncData} {oc : Value} {od : Option Addr} {osl : Array (Option Value)} (KX : K.In h) (G : h.Ns mainGlobals mg) (ht : PySem.W.tabIn K x = some (c, P)) (hm : mg x = some (.ref f)) (lk : K.lookup f = some ⟨oc, od, .func fd, osl⟩) : fd.code = .ref c :=
  PySem.W.law_code KX G ht hm (KX _ _ lk) rfl
end WG
set_option Elab.async false
set_option linter.all false
set_option maxRecDepth 100000
set_option maxHeartbeats 2000000
namespace WG
open PySem PySem.Spec PyProof.Rows L2
/-! ### what the top has written, fact by fact -/
section
variable {K : PySem.W.Frag} {h : Heap} {mg : Str → Option Value} {goal : Prop}
theorem with_at (X : K.In h) (G : h.Ns mainGlobals mg) {x : Str} {st : Stmt} {ps : List Str} {f : Addr} {od an : Option Addr} {sl : Array (Option Value)} {oc kV dc pm cd ct : Value}
    (hb : ∀ (kV doc pm : Value) (an : Option Addr) (cdv ct : Value) (us : List Value), us.length = ps.length → bindArgs (PySem.W.fnOf x x (defArgs st) (defBody st) (defScope st) .none kV doc pm an cdv ct) ⟨us, []⟩ = pure (ps.zip us))
    (a : PySem.W.nsIn K mainGlobals x = some (some (.ref f))) (l : K.lookup f = some ⟨oc, od, .func (PySem.W.fnOf x x (defArgs st) (defBody st) (defScope st) .none kV dc pm an cd ct), sl⟩)
    (c : PySem.W.codeIn K cd x = true) (k : PySem.W.keepIn K (.ref f) = true) (next : ∀ f fd, At K mg x st ps f fd → goal) : goal :=
  next f _ ⟨fun_mk l c k, PySem.W.mg_of X G a, (fun_mk l c k).binds hb⟩
theorem with_fun (X : K.In h) {y : Str} {C : Addr} (g : mg y = some (.ref C)) {m q : Str} {st : Stmt} {ps : List Str} {f : Addr} {od an : Option Addr} {sl : Array (Option Value)} {oc kV dc pm cd ct : Value}
    (hb : ∀ (kV doc pm : Value) (an : Option Addr) (cdv ct : Value) (us : List Value), us.length = ps.length → bindArgs (PySem.W.fnOf m q (defArgs st) (defBody st) (defScope st) .none kV doc pm an cdv ct) ⟨us, []⟩ = pure (ps.zip us))
    (a : PySem.W.findIn K (.ref C) m = some (some (.ref f))) (i : PySem.W.isFn K (.ref f) = true) (l : K.lookup f = some ⟨oc, od, .func (PySem.W.fnOf m q (defArgs st) (defBody st) (defScope st) .none kV dc pm an cd ct), sl⟩)
    (c : PySem.W.codeIn K cd q = true) (k : PySem.W.keepIn K (.ref f) = true) (next : ∀ f fd, Fun K m q st f fd → Meth K C m f → Binds K fd ps [] → goal) : goal :=
  next f _ (fun_mk l c k) ⟨a, i, k⟩ ((fun_mk l c k).binds hb)
/-- an error of the class at S is what «except S» names -/
theorem exm_own {S : Addr} (h1 : PySem.W.subIn K (.ref S) (.type "BaseException") = some true) (h2 : PySem.W.isClsIn K S = true) (h3 : PySem.W.typeIn K (.ref S) = some (.type "type")) (h4 : PySem.W.subIn K (.ref S) (.ref S) = some true) : PySem.W.exmOne K (.ref S) (.ref S) = some true := by
  unfold PySem.W.exmOne
  have h2' : (PySem.W.clsIn K S).isSome = true := h2
  simp [PySem.W.kitCls, h1, h2', h3, h4]
structure MkC (K : PySem.W.Frag) (mg : Str → Option Value) (x : Str) (C : Addr) : Prop where
  mks : PySem.W.makesIn K C = true
  kp : PySem.W.keepIn K (.ref C) = true
  at_ : mg x = some (.ref C)
theorem with_txt (X : K.In h) (G : h.Ns mainGlobals mg) {cW cL cH cF aB aM aA fF : Addr} {odB odM : Option Addr} {slB slM : Array (Option Value)} {t1 t2 t3 m0 m1 m2 m3 m4 m5 tLE tRE tSE tLT tDI tMC tMB tMW tMP tLO tCO tLF tML tEV tDO tKE tMD tMX tMG : Tok} {nB nM nA : Nat} {dA : Array DictEntry}
    {nm q : Str} {N : Addr} {bs : List Value} {sn : List Str} {sub : List Value} {ab : Bool} {col : Option Bool} {dd : Option Addr} {x0 x1 x2 x3 x5 : Option Value}
    (kD pD kC pC : Addr) (nAll : PySem.W.nsIn K mainGlobals "all" = some none) (nAny : PySem.W.nsIn K mainGlobals "any" = some none) (nTuple : PySem.W.nsIn K mainGlobals "tuple" = some none) (nList : PySem.W.nsIn K mainGlobals "list" = some none) (nZip : PySem.W.nsIn K mainGlobals "zip" = some none)
    (gEV : PySem.W.nsIn K mainGlobals "EVIDENCE" = some (some (.int 3 tEV))) (gDO : PySem.W.nsIn K mainGlobals "DOUBTS" = some (some (.int 4 tDO))) (gKE : PySem.W.nsIn K mainGlobals "KEPTOUT" = some (some (.int 5 tKE)))
    (gMD : PySem.W.nsIn K mainGlobals "MOST_WORDS_TO_DOUBT" = some (some (.int 10 tMD))) (gMX : PySem.W.nsIn K mainGlobals "MOST_WORDS_TO_CROSS" = some (some (.int 6 tMX))) (gMG : PySem.W.nsIn K mainGlobals "MOST_GOALS" = some (some (.int 9 tMG)))
    (nLen : PySem.W.nsIn K mainGlobals "len" = some none) (nRange : PySem.W.nsIn K mainGlobals "range" = some none) (nEnum : PySem.W.nsIn K mainGlobals "enumerate" = some none) (nMax : PySem.W.nsIn K mainGlobals "max" = some none)
    (nMin : PySem.W.nsIn K mainGlobals "min" = some none) (nInt : PySem.W.nsIn K mainGlobals "int" = some none) (nSet : PySem.W.nsIn K mainGlobals "set" = some none) (nSorted : PySem.W.nsIn K mainGlobals "sorted" = some none)
    (aW : PySem.W.nsIn K mainGlobals "Word" = some (some (.ref cW))) (aL : PySem.W.nsIn K mainGlobals "WordList" = some (some (.ref cL))) (aH : PySem.W.nsIn K mainGlobals "Holder" = some (some (.ref cH))) (aF : PySem.W.nsIn K mainGlobals "ListFault" = some (some (.ref cF)))
    (wG : PySem.W.plainGet K cW Str.empty = true) (wD : PySem.W.hasDictIn K cW = true) (wO : PySem.W.plainOver K cW = true) (wS : PySem.W.findIn K (.ref cW) "__setattr__" = some (some (.builtin "object.__setattr__"))) (wM : PySem.W.makesIn K cW = true) (wK : PySem.W.keepIn K (.ref cW) = true)
    (lG : PySem.W.plainGet K cL Str.empty = true) (lD : PySem.W.hasDictIn K cL = true) (lO : PySem.W.plainOver K cL = true) (lS : PySem.W.findIn K (.ref cL) "__setattr__" = some (some (.builtin "object.__setattr__"))) (lM : PySem.W.makesIn K cL = true) (lK : PySem.W.keepIn K (.ref cL) = true)
    (hG : PySem.W.plainGet K cH Str.empty = true) (hD : PySem.W.hasDictIn K cH = true) (hO : PySem.W.plainOver K cH = true) (hS : PySem.W.findIn K (.ref cH) "__setattr__" = some (some (.builtin "object.__setattr__"))) (hM : PySem.W.makesIn K cH = true) (hK : PySem.W.keepIn K (.ref cH) = true)
    (w1 : PySem.W.findIn K (.ref cW) "letters" = some none) (w2 : PySem.W.findIn K (.ref cW) "breaks" = some none) (l1 : PySem.W.findIn K (.ref cL) "left" = some none) (l2 : PySem.W.findIn K (.ref cL) "right" = some none)
    (l3 : PySem.W.findIn K (.ref cL) "words" = some none) (l4 : PySem.W.findIn K (.ref cL) "patterns" = some none) (h1 : PySem.W.findIn K (.ref cH) "held" = some none)
    (aBn : PySem.W.nsIn K mainGlobals "BLANKS" = some (some (.ref aB))) (oB : K.lookup aB = some ⟨.type "tuple", odB, .seq #[.int 32 t1, .int 9 t2, .int 10 t3] nB, slB⟩)
    (aMn : PySem.W.nsIn K mainGlobals "MARGINS" = some (some (.ref aM))) (oM : K.lookup aM = some ⟨.type "tuple", odM, .seq #[.str "0" m0, .str "1" m1, .str "2" m2, .str "3" m3, .str "4" m4, .str "5" m5] nM, slM⟩)
    (aAn : PySem.W.nsIn K mainGlobals "ARGUMENTS" = some (some (.ref aA))) (oA : K.lookup aA = some ⟨.type "dict", none, .dict dA nA, #[]⟩) (iA : intsB dA = true) {tab : List (Int × Int)} (jA : (tab.all fun p => lookB dA p.1 p.2) = true)
    (gLE : PySem.W.nsIn K mainGlobals "LINE_END" = some (some (.int 10 tLE))) (gRE : PySem.W.nsIn K mainGlobals "REMARK" = some (some (.int 35 tRE))) (gSE : PySem.W.nsIn K mainGlobals "SEMICOLON" = some (some (.int 59 tSE)))
    (gLT : PySem.W.nsIn K mainGlobals "LETTERS" = some (some (.str "abcdefghijklmnopqrstuvwxyz" tLT))) (gDI : PySem.W.nsIn K mainGlobals "DIGITS" = some (some (.str "0123456789" tDI)))
    (gMC : PySem.W.nsIn K mainGlobals "MOST_CHUNK_BYTES" = some (some (.int 40 tMC))) (gMB : PySem.W.nsIn K mainGlobals "MOST_BYTES" = some (some (.int 4096 tMB))) (gMW : PySem.W.nsIn K mainGlobals "MOST_WORDS" = some (some (.int 24 tMW))) (gMP : PySem.W.nsIn K mainGlobals "MOST_PATTERNS" = some (some (.int 40 tMP)))
    (gLO : PySem.W.nsIn K mainGlobals "LOAD" = some (some (.int 0 tLO))) (gCO : PySem.W.nsIn K mainGlobals "CONFLICTS" = some (some (.int 1 tCO))) (gLF : PySem.W.nsIn K mainGlobals "LEFTOUT" = some (some (.int 2 tLF))) (gML : PySem.W.nsIn K mainGlobals "MOST_WORDS_TO_LEAVE_OUT" = some (some (.int 10 tML)))
    (xL : K.lookup cF = some (excClassObj nm q cF N bs [.type "ValueError", .type "Exception", .type "BaseException", .type "object"] true sn sub ab col dd x0 x1 x2 x3 x5 "ValueError.__new__"))
    (xS : PySem.W.findIn K (.ref cF) "__setattr__" = some (some (.builtin "object.__setattr__"))) (xE : PySem.W.subIn K (.ref cF) (.type "BaseException") = some true) (xT : PySem.W.typeIn K (.ref cF) = some (.type "type")) (xK : PySem.W.keepIn K (.ref cF) = true)
    (xG : PySem.W.findIn K (.ref cF) "__getattribute__" = some (some (.builtin "BaseException.__getattribute__"))) (xA : PySem.W.findIn K (.ref cF) "__getattr__" = some none) (xD : PySem.W.hasDictIn K cF = true)
    (xc : PySem.W.findIn K (.ref cF) "code" = some none) (xp : PySem.W.findIn K (.ref cF) "place" = some none) (xi : PySem.W.findIn K (.ref cF) "__init__" = some (some (.ref fF))) (xt : PySem.W.typeIn K (.ref fF) = some (.type "function"))
    (xI : PySem.W.isClsIn K cF = true) (xU : PySem.W.subIn K (.ref cF) (.ref cF) = some true) (ne1 : cH ≠ cL) (ne2 : cH ≠ cW)
    (next : mg "ListFault" = some (.ref cF) → Txt K mg ⟨cW, cL, cH, cF, aB, aM, aA, fF, kD, pD, kC, pC⟩ → TxtA K mg aA tab → MkC K mg "Word" cW → MkC K mg "WordList" cL → MkC K mg "Holder" cH → cH ≠ cL → cH ≠ cW → goal) : goal := by
  have g : ∀ {x : Str} {v : Value}, PySem.W.nsIn K mainGlobals x = some (some v) → mg x = some v := fun a => PySem.W.mg_of X G a
  have z : ∀ {x : Str}, PySem.W.nsIn K mainGlobals x = some none → mg x = none := fun a => PySem.W.mg_none_of X G a
  refine next (g aF) ⟨z nLen, z nRange, z nEnum, z nMax, z nMin, z nInt, z nSet, z nSorted, ⟨wG, wD, wO, wS⟩, ⟨lG, lD, lO, lS⟩, ⟨hG, hD, hO, hS⟩, w1, w2, l1, l2, l3, l4, h1, ⟨_, g aBn, rfl⟩, fun H => .inr ⟨_, _, _, oB, rfl, rfl, ?_, ?_⟩,
    ⟨_, g gLE, _, rfl⟩, ⟨_, g gRE, _, rfl⟩, ⟨_, g gSE, _, rfl⟩, ⟨_, g gLT, _, rfl⟩, ⟨_, g gDI, _, rfl⟩, ⟨_, g gMC, _, rfl⟩, ⟨_, g gMB, _, rfl⟩, ⟨_, g gMW, _, rfl⟩, ⟨_, g gMP, _, rfl⟩, ⟨_, g aMn, rfl⟩, fun H => .inr ⟨_, _, _, oM, rfl, rfl, ?_, ?_⟩,
    ⟨_, g gLO, _, rfl⟩, ⟨_, g gCO, _, rfl⟩, ⟨_, g gLF, _, rfl⟩, ⟨_, g gML, _, rfl⟩, ⟨⟨nm, q, N, bs, _, sn, sub, ab, col, dd, x0, x1, x2, x3, x5, xL, by decide +kernel⟩, xS, xE, xT, xK⟩, ⟨xG, xA, xE, xD⟩, xc, xp, xi, xt, g aF, exm_own xE xI xT xU, z nAll, z nAny, z nTuple, z nList, z nZip, ⟨_, g gEV, _, rfl⟩, ⟨_, g gDO, _, rfl⟩, ⟨_, g gKE, _, rfl⟩, ⟨_, g gMD, _, rfl⟩, ⟨_, g gMX, _, rfl⟩, ⟨_, g gMG, _, rfl⟩⟩
    ⟨⟨_, g aAn, rfl⟩, fun p hp => kiat_of oA iA (List.all_eq_true.mp jA p hp)⟩ ⟨wM, wK, g aW⟩ ⟨lM, lK, g aL⟩ ⟨hM, hK, g aH⟩ ne1 ne2
  · show 3 ≤ sizeLine
    decide
  · exact .cons ⟨_, rfl⟩ (.cons ⟨_, rfl⟩ (.cons ⟨_, rfl⟩ .nil))
  · show 6 ≤ sizeLine
    decide
  · exact .cons ⟨_, rfl⟩ (.cons ⟨_, rfl⟩ (.cons ⟨_, rfl⟩ (.cons ⟨_, rfl⟩ (.cons ⟨_, rfl⟩ (.cons ⟨_, rfl⟩ .nil)))))
theorem at_code {x : Str} {st : Stmt} {ps : List Str} {f c T : Addr} {fd : FuncData} (X : K.In h) (G : h.Ns mainGlobals mg) (A : At K mg x st ps f fd) (t : PySem.W.tabIn K x = some (c, T)) : fd.code = .ref c := by
  obtain ⟨oc, od, kV, doc, pm, an, cdv, ct, osl, rfl, lk, hcd⟩ := A.fn.ex
  exact code_is X G t A.mgf lk
end
/-- the two tables of code objects, as they stand in the written part -/
def tabsK (K : PySem.W.Frag) : List (Addr × Str) := [((tabGet K "find_doubts").2, qD), ((tabGet K "choose_set").2, qC)]
theorem tabsK_new {K : PySem.W.Frag} {H : Hp} (h : ∀ p ∈ [tabGet K "find_doubts", tabGet K "choose_set"], H p.2 = some (.tbl #[])) : LamX.Tabs (tabsK K) H := fun p hp => by
  rcases List.mem_cons.mp hp with q | q
  · rw [q]
    exact LamX.TabS.nil (h _ (.head _))
  · rw [List.mem_singleton.mp q]
    exact LamX.TabS.nil (h _ (.tail _ (.head _)))
end WG
set_option Elab.async false
set_option linter.all false
set_option maxRecDepth 100000
set_option maxHeartbeats 4000000
namespace WG
open PySem PySem.Spec PyProof.Rows L2
theorem all_ok {P : Program} {w : World} {K : PySem.W.Frag} {mg : Str → Option Value} {D : Ads} {fa : Addr} {tab : List (Int × Int)} (hfa : mg "answers" = some (.ref fa)) (htab : tab = behindT)
    (T : Txt K mg D) (TA : TxtA K mg D.aA tab) (MW : MkC K mg "Word" D.cW) (ML : MkC K mg "WordList" D.cL) (MH : MkC K mg "Holder" D.cH) (n1 : D.cH ≠ D.cL) (n2 : D.cH ≠ D.cW) (nP : D.pD ≠ D.pC)
    {f_find_spots : Addr} {fd_find_spots : FuncData} (A_find_spots : At K mg "find_spots" s_find_spots ["wordlist"] f_find_spots fd_find_spots)
    {f_may_part : Addr} {fd_may_part : FuncData} (A_may_part : At K mg "may_part" s_may_part ["wordlist", "spot"] f_may_part fd_may_part)
    {f_look_around : Addr} {fd_look_around : FuncData} (A_look_around : At K mg "look_around" s_look_around ["letters", "gap", "length"] f_look_around fd_look_around)
    {f_touches_all : Addr} {fd_touches_all : FuncData} (A_touches_all : At K mg "touches_all" s_touches_all ["chosen", "pairs"] f_touches_all fd_touches_all)
    {f_list_word_sets : Addr} {fd_list_word_sets : FuncData} (A_list_word_sets : At K mg "list_word_sets" s_list_word_sets ["count"] f_list_word_sets fd_list_word_sets)
    {f_point_pieces : Addr} {fd_point_pieces : FuncData} (A_point_pieces : At K mg "point_pieces" s_point_pieces ["letters", "gap", "place", "end"] f_point_pieces fd_point_pieces)
    {f_find_pieces_around : Addr} {fd_find_pieces_around : FuncData} (A_find_pieces_around : At K mg "find_pieces_around" s_find_pieces_around ["letters", "gap", "length"] f_find_pieces_around fd_find_pieces_around)
    {f_find_remark_end : Addr} {fd_find_remark_end : FuncData} (A_find_remark_end : At K mg "find_remark_end" s_find_remark_end ["text", "place"] f_find_remark_end fd_find_remark_end)
    {f_skip_blanks : Addr} {fd_skip_blanks : FuncData} (A_skip_blanks : At K mg "skip_blanks" s_skip_blanks ["text", "place"] f_skip_blanks fd_skip_blanks)
    {f_find_chunk_sign : Addr} {fd_find_chunk_sign : FuncData} (A_find_chunk_sign : At K mg "find_chunk_sign" s_find_chunk_sign ["byte"] f_find_chunk_sign fd_find_chunk_sign)
    {f_read_chunk : Addr} {fd_read_chunk : FuncData} (A_read_chunk : At K mg "read_chunk" s_read_chunk ["text", "place"] f_read_chunk fd_read_chunk)
    {f_fault_init : Addr} {fd_fault_init : FuncData} (F_fault_init : Fun K "__init__" "ListFault.__init__" s_ListFault_init f_fault_init fd_fault_init) (M_fault_init : Meth K D.cF "__init__" f_fault_init) (B_fault_init : Binds K fd_fault_init ["self", "code", "place"] [])
    {f_read_token : Addr} {fd_read_token : FuncData} (A_read_token : At K mg "read_token" s_read_token ["text", "place"] f_read_token fd_read_token)
    {f_read_tokens : Addr} {fd_read_tokens : FuncData} (A_read_tokens : At K mg "read_tokens" s_read_tokens ["text"] f_read_tokens fd_read_tokens)
    {f_need_signs : Addr} {fd_need_signs : FuncData} (A_need_signs : At K mg "need_signs" s_need_signs ["tokens", "at", "signs"] f_need_signs fd_need_signs)
    {f_need_chunk : Addr} {fd_need_chunk : FuncData} (A_need_chunk : At K mg "need_chunk" s_need_chunk ["tokens", "at"] f_need_chunk fd_need_chunk)
    {f_read_margin : Addr} {fd_read_margin : FuncData} (A_read_margin : At K mg "read_margin" s_read_margin ["tokens", "at"] f_read_margin fd_read_margin)
    {f_Word_init : Addr} {fd_Word_init : FuncData} (F_Word_init : Fun K "__init__" "Word.__init__" s_Word_init f_Word_init fd_Word_init) (M_Word_init : Meth K D.cW "__init__" f_Word_init) (B_Word_init : Binds K fd_Word_init ["self", "letters", "breaks"] [])
    {f_WordList_init : Addr} {fd_WordList_init : FuncData} (F_WordList_init : Fun K "__init__" "WordList.__init__" s_WordList_init f_WordList_init fd_WordList_init) (M_WordList_init : Meth K D.cL "__init__" f_WordList_init) (B_WordList_init : Binds K fd_WordList_init ["self", "left", "right", "words", "patterns"] [])
    {f_parse_word : Addr} {fd_parse_word : FuncData} (A_parse_word : At K mg "parse_word" s_parse_word ["chunk"] f_parse_word fd_parse_word)
    {f_read_word : Addr} {fd_read_word : FuncData} (A_read_word : At K mg "read_word" s_read_word ["tokens", "at", "earlier"] f_read_word fd_read_word)
    {f_read_pattern_letters : Addr} {fd_read_pattern_letters : FuncData} (A_read_pattern_letters : At K mg "read_pattern_letters" s_read_pattern_letters ["inner"] f_read_pattern_letters fd_read_pattern_letters)
    {f_parse_pattern : Addr} {fd_parse_pattern : FuncData} (A_parse_pattern : At K mg "parse_pattern" s_parse_pattern ["chunk"] f_parse_pattern fd_parse_pattern)
    {f_read_pattern : Addr} {fd_read_pattern : FuncData} (A_read_pattern : At K mg "read_pattern" s_read_pattern ["tokens", "at", "earlier"] f_read_pattern fd_read_pattern)
    {f_read_list : Addr} {fd_read_list : FuncData} (A_read_list : At K mg "read_list" s_read_list ["text"] f_read_list fd_read_list)
    {f_find_contradictions : Addr} {fd_find_contradictions : FuncData} (A_find_contradictions : At K mg "find_contradictions" s_find_contradictions ["wordlist", "length"] f_find_contradictions fd_find_contradictions)
    {f_find_left_out : Addr} {fd_find_left_out : FuncData} (A_find_left_out : At K mg "find_left_out" s_find_left_out ["wordlist", "length"] f_find_left_out fd_find_left_out)
    {f_answer_conflicts : Addr} {fd_answer_conflicts : FuncData} (A_answer_conflicts : At K mg "answer_conflicts" s_answer_conflicts ["wordlist", "n"] f_answer_conflicts fd_answer_conflicts)
    {f_answer_leftout : Addr} {fd_answer_leftout : FuncData} (A_answer_leftout : At K mg "answer_leftout" s_answer_leftout ["wordlist", "n"] f_answer_leftout fd_answer_leftout)
    {f_answer_evidence : Addr} {fd_answer_evidence : FuncData} (A_answer_evidence : At K mg "answer_evidence" s_answer_evidence ["wordlist", "spot", "m"] f_answer_evidence fd_answer_evidence)
    {f_Holder_init : Addr} {fd_Holder_init : FuncData} (F_Holder_init : Fun K "__init__" "Holder.__init__" s_Holder_init f_Holder_init fd_Holder_init) (M_Holder_init : Meth K D.cH "__init__" f_Holder_init) (B_Holder_init : Binds K fd_Holder_init ["self"] [])
    {f_Holder_load : Addr} {fd_Holder_load : FuncData} (F_Holder_load : Fun K "load" "Holder.load" s_Holder_load f_Holder_load fd_Holder_load) (M_Holder_load : Meth K D.cH "load" f_Holder_load) (B_Holder_load : Binds K fd_Holder_load ["self", "text"] [])
    {f_find_call_end : Addr} {fd_find_call_end : FuncData} (A_find_call_end : At K mg "find_call_end" s_find_call_end ["calls", "at"] f_find_call_end fd_find_call_end)
    {f_answers : Addr} {fd_answers : FuncData} (A_answers : At K mg "answers" s_answers ["calls"] f_answers fd_answers)
    {f_answer_call : Addr} {fd_answer_call : FuncData} (A_answer_call : At K mg "answer_call" s_answer_call ["holder", "call"] f_answer_call fd_answer_call)
    {f_find_goals : Addr} {fd_find_goals : FuncData} (A_find_goals : At K mg "find_goals" s_find_goals ["wordlist"] f_find_goals fd_find_goals)
    {f_count_bytes : Addr} {fd_count_bytes : FuncData} (A_count_bytes : At K mg "count_bytes" s_count_bytes ["piece"] f_count_bytes fd_count_bytes)
    {f_map_pieces : Addr} {fd_map_pieces : FuncData} (A_map_pieces : At K mg "map_pieces" s_map_pieces ["wordlist", "length"] f_map_pieces fd_map_pieces)
    {f_weigh_by_pieces : Addr} {fd_weigh_by_pieces : FuncData} (A_weigh_by_pieces : At K mg "weigh_by_pieces" s_weigh_by_pieces ["wordlist", "spot", "length", "spots_by_piece"] f_weigh_by_pieces fd_weigh_by_pieces)
    {f_weigh_evidence : Addr} {fd_weigh_evidence : FuncData} (A_weigh_evidence : At K mg "weigh_evidence" s_weigh_evidence ["wordlist", "spot", "length"] f_weigh_evidence fd_weigh_evidence)
    {f_find_doubts : Addr} {fd_find_doubts : FuncData} (A_find_doubts : At K mg "find_doubts" s_find_doubts ["wordlist", "length"] f_find_doubts fd_find_doubts)
    {f_mark_goals : Addr} {fd_mark_goals : FuncData} (A_mark_goals : At K mg "mark_goals" s_mark_goals ["goals", "spots"] f_mark_goals fd_mark_goals)
    {f_choose_set : Addr} {fd_choose_set : FuncData} (A_choose_set : At K mg "choose_set" s_choose_set ["used", "covered", "least_sets"] f_choose_set fd_choose_set)
    {f_find_family : Addr} {fd_find_family : FuncData} (A_find_family : At K mg "find_family" s_find_family ["wordlist", "length"] f_find_family fd_find_family)
    {f_find_used_pieces : Addr} {fd_find_used_pieces : FuncData} (A_find_used_pieces : At K mg "find_used_pieces" s_find_used_pieces ["family"] f_find_used_pieces fd_find_used_pieces)
    {f_find_least_set : Addr} {fd_find_least_set : FuncData} (A_find_least_set : At K mg "find_least_set" s_find_least_set ["wordlist", "length"] f_find_least_set fd_find_least_set)
    {f_leave_word_out : Addr} {fd_leave_word_out : FuncData} (A_leave_word_out : At K mg "leave_word_out" s_leave_word_out ["wordlist", "number"] f_leave_word_out fd_leave_word_out)
    {f_is_parted : Addr} {fd_is_parted : FuncData} (A_is_parted : At K mg "is_parted" s_is_parted ["letters", "gap", "chosen", "length"] f_is_parted fd_is_parted)
    {f_keep_out : Addr} {fd_keep_out : FuncData} (A_keep_out : At K mg "keep_out" s_keep_out ["wordlist", "number", "length"] f_keep_out fd_keep_out)
    {f_keep_out_each : Addr} {fd_keep_out_each : FuncData} (A_keep_out_each : At K mg "keep_out_each" s_keep_out_each ["wordlist", "length"] f_keep_out_each fd_keep_out_each)
    {f_answer_doubts : Addr} {fd_answer_doubts : FuncData} (A_answer_doubts : At K mg "answer_doubts" s_answer_doubts ["wordlist", "m"] f_answer_doubts fd_answer_doubts)
    {f_answer_keptout : Addr} {fd_answer_keptout : FuncData} (A_answer_keptout : At K mg "answer_keptout" s_answer_keptout ["wordlist", "m", "i"] f_answer_keptout fd_answer_keptout)
    {f_answer_cross : Addr} {fd_answer_cross : FuncData} (A_answer_cross : At K mg "answer_cross" s_answer_cross ["wordlist", "m"] f_answer_cross fd_answer_cross)
    (kD : fd_find_doubts.code = .ref D.kD) (kC : fd_choose_set.code = .ref D.kC)
    : ∃ fd : FuncData, (∀ (s : Shared) (us : List Value), us.length = (["calls"] : List Str).length → BindsTo s fd ⟨us, []⟩ ((["calls"] : List Str).zip us)) ∧ ∀ base : Heap, K.In base → base.Ns mainGlobals mg → LamX.TabB base mg D.kD D.pD → LamX.TabB base mg D.kC D.pC → FnOk P w K mg base CX0 10 fa fd ["calls"] (sp_answers K (tabsT D)) := by
  cases hfa.symm.trans A_answers.mgf
  subst htab
  refine ⟨fd_answers, ?_, fun base _ _ b1 b2 => ?_⟩
  · obtain ⟨oc, od, kV, doc, pm, an, cdv, ct, osl, rfl, lk, hcd⟩ := A_answers.fn.ex
    exact fun s us hu => match us, hu with | [_], _ => .of_eq rfl
  have ef : f_fault_init = D.fF := by
    have z := M_fault_init.at_.symm.trans T.xi
    injection z with z
    injection z with z
    injection z
  subst ef
  have TB : TabOk mg base D := ⟨nP, b1, b2⟩
  have c_find_spots := df_find_spots (P := P) (w := w) (base := base) A_find_spots T
  have c_may_part := df_may_part (P := P) (w := w) (base := base) A_may_part T
  have c_look_around := df_look_around (P := P) (w := w) (base := base) A_look_around T
  have c_touches_all := df_touches_all (P := P) (w := w) (base := base) A_touches_all
  have c_list_word_sets := df_list_word_sets (P := P) (w := w) (base := base) A_list_word_sets T
  have c_point_pieces := df_point_pieces (P := P) (w := w) (base := base) A_point_pieces T
  have c_find_pieces_around := df_find_pieces_around (P := P) (w := w) (base := base) A_find_pieces_around T c_point_pieces
  have c_find_remark_end := df_find_remark_end (P := P) (w := w) (base := base) A_find_remark_end T
  have c_skip_blanks := df_skip_blanks (P := P) (w := w) (base := base) A_skip_blanks T c_find_remark_end
  have c_find_chunk_sign := df_find_chunk_sign (P := P) (w := w) (base := base) A_find_chunk_sign T
  have c_read_chunk := df_read_chunk (P := P) (w := w) (base := base) A_read_chunk T c_find_chunk_sign
  have FO : FaultOk P w K mg base D := ⟨⟨_, ok_fault_init F_fault_init T, B_fault_init⟩⟩
  have c_read_token := df_read_token (P := P) (w := w) (base := base) A_read_token T FO c_read_chunk
  have c_read_tokens := df_read_tokens (P := P) (w := w) (base := base) A_read_tokens T c_skip_blanks c_read_token
  have c_need_signs := df_need_signs (P := P) (w := w) (base := base) A_need_signs T FO
  have c_need_chunk := df_need_chunk (P := P) (w := w) (base := base) A_need_chunk T FO
  have c_read_margin := df_read_margin (P := P) (w := w) (base := base) A_read_margin T FO c_need_chunk
  have m_Word : Mka P w K mg base 1 "Word" D.cW ["self", "letters", "breaks"] (sp_Word_init D.cW) := ⟨_, _, ⟨MW.mks, M_Word_init.at_, M_Word_init.fn, MW.kp⟩, ok_Word_init F_Word_init T, MW.at_, B_Word_init⟩
  have m_WordList : Mka P w K mg base 1 "WordList" D.cL ["self", "left", "right", "words", "patterns"] (sp_WordList_init D.cL) := ⟨_, _, ⟨ML.mks, M_WordList_init.at_, M_WordList_init.fn, ML.kp⟩, ok_WordList_init F_WordList_init T, ML.at_, B_WordList_init⟩
  have c_parse_word := df_parse_word (P := P) (w := w) (base := base) A_parse_word T m_Word
  have c_read_word := df_read_word (P := P) (w := w) (base := base) A_read_word T FO c_need_chunk c_parse_word
  have c_read_pattern_letters := df_read_pattern_letters (P := P) (w := w) (base := base) A_read_pattern_letters
  have c_parse_pattern := df_parse_pattern (P := P) (w := w) (base := base) A_parse_pattern T c_read_pattern_letters
  have c_read_pattern := df_read_pattern (P := P) (w := w) (base := base) A_read_pattern T FO c_need_chunk c_parse_pattern
  have c_read_list := df_read_list (P := P) (w := w) (base := base) A_read_list T FO m_WordList c_read_tokens c_need_signs c_read_margin c_read_word c_read_pattern
  have c_find_contradictions := df_find_contradictions (P := P) (w := w) (base := base) A_find_contradictions T c_find_spots c_look_around c_may_part
  have c_find_left_out := df_find_left_out (P := P) (w := w) (base := base) A_find_left_out T c_find_contradictions c_list_word_sets c_touches_all
  have c_answer_conflicts := df_answer_conflicts (P := P) (w := w) (base := base) A_answer_conflicts T c_find_contradictions
  have c_answer_leftout := df_answer_leftout (P := P) (w := w) (base := base) A_answer_leftout T c_find_left_out
  have m_Holder : Mka P w K mg base 1 "Holder" D.cH ["self"] (sp_Holder_init D.cH) := ⟨_, _, ⟨MH.mks, M_Holder_init.at_, M_Holder_init.fn, MH.kp⟩, ok_Holder_init F_Holder_init T, MH.at_, B_Holder_init⟩
  have c_Holder_load : Mta P w K mg base 6 D.cH "load" ["self", "text"] (sp_Holder_load K D) := ⟨_, _, M_Holder_load, ok_Holder_load F_Holder_load T n1 n2 c_read_list, B_Holder_load, T.kH⟩
  have c_find_call_end := df_find_call_end (P := P) (w := w) (base := base) A_find_call_end T TA
  have c_find_goals := df_find_goals (P := P) (w := w) (base := base) A_find_goals T c_find_spots c_may_part
  have c_count_bytes := df_count_bytes (P := P) (w := w) (base := base) A_count_bytes T
  have c_map_pieces := df_map_pieces (P := P) (w := w) (base := base) A_map_pieces T c_find_spots c_find_pieces_around
  have c_weigh_by_pieces := df_weigh_by_pieces (P := P) (w := w) (base := base) A_weigh_by_pieces T c_find_pieces_around c_may_part
  have c_weigh_evidence := df_weigh_evidence (P := P) (w := w) (base := base) A_weigh_evidence T c_weigh_by_pieces c_map_pieces
  have c_find_doubts := df_find_doubts (P := P) (w := w) (base := base) A_find_doubts T kD TB c_map_pieces c_find_spots c_weigh_by_pieces c_may_part
  have c_mark_goals := df_mark_goals (P := P) (w := w) (base := base) A_mark_goals T
  have c_choose_set := df_choose_set (P := P) (w := w) (base := base) A_choose_set T kC TB c_count_bytes
  have c_find_family := df_find_family (P := P) (w := w) (base := base) A_find_family T c_map_pieces c_find_goals c_find_pieces_around c_may_part
  have c_find_used_pieces := df_find_used_pieces (P := P) (w := w) (base := base) A_find_used_pieces T c_count_bytes
  have c_find_least_set := df_find_least_set (P := P) (w := w) (base := base) A_find_least_set T c_find_goals c_find_used_pieces c_find_family c_mark_goals c_choose_set
  have c_leave_word_out := df_leave_word_out (P := P) (w := w) (base := base) A_leave_word_out T m_WordList
  have c_is_parted := df_is_parted (P := P) (w := w) (base := base) A_is_parted T c_find_pieces_around
  have c_keep_out := df_keep_out (P := P) (w := w) (base := base) A_keep_out T c_find_least_set c_leave_word_out c_find_spots c_is_parted c_may_part
  have c_keep_out_each := df_keep_out_each (P := P) (w := w) (base := base) A_keep_out_each T c_keep_out
  have c_answer_doubts := df_answer_doubts (P := P) (w := w) (base := base) A_answer_doubts T c_find_doubts
  have c_answer_keptout := df_answer_keptout (P := P) (w := w) (base := base) A_answer_keptout T c_find_goals c_leave_word_out c_keep_out
  have c_answer_cross := df_answer_cross (P := P) (w := w) (base := base) A_answer_cross T c_find_goals c_keep_out_each
  have c_answer_evidence := df_answer_evidence (P := P) (w := w) (base := base) A_answer_evidence T c_find_spots c_weigh_evidence c_may_part
  have c_answer_call := df_answer_call (P := P) (w := w) (base := base) A_answer_call T c_Holder_load c_answer_conflicts c_answer_leftout c_answer_evidence c_answer_doubts c_answer_keptout c_answer_cross
  exact ok_answers (by decide) A_answers T m_Holder c_find_call_end c_answer_call
end WG
open PySem PySem.W PyProof.Rows
set_option maxRecDepth 100000 in
set_option maxHeartbeats 8000000 in
theorem PySem.Challenge.cw_wordgaps_s01_answers_holds : PySem.Challenge.rw_wordgaps_s01_answers.Holds := by
  w_on; k_headS; (case hw => exact ⟨[.list [.int 1, .int 1]], by decide +kernel, by decide +kernel⟩)
  k_fillS
  refine' WG.walk_specTs (r := PySem.Challenge.rw_wordgaps_s01_answers) (k := 10) (CX := L2.CX0) (ps := ["calls"]) (sp := fun K => WG.sp_answers K (WG.tabsK K)) (cs := fun K => [WG.tabGet K "find_doubts", WG.tabGet K "choose_set"]) ?h1 rfl rfl ⟨rfl, by decide, by decide⟩ (fun w h Y => PySem.W.kIn_of Y) ?tabs ?F ?S (fun _ _ _ _ z => z)
  case h1 => decide +kernel
  case tabs =>
    intro w mean mg mb h Y T
    have KX := PySem.W.kIn_of Y
    refine List.forall_mem_cons.mpr ⟨⟨PySem.W.tab_of (x := "find_doubts") T KX rfl (WG.tab_get (by kernel_rfl)), WG.not_there (by kernel_rfl)⟩, List.forall_mem_cons.mpr ⟨⟨PySem.W.tab_of (x := "choose_set") T KX rfl (WG.tab_get (by kernel_rfl)), WG.not_there (by kernel_rfl)⟩, fun _ h => nomatch h⟩⟩
  case F =>
    intro w mg fa h Y KX G hmg
    have ne : (WG.tabGet (PySem.Challenge.cw_wordgaps_s01_answers_holds.heap_1 w.params) "find_doubts").2 ≠ (WG.tabGet (PySem.Challenge.cw_wordgaps_s01_answers_holds.heap_1 w.params) "choose_set").2 := of_decide_eq_false (by kernel_rfl)
    have t1 := WG.tab_get (K := PySem.Challenge.cw_wordgaps_s01_answers_holds.heap_1 w.params) (x := "find_doubts") (by kernel_rfl)
    have t2 := WG.tab_get (K := PySem.Challenge.cw_wordgaps_s01_answers_holds.heap_1 w.params) (x := "choose_set") (by kernel_rfl)
    refine' WG.with_txt (tab := WG.behindT) KX G (WG.tabGet (PySem.Challenge.cw_wordgaps_s01_answers_holds.heap_1 w.params) "find_doubts").1 (WG.tabGet (PySem.Challenge.cw_wordgaps_s01_answers_holds.heap_1 w.params) "find_doubts").2 (WG.tabGet (PySem.Challenge.cw_wordgaps_s01_answers_holds.heap_1 w.params) "choose_set").1 (WG.tabGet (PySem.Challenge.cw_wordgaps_s01_answers_holds.heap_1 w.params) "choose_set").2 ?nAll ?nAny ?nTuple ?nList ?nZip ?gEV ?gDO ?gKE ?gMD ?gMX ?gMG ?nLen ?nRange ?nEnum ?nMax ?nMin ?nInt ?nSet ?nSorted ?aW ?aL ?aH ?aF ?wG ?wD ?wO ?wS ?wM ?wK ?lG ?lD ?lO ?lS ?lM ?lK ?hG ?hD ?hO ?hS ?hM ?hK ?w1 ?w2 ?l1 ?l2 ?l3 ?l4 ?h1 ?aBn ?oB ?aMn ?oM ?aAn ?oA ?iA ?jA ?gLE ?gRE ?gSE ?gLT ?gDI ?gMC ?gMB ?gMW ?gMP ?gLO ?gCO ?gLF ?gML ?xL ?xS ?xE ?xT ?xK ?xG ?xA ?xD ?xc ?xp ?xi ?xt ?xI ?xU ?ne1 ?ne2 fun gF T TA MW ML MH n1 n2 => ?_
    (case nAll => k_is)
    (case nAny => k_is)
    (case nTuple => k_is)
    (case nList => k_is)
    (case nZip => k_is)
    (case gEV => k_is)
    (case gDO => k_is)
    (case gKE => k_is)
    (case gMD => k_is)
    (case gMX => k_is)
    (case gMG => k_is)
    (case nLen => k_is)
    (case nRange => k_is)
    (case nEnum => k_is)
    (case nMax => k_is)
    (case nMin => k_is)
    (case nInt => k_is)
    (case nSet => k_is)
    (case nSorted => k_is)
    (case aW => k_is)
    (case aL => k_is)
    (case aH => k_is)
    (case aF => k_is)
    (case wG => k_is)
    (case wD => k_is)
    (case wO => k_is)
    (case wS => k_is)
    (case wM => k_is)
    (case wK => k_is)
    (case lG => k_is)
    (case lD => k_is)
    (case lO => k_is)
    (case lS => k_is)
    (case lM => k_is)
    (case lK => k_is)
    (case hG => k_is)
    (case hD => k_is)
    (case hO => k_is)
    (case hS => k_is)
    (case hM => k_is)
    (case hK => k_is)
    (case w1 => k_is)
    (case w2 => k_is)
    (case l1 => k_is)
    (case l2 => k_is)
    (case l3 => k_is)
    (case l4 => k_is)
    (case h1 => k_is)
    (case aBn => k_is)
    (case oB => k_is)
    (case aMn => k_is)
    (case oM => k_is)
    (case aAn => k_is)
    (case oA => k_is)
    (case iA => decide +kernel)
    (case jA => decide +kernel)
    (case gLE => k_is)
    (case gRE => k_is)
    (case gSE => k_is)
    (case gLT => k_is)
    (case gDI => k_is)
    (case gMC => k_is)
    (case gMB => k_is)
    (case gMW => k_is)
    (case gMP => k_is)
    (case gLO => k_is)
    (case gCO => k_is)
    (case gLF => k_is)
    (case gML => k_is)
    (case xL => k_is)
    (case xS => k_is)
    (case xE => k_is)
    (case xT => k_is)
    (case xK => k_is)
    (case xG => k_is)
    (case xA => k_is)
    (case xD => k_is)
    (case xc => k_is)
    (case xp => k_is)
    (case xi => k_is)
    (case xt => k_is)
    (case xI => k_is)
    (case xU => first | rfl | k_is)
    (case ne1 => decide)
    (case ne2 => decide)
    refine' WG.with_at KX G (x := "find_spots") (st := WG.s_find_spots) (ps := ["wordlist"]) (fun _ _ _ _ _ _ us hl => match us, hl with | [_], _ => rfl) ?a ?l ?c ?k fun _ _ A_find_spots => ?_
    (case a => k_is); (case l => k_is); (case c => k_is); (case k => k_is)
    refine' WG.with_at KX G (x := "may_part") (st := WG.s_may_part) (ps := ["wordlist", "spot"]) (fun _ _ _ _ _ _ us hl => match us, hl with | [_, _], _ => rfl) ?a ?l ?c ?k fun _ _ A_may_part => ?_
    (case a => k_is); (case l => k_is); (case c => k_is); (case k => k_is)
    refine' WG.with_at KX G (x := "look_around") (st := WG.s_look_around) (ps := ["letters", "gap", "length"]) (fun _ _ _ _ _ _ us hl => match us, hl with | [_, _, _], _ => rfl) ?a ?l ?c ?k fun _ _ A_look_around => ?_
    (case a => k_is); (case l => k_is); (case c => k_is); (case k => k_is)
    refine' WG.with_at KX G (x := "touches_all") (st := WG.s_touches_all) (ps := ["chosen", "pairs"]) (fun _ _ _ _ _ _ us hl => match us, hl with | [_, _], _ => rfl) ?a ?l ?c ?k fun _ _ A_touches_all => ?_
    (case a => k_is); (case l => k_is); (case c => k_is); (case k => k_is)
    refine' WG.with_at KX G (x := "list_word_sets") (st := WG.s_list_word_sets) (ps := ["count"]) (fun _ _ _ _ _ _ us hl => match us, hl with | [_], _ => rfl) ?a ?l ?c ?k fun _ _ A_list_word_sets => ?_
    (case a => k_is); (case l => k_is); (case c => k_is); (case k => k_is)
    refine' WG.with_at KX G (x := "point_pieces") (st := WG.s_point_pieces) (ps := ["letters", "gap", "place", "end"]) (fun _ _ _ _ _ _ us hl => match us, hl with | [_, _, _, _], _ => rfl) ?a ?l ?c ?k fun _ _ A_point_pieces => ?_
    (case a => k_is); (case l => k_is); (case c => k_is); (case k => k_is)
    refine' WG.with_at KX G (x := "find_pieces_around") (st := WG.s_find_pieces_around) (ps := ["letters", "gap", "length"]) (fun _ _ _ _ _ _ us hl => match us, hl with | [_, _, _], _ => rfl) ?a ?l ?c ?k fun _ _ A_find_pieces_around => ?_
    (case a => k_is); (case l => k_is); (case c => k_is); (case k => k_is)
    refine' WG.with_at KX G (x := "find_remark_end") (st := WG.s_find_remark_end) (ps := ["text", "place"]) (fun _ _ _ _ _ _ us hl => match us, hl with | [_, _], _ => rfl) ?a ?l ?c ?k fun _ _ A_find_remark_end => ?_
    (case a => k_is); (case l => k_is); (case c => k_is); (case k => k_is)
    refine' WG.with_at KX G (x := "skip_blanks") (st := WG.s_skip_blanks) (ps := ["text", "place"]) (fun _ _ _ _ _ _ us hl => match us, hl with | [_, _], _ => rfl) ?a ?l ?c ?k fun _ _ A_skip_blanks => ?_
    (case a => k_is); (case l => k_is); (case c => k_is); (case k => k_is)
    refine' WG.with_at KX G (x := "find_chunk_sign") (st := WG.s_find_chunk_sign) (ps := ["byte"]) (fun _ _ _ _ _ _ us hl => match us, hl with | [_], _ => rfl) ?a ?l ?c ?k fun _ _ A_find_chunk_sign => ?_
    (case a => k_is); (case l => k_is); (case c => k_is); (case k => k_is)
    refine' WG.with_at KX G (x := "read_chunk") (st := WG.s_read_chunk) (ps := ["text", "place"]) (fun _ _ _ _ _ _ us hl => match us, hl with | [_, _], _ => rfl) ?a ?l ?c ?k fun _ _ A_read_chunk => ?_
    (case a => k_is); (case l => k_is); (case c => k_is); (case k => k_is)
    refine' WG.with_fun KX gF (m := "__init__") (q := "ListFault.__init__") (st := WG.s_ListFault_init) (ps := ["self", "code", "place"]) (fun _ _ _ _ _ _ us hl => match us, hl with | [_, _, _], _ => rfl) ?a ?i ?l ?c ?k fun _ _ F_fault_init M_fault_init B_fault_init => ?_
    (case a => k_is); (case i => k_is); (case l => k_is); (case c => k_is); (case k => k_is)
    refine' WG.with_at KX G (x := "read_token") (st := WG.s_read_token) (ps := ["text", "place"]) (fun _ _ _ _ _ _ us hl => match us, hl with | [_, _], _ => rfl) ?a ?l ?c ?k fun _ _ A_read_token => ?_
    (case a => k_is); (case l => k_is); (case c => k_is); (case k => k_is)
    refine' WG.with_at KX G (x := "read_tokens") (st := WG.s_read_tokens) (ps := ["text"]) (fun _ _ _ _ _ _ us hl => match us, hl with | [_], _ => rfl) ?a ?l ?c ?k fun _ _ A_read_tokens => ?_
    (case a => k_is); (case l => k_is); (case c => k_is); (case k => k_is)
    refine' WG.with_at KX G (x := "need_signs") (st := WG.s_need_signs) (ps := ["tokens", "at", "signs"]) (fun _ _ _ _ _ _ us hl => match us, hl with | [_, _, _], _ => rfl) ?a ?l ?c ?k fun _ _ A_need_signs => ?_
    (case a => k_is); (case l => k_is); (case c => k_is); (case k => k_is)
    refine' WG.with_at KX G (x := "need_chunk") (st := WG.s_need_chunk) (ps := ["tokens", "at"]) (fun _ _ _ _ _ _ us hl => match us, hl with | [_, _], _ => rfl) ?a ?l ?c ?k fun _ _ A_need_chunk => ?_
    (case a => k_is); (case l => k_is); (case c => k_is); (case k => k_is)
    refine' WG.with_at KX G (x := "read_margin") (st := WG.s_read_margin) (ps := ["tokens", "at"]) (fun _ _ _ _ _ _ us hl => match us, hl with | [_, _], _ => rfl) ?a ?l ?c ?k fun _ _ A_read_margin => ?_
    (case a => k_is); (case l => k_is); (case c => k_is); (case k => k_is)
    refine' WG.with_fun KX MW.at_ (m := "__init__") (q := "Word.__init__") (st := WG.s_Word_init) (ps := ["self", "letters", "breaks"]) (fun _ _ _ _ _ _ us hl => match us, hl with | [_, _, _], _ => rfl) ?a ?i ?l ?c ?k fun _ _ F_Word_init M_Word_init B_Word_init => ?_
    (case a => k_is); (case i => k_is); (case l => k_is); (case c => k_is); (case k => k_is)
    refine' WG.with_fun KX ML.at_ (m := "__init__") (q := "WordList.__init__") (st := WG.s_WordList_init) (ps := ["self", "left", "right", "words", "patterns"]) (fun _ _ _ _ _ _ us hl => match us, hl with | [_, _, _, _, _], _ => rfl) ?a ?i ?l ?c ?k fun _ _ F_WordList_init M_WordList_init B_WordList_init => ?_
    (case a => k_is); (case i => k_is); (case l => k_is); (case c => k_is); (case k => k_is)
    refine' WG.with_at KX G (x := "parse_word") (st := WG.s_parse_word) (ps := ["chunk"]) (fun _ _ _ _ _ _ us hl => match us, hl with | [_], _ => rfl) ?a ?l ?c ?k fun _ _ A_parse_word => ?_
    (case a => k_is); (case l => k_is); (case c => k_is); (case k => k_is)
    refine' WG.with_at KX G (x := "read_word") (st := WG.s_read_word) (ps := ["tokens", "at", "earlier"]) (fun _ _ _ _ _ _ us hl => match us, hl with | [_, _, _], _ => rfl) ?a ?l ?c ?k fun _ _ A_read_word => ?_
    (case a => k_is); (case l => k_is); (case c => k_is); (case k => k_is)
    refine' WG.with_at KX G (x := "read_pattern_letters") (st := WG.s_read_pattern_letters) (ps := ["inner"]) (fun _ _ _ _ _ _ us hl => match us, hl with | [_], _ => rfl) ?a ?l ?c ?k fun _ _ A_read_pattern_letters => ?_
    (case a => k_is); (case l => k_is); (case c => k_is); (case k => k_is)
    refine' WG.with_at KX G (x := "parse_pattern") (st := WG.s_parse_pattern) (ps := ["chunk"]) (fun _ _ _ _ _ _ us hl => match us, hl with | [_], _ => rfl) ?a ?l ?c ?k fun _ _ A_parse_pattern => ?_
    (case a => k_is); (case l => k_is); (case c => k_is); (case k => k_is)
    refine' WG.with_at KX G (x := "read_pattern") (st := WG.s_read_pattern) (ps := ["tokens", "at", "earlier"]) (fun _ _ _ _ _ _ us hl => match us, hl with | [_, _, _], _ => rfl) ?a ?l ?c ?k fun _ _ A_read_pattern => ?_
    (case a => k_is); (case l => k_is); (case c => k_is); (case k => k_is)
    refine' WG.with_at KX G (x := "read_list") (st := WG.s_read_list) (ps := ["text"]) (fun _ _ _ _ _ _ us hl => match us, hl with | [_], _ => rfl) ?a ?l ?c ?k fun _ _ A_read_list => ?_
    (case a => k_is); (case l => k_is); (case c => k_is); (case k => k_is)
    refine' WG.with_at KX G (x := "find_contradictions") (st := WG.s_find_contradictions) (ps := ["wordlist", "length"]) (fun _ _ _ _ _ _ us hl => match us, hl with | [_, _], _ => rfl) ?a ?l ?c ?k fun _ _ A_find_contradictions => ?_
    (case a => k_is); (case l => k_is); (case c => k_is); (case k => k_is)
    refine' WG.with_at KX G (x := "find_left_out") (st := WG.s_find_left_out) (ps := ["wordlist", "length"]) (fun _ _ _ _ _ _ us hl => match us, hl with | [_, _], _ => rfl) ?a ?l ?c ?k fun _ _ A_find_left_out => ?_
    (case a => k_is); (case l => k_is); (case c => k_is); (case k => k_is)
    refine' WG.with_at KX G (x := "answer_conflicts") (st := WG.s_answer_conflicts) (ps := ["wordlist", "n"]) (fun _ _ _ _ _ _ us hl => match us, hl with | [_, _], _ => rfl) ?a ?l ?c ?k fun _ _ A_answer_conflicts => ?_
    (case a => k_is); (case l => k_is); (case c => k_is); (case k => k_is)
    refine' WG.with_at KX G (x := "answer_leftout") (st := WG.s_answer_leftout) (ps := ["wordlist", "n"]) (fun _ _ _ _ _ _ us hl => match us, hl with | [_, _], _ => rfl) ?a ?l ?c ?k fun _ _ A_answer_leftout => ?_
    (case a => k_is); (case l => k_is); (case c => k_is); (case k => k_is)
    refine' WG.with_at KX G (x := "answer_evidence") (st := WG.s_answer_evidence) (ps := ["wordlist", "spot", "m"]) (fun _ _ _ _ _ _ us hl => match us, hl with | [_, _, _], _ => rfl) ?a ?l ?c ?k fun _ _ A_answer_evidence => ?_
    (case a => k_is); (case l => k_is); (case c => k_is); (case k => k_is)
    refine' WG.with_fun KX MH.at_ (m := "__init__") (q := "Holder.__init__") (st := WG.s_Holder_init) (ps := ["self"]) (fun _ _ _ _ _ _ us hl => match us, hl with | [_], _ => rfl) ?a ?i ?l ?c ?k fun _ _ F_Holder_init M_Holder_init B_Holder_init => ?_
    (case a => k_is); (case i => k_is); (case l => k_is); (case c => k_is); (case k => k_is)
    refine' WG.with_fun KX MH.at_ (m := "load") (q := "Holder.load") (st := WG.s_Holder_load) (ps := ["self", "text"]) (fun _ _ _ _ _ _ us hl => match us, hl with | [_, _], _ => rfl) ?a ?i ?l ?c ?k fun _ _ F_Holder_load M_Holder_load B_Holder_load => ?_
    (case a => k_is); (case i => k_is); (case l => k_is); (case c => k_is); (case k => k_is)
    refine' WG.with_at KX G (x := "find_call_end") (st := WG.s_find_call_end) (ps := ["calls", "at"]) (fun _ _ _ _ _ _ us hl => match us, hl with | [_, _], _ => rfl) ?a ?l ?c ?k fun _ _ A_find_call_end => ?_
    (case a => k_is); (case l => k_is); (case c => k_is); (case k => k_is)
    refine' WG.with_at KX G (x := "answers") (st := WG.s_answers) (ps := ["calls"]) (fun _ _ _ _ _ _ us hl => match us, hl with | [_], _ => rfl) ?a ?l ?c ?k fun _ _ A_answers => ?_
    (case a => k_is); (case l => k_is); (case c => k_is); (case k => k_is)
    refine' WG.with_at KX G (x := "answer_call") (st := WG.s_answer_call) (ps := ["holder", "call"]) (fun _ _ _ _ _ _ us hl => match us, hl with | [_, _], _ => rfl) ?a ?l ?c ?k fun _ _ A_answer_call => ?_
    (case a => k_is); (case l => k_is); (case c => k_is); (case k => k_is)
    refine' WG.with_at KX G (x := "find_goals") (st := WG.s_find_goals) (ps := ["wordlist"]) (fun _ _ _ _ _ _ us hl => match us, hl with | [_], _ => rfl) ?a ?l ?c ?k fun _ _ A_find_goals => ?_
    (case a => k_is); (case l => k_is); (case c => k_is); (case k => k_is)
    refine' WG.with_at KX G (x := "count_bytes") (st := WG.s_count_bytes) (ps := ["piece"]) (fun _ _ _ _ _ _ us hl => match us, hl with | [_], _ => rfl) ?a ?l ?c ?k fun _ _ A_count_bytes => ?_
    (case a => k_is); (case l => k_is); (case c => k_is); (case k => k_is)
    refine' WG.with_at KX G (x := "map_pieces") (st := WG.s_map_pieces) (ps := ["wordlist", "length"]) (fun _ _ _ _ _ _ us hl => match us, hl with | [_, _], _ => rfl) ?a ?l ?c ?k fun _ _ A_map_pieces => ?_
    (case a => k_is); (case l => k_is); (case c => k_is); (case k => k_is)
    refine' WG.with_at KX G (x := "weigh_by_pieces") (st := WG.s_weigh_by_pieces) (ps := ["wordlist", "spot", "length", "spots_by_piece"]) (fun _ _ _ _ _ _ us hl => match us, hl with | [_, _, _, _], _ => rfl) ?a ?l ?c ?k fun _ _ A_weigh_by_pieces => ?_
    (case a => k_is); (case l => k_is); (case c => k_is); (case k => k_is)
    refine' WG.with_at KX G (x := "weigh_evidence") (st := WG.s_weigh_evidence) (ps := ["wordlist", "spot", "length"]) (fun _ _ _ _ _ _ us hl => match us, hl with | [_, _, _], _ => rfl) ?a ?l ?c ?k fun _ _ A_weigh_evidence => ?_
    (case a => k_is); (case l => k_is); (case c => k_is); (case k => k_is)
    refine' WG.with_at KX G (x := "find_doubts") (st := WG.s_find_doubts) (ps := ["wordlist", "length"]) (fun _ _ _ _ _ _ us hl => match us, hl with | [_, _], _ => rfl) ?a ?l ?c ?k fun _ _ A_find_doubts => ?_
    (case a => k_is); (case l => k_is); (case c => k_is); (case k => k_is)
    refine' WG.with_at KX G (x := "mark_goals") (st := WG.s_mark_goals) (ps := ["goals", "spots"]) (fun _ _ _ _ _ _ us hl => match us, hl with | [_, _], _ => rfl) ?a ?l ?c ?k fun _ _ A_mark_goals => ?_
    (case a => k_is); (case l => k_is); (case c => k_is); (case k => k_is)
    refine' WG.with_at KX G (x := "choose_set") (st := WG.s_choose_set) (ps := ["used", "covered", "least_sets"]) (fun _ _ _ _ _ _ us hl => match us, hl with | [_, _, _], _ => rfl) ?a ?l ?c ?k fun _ _ A_choose_set => ?_
    (case a => k_is); (case l => k_is); (case c => k_is); (case k => k_is)
    refine' WG.with_at KX G (x := "find_family") (st := WG.s_find_family) (ps := ["wordlist", "length"]) (fun _ _ _ _ _ _ us hl => match us, hl with | [_, _], _ => rfl) ?a ?l ?c ?k fun _ _ A_find_family => ?_
    (case a => k_is); (case l => k_is); (case c => k_is); (case k => k_is)
    refine' WG.with_at KX G (x := "find_used_pieces") (st := WG.s_find_used_pieces) (ps := ["family"]) (fun _ _ _ _ _ _ us hl => match us, hl with | [_], _ => rfl) ?a ?l ?c ?k fun _ _ A_find_used_pieces => ?_
    (case a => k_is); (case l => k_is); (case c => k_is); (case k => k_is)
    refine' WG.with_at KX G (x := "find_least_set") (st := WG.s_find_least_set) (ps := ["wordlist", "length"]) (fun _ _ _ _ _ _ us hl => match us, hl with | [_, _], _ => rfl) ?a ?l ?c ?k fun _ _ A_find_least_set => ?_
    (case a => k_is); (case l => k_is); (case c => k_is); (case k => k_is)
    refine' WG.with_at KX G (x := "leave_word_out") (st := WG.s_leave_word_out) (ps := ["wordlist", "number"]) (fun _ _ _ _ _ _ us hl => match us, hl with | [_, _], _ => rfl) ?a ?l ?c ?k fun _ _ A_leave_word_out => ?_
    (case a => k_is); (case l => k_is); (case c => k_is); (case k => k_is)
    refine' WG.with_at KX G (x := "is_parted") (st := WG.s_is_parted) (ps := ["letters", "gap", "chosen", "length"]) (fun _ _ _ _ _ _ us hl => match us, hl with | [_, _, _, _], _ => rfl) ?a ?l ?c ?k fun _ _ A_is_parted => ?_
    (case a => k_is); (case l => k_is); (case c => k_is); (case k => k_is)
    refine' WG.with_at KX G (x := "keep_out") (st := WG.s_keep_out) (ps := ["wordlist", "number", "length"]) (fun _ _ _ _ _ _ us hl => match us, hl with | [_, _, _], _ => rfl) ?a ?l ?c ?k fun _ _ A_keep_out => ?_
    (case a => k_is); (case l => k_is); (case c => k_is); (case k => k_is)
    refine' WG.with_at KX G (x := "keep_out_each") (st := WG.s_keep_out_each) (ps := ["wordlist", "length"]) (fun _ _ _ _ _ _ us hl => match us, hl with | [_, _], _ => rfl) ?a ?l ?c ?k fun _ _ A_keep_out_each => ?_
    (case a => k_is); (case l => k_is); (case c => k_is); (case k => k_is)
    refine' WG.with_at KX G (x := "answer_doubts") (st := WG.s_answer_doubts) (ps := ["wordlist", "m"]) (fun _ _ _ _ _ _ us hl => match us, hl with | [_, _], _ => rfl) ?a ?l ?c ?k fun _ _ A_answer_doubts => ?_
    (case a => k_is); (case l => k_is); (case c => k_is); (case k => k_is)
    refine' WG.with_at KX G (x := "answer_keptout") (st := WG.s_answer_keptout) (ps := ["wordlist", "m", "i"]) (fun _ _ _ _ _ _ us hl => match us, hl with | [_, _, _], _ => rfl) ?a ?l ?c ?k fun _ _ A_answer_keptout => ?_
    (case a => k_is); (case l => k_is); (case c => k_is); (case k => k_is)
    refine' WG.with_at KX G (x := "answer_cross") (st := WG.s_answer_cross) (ps := ["wordlist", "m"]) (fun _ _ _ _ _ _ us hl => match us, hl with | [_, _], _ => rfl) ?a ?l ?c ?k fun _ _ A_answer_cross => ?_
    (case a => k_is); (case l => k_is); (case c => k_is); (case k => k_is)
    obtain ⟨fd, q1, q2⟩ := WG.all_ok hmg rfl T TA MW ML MH n1 n2 ne A_find_spots A_may_part A_look_around A_touches_all A_list_word_sets A_point_pieces A_find_pieces_around A_find_remark_end A_skip_blanks A_find_chunk_sign A_read_chunk F_fault_init M_fault_init B_fault_init A_read_token A_read_tokens A_need_signs A_need_chunk A_read_margin F_Word_init M_Word_init B_Word_init F_WordList_init M_WordList_init B_WordList_init A_parse_word A_read_word A_read_pattern_letters A_parse_pattern A_read_pattern A_read_list A_find_contradictions A_find_left_out A_answer_conflicts A_answer_leftout A_answer_evidence F_Holder_init M_Holder_init B_Holder_init F_Holder_load M_Holder_load B_Holder_load A_find_call_end A_answers A_answer_call A_find_goals A_count_bytes A_map_pieces A_weigh_by_pieces A_weigh_evidence A_find_doubts A_mark_goals A_choose_set A_find_family A_find_used_pieces A_find_least_set A_leave_word_out A_is_parted A_keep_out A_keep_out_each A_answer_doubts A_answer_keptout A_answer_cross (WG.at_code KX G A_find_doubts t1) (WG.at_code KX G A_choose_set t2)
    exact ⟨fd, q1, fun base k1 k2 k3 => q2 base k1 k2 (k3 _ (.head _)) (k3 _ (.tail _ (.head _)))⟩
  case S =>
    intro K H xs a hO hwi hask hx
    cases hx with
    | cons h1 h2 =>
      cases h2
      cases h1 with
      | lst hs ha =>
        have e := L2.ints_dw a.1 _ ha
        subst e
        exact ⟨_, a.1, rfl, hs, hask, WG.tabsK_new hO, fun H' p hp => .lst (L2.SqL.of hp) (L2.dw_ints _)⟩
