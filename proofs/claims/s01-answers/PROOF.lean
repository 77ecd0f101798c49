import PyProof.Rows.All
import Wide.All
import OpenK.AllK
import Wide.FinOn
import Open.SpecLaws
import PyVaskye
import VaskyeSpec
import KE.OsGo
import HandS.ForSpec
import HandS.TryMany
import HandS.ExcInit
import HandS.ExcField
import KE.SortKeyHeap
import KE.KLam
import HandS.ForMost
import HandS.Lambda
import HandS.Nested
import HandS.Conv
import PyProof.Rows.SetFrom
import HandS.Sort
import HandS.Strs
import KE.KNestM
import HandS.EndTab
import HandS.Zip
import HandS.Wide
import HandS.WideMore
import HandS.Flow
import HandS.CallLocal
import HandS.WrittenGet
import HandS.Walk
import HandS.Codes
import HandS.TupLen
import HandS.WideBits
import PyFlatLaws
import PySem.Challenge.RW_offerodds_s01_answers
section
namespace Off
open VaskyBase
/-! ### the lexer: the bytes' tokens without fuel -/
def skFuel : Nat → Bytes → Nat
  | 0, _ => 0
  | _ + 1, [] => 0
  | n + 1, c :: r => if isBlank c = true then 1 + skFuel n r else if (c == 35) = true then 1 + (r.takeWhile (· != 10)).length + skFuel n (r.dropWhile (· != 10)) else 0
/-- how many bytes of blanks and remarks stand at the beginning -/
def sk (l : Bytes) : Nat := skFuel (l.length + 1) l
theorem dropWhile_le {α : Type} (p : α → Bool) (l : List α) : (l.dropWhile p).length ≤ l.length := by
  induction l with
  | nil => exact Nat.le_refl _
  | cons a l ih =>
    rw [List.dropWhile_cons]
    split
    · exact Nat.le_succ_of_le ih
    · exact Nat.le_refl _
theorem skFuel_more : ∀ (n m : Nat) (l : Bytes), l.length < n → l.length < m → skFuel n l = skFuel m l
  | n + 1, m + 1, [], _, _ => rfl
  | n + 1, m + 1, c :: r, h1, h2 => by
    have e1 := skFuel_more n m r (Nat.lt_of_succ_lt_succ h1) (Nat.lt_of_succ_lt_succ h2)
    have d := dropWhile_le (fun x : UInt8 => x != 10) r
    have e2 := skFuel_more n m (r.dropWhile (· != 10)) (Nat.lt_of_le_of_lt d (Nat.lt_of_succ_lt_succ h1)) (Nat.lt_of_le_of_lt d (Nat.lt_of_succ_lt_succ h2))
    simp only [skFuel, e1, e2]
theorem sk_nil : sk [] = 0 := rfl
theorem sk_blank {c : UInt8} {r : Bytes} (h : isBlank c = true) : sk (c :: r) = 1 + sk r := by
  show skFuel (r.length + 1 + 1) (c :: r) = _
  simp only [skFuel, h, if_true]
  rfl
theorem sk_remark {c : UInt8} {r : Bytes} (hb : isBlank c = false) (h : (c == 35) = true) : sk (c :: r) = 1 + (r.takeWhile (· != 10)).length + sk (r.dropWhile (· != 10)) := by
  show skFuel (r.length + 1 + 1) (c :: r) = _
  have d := dropWhile_le (fun x : UInt8 => x != 10) r
  simp only [skFuel, hb, h, if_true, Bool.false_eq_true, if_false]
  rw [skFuel_more (r.length + 1) _ (r.dropWhile (· != 10)) (Nat.lt_succ_of_le d) (Nat.lt_succ_self _)]
  rfl
theorem sk_none {c : UInt8} {r : Bytes} (hb : isBlank c = false) (h : (c == 35) = false) : sk (c :: r) = 0 := by
  show skFuel (r.length + 1 + 1) (c :: r) = _
  simp only [skFuel, hb, h, Bool.false_eq_true, if_false]
theorem drop_takeWhile {α : Type} (p : α → Bool) : ∀ l : List α, l.drop (l.takeWhile p).length = l.dropWhile p
  | [] => rfl
  | a :: l => by
    rw [List.takeWhile_cons, List.dropWhile_cons]
    by_cases h : p a = true
    · simp only [h, if_true, List.length_cons, List.drop_succ_cons]
      exact drop_takeWhile p l
    · simp only [h, if_false, Bool.false_eq_true]
      rfl
theorem takeWhile_le {α : Type} (p : α → Bool) (l : List α) : (l.takeWhile p).length ≤ l.length := by
  induction l with
  | nil => exact Nat.le_refl _
  | cons a l ih =>
    rw [List.takeWhile_cons]
    split
    · exact Nat.succ_le_succ ih
    · exact Nat.zero_le _
theorem takeWhile_length_add {α : Type} (p : α → Bool) (l : List α) : (l.takeWhile p).length + (l.dropWhile p).length = l.length := by
  have := drop_takeWhile p l
  have e : (l.drop (l.takeWhile p).length).length = (l.dropWhile p).length := by rw [this]
  rw [List.length_drop] at e
  have := takeWhile_le p l
  omega
theorem sk_le : ∀ (n : Nat) (l : Bytes), l.length ≤ n → sk l ≤ l.length
  | _, [], _ => Nat.zero_le _
  | n + 1, c :: r, h => by
    have hr : r.length ≤ n := Nat.le_of_succ_le_succ h
    cases hb : isBlank c with
    | true =>
      rw [sk_blank hb, List.length_cons]
      have := sk_le n r hr
      omega
    | false =>
      cases h3 : (c == 35) with
      | true =>
        rw [sk_remark hb h3, List.length_cons]
        have d := dropWhile_le (fun x : UInt8 => x != 10) r
        have := sk_le n (r.dropWhile (· != 10)) (by omega)
        have := takeWhile_length_add (fun x : UInt8 => x != 10) r
        omega
      | false =>
        rw [sk_none hb h3]
        exact Nat.zero_le _
theorem sk_bound (l : Bytes) : sk l ≤ l.length := sk_le _ l (Nat.le_refl _)
/-- behind blanks and remarks no blank and no remark stands -/
theorem sk_end : ∀ (n : Nat) (l : Bytes), l.length ≤ n → ∀ c r, l.drop (sk l) = c :: r → isBlank c = false ∧ (c == 35) = false
  | _, [], _, _, _, e => by cases e
  | n + 1, c :: r, h, c', r', e => by
    have hr : r.length ≤ n := Nat.le_of_succ_le_succ h
    cases hb : isBlank c with
    | true =>
      rw [sk_blank hb, Nat.add_comm, List.drop_succ_cons] at e
      exact sk_end n r hr c' r' e
    | false =>
      cases h3 : (c == 35) with
      | true =>
        rw [sk_remark hb h3, Nat.add_assoc, Nat.add_comm 1, List.drop_succ_cons, ← List.drop_drop, drop_takeWhile] at e
        have d := dropWhile_le (fun x : UInt8 => x != 10) r
        exact sk_end n _ (by omega) c' r' e
      | false =>
        rw [sk_none hb h3] at e
        cases e
        exact ⟨hb, h3⟩
theorem token_letter {b : UInt8} {r : Bytes} (h : isLetter b = true) : token (b :: r) =
    if NAME < ((b :: r).takeWhile fun c => isLetter c || isDigit c).length then none
    else some (.name ((b :: r).takeWhile fun c => isLetter c || isDigit c), ((b :: r).takeWhile fun c => isLetter c || isDigit c).length) := by
  show (if isLetter b = true then _ else _) = _
  rw [if_pos h]
theorem token_digit {b : UInt8} {r : Bytes} (h : isLetter b = false) (d : isDigit b = true) : token (b :: r) =
    (numberOf ((b :: r).takeWhile isDigit)).map fun n => (.num n, ((b :: r).takeWhile isDigit).length) := by
  show (if isLetter b = true then _ else if isDigit b = true then _ else _) = _
  rw [if_neg (by rw [h]; exact Bool.false_ne_true), if_pos d]
theorem token_sign {b : UInt8} {r : Bytes} (h : isLetter b = false) (d : isDigit b = false) : token (b :: r) =
    if SIGNS.contains b = true then some (.sign b.toNat, 1) else none := by
  show (if isLetter b = true then _ else if isDigit b = true then _ else _) = _
  rw [if_neg (by rw [h]; exact Bool.false_ne_true), if_neg (by rw [d]; exact Bool.false_ne_true)]
theorem token_pos {l : Bytes} {x : Tok × Nat} (h : token l = some x) : 0 < x.2 ∧ x.2 ≤ l.length := by
  cases l with
  | nil => cases h
  | cons b r =>
    cases hl : isLetter b with
    | true =>
      rw [token_letter hl] at h
      split at h
      · cases h
      · cases h
        refine ⟨?_, takeWhile_le _ _⟩
        rw [List.takeWhile_cons]
        simp [hl]
    | false =>
      cases hd : isDigit b with
      | true =>
        rw [token_digit hl hd] at h
        cases e : numberOf ((b :: r).takeWhile isDigit) with
        | none =>
          rw [e] at h
          cases h
        | some n =>
          rw [e] at h
          cases h
          refine ⟨?_, takeWhile_le _ _⟩
          show 0 < ((b :: r).takeWhile isDigit).length
          rw [List.takeWhile_cons]
          simp [hd]
      | false =>
        rw [token_sign hl hd] at h
        split at h
        · cases h
          exact ⟨Nat.one_pos, Nat.succ_le_succ (Nat.zero_le _)⟩
        · cases h
theorem lex_more : ∀ (n m : Nat) (a : Nat) (l : Bytes), l.length < n → l.length < m → lex n a l = lex m a l
  | n + 1, m + 1, a, [], _, _ => rfl
  | n + 1, m + 1, a, c :: r, h1, h2 => by
    have h1' := Nat.lt_of_succ_lt_succ h1
    have h2' := Nat.lt_of_succ_lt_succ h2
    have d := dropWhile_le (fun x : UInt8 => x != 10) r
    have e1 := lex_more n m (a + 1) r h1' h2'
    have e2 := lex_more n m (a + 1 + (r.takeWhile (· != 10)).length) (r.dropWhile (· != 10)) (Nat.lt_of_le_of_lt d h1') (Nat.lt_of_le_of_lt d h2')
    unfold lex
    rw [e1, e2]
    split
    · rfl
    · split
      · rfl
      · cases ht : token (c :: r) with
        | none => rfl
        | some x =>
          simp only
          have hp := token_pos ht
          have e3 := lex_more n m (a + x.2) ((c :: r).drop x.2)
            (by rw [List.length_drop, List.length_cons]; omega) (by rw [List.length_drop, List.length_cons]; omega)
          rw [e3]
/-- the tokens from a place on -/
def lexW (a : Nat) (l : Bytes) : Except Fault Toks := lex (l.length + 1) a l
theorem lexW_nil (a : Nat) : lexW a [] = .ok [⟨a, .last⟩] := rfl
theorem lexW_blank {a : Nat} {c : UInt8} {r : Bytes} (h : isBlank c = true) : lexW a (c :: r) = lexW (a + 1) r := by
  show lex (r.length + 1 + 1) a (c :: r) = lex (r.length + 1) (a + 1) r
  conv => lhs; unfold lex
  rw [if_pos h]
theorem lexW_remark {a : Nat} {c : UInt8} {r : Bytes} (hb : isBlank c = false) (h : (c == 35) = true) :
    lexW a (c :: r) = lexW (a + 1 + (r.takeWhile (· != 10)).length) (r.dropWhile (· != 10)) := by
  show lex (r.length + 1 + 1) a (c :: r) = lex ((r.dropWhile (· != 10)).length + 1) _ _
  conv => lhs; unfold lex
  rw [if_neg (by rw [hb]; exact Bool.false_ne_true), if_pos h]
  have d := dropWhile_le (fun x : UInt8 => x != 10) r
  exact lex_more _ _ _ _ (Nat.lt_succ_of_le d) (Nat.lt_succ_self _)
theorem lexW_bad {a : Nat} {c : UInt8} {r : Bytes} (hb : isBlank c = false) (h : (c == 35) = false) (ht : token (c :: r) = none) :
    lexW a (c :: r) = .error ⟨2, a⟩ := by
  show lex (r.length + 1 + 1) a (c :: r) = _
  conv => lhs; unfold lex
  rw [if_neg (by rw [hb]; exact Bool.false_ne_true), if_neg (by rw [h]; exact Bool.false_ne_true), ht]
theorem lexW_tok {a : Nat} {c : UInt8} {r : Bytes} {x : Tok × Nat} (hb : isBlank c = false) (h : (c == 35) = false) (ht : token (c :: r) = some x) :
    lexW a (c :: r) = (lexW (a + x.2) ((c :: r).drop x.2)).map fun l => ⟨a, x.1⟩ :: l := by
  show lex (r.length + 1 + 1) a (c :: r) = _
  conv => lhs; unfold lex
  rw [if_neg (by rw [hb]; exact Bool.false_ne_true), if_neg (by rw [h]; exact Bool.false_ne_true), ht]
  have hp := token_pos ht
  simp only
  unfold lexW
  rw [lex_more (r.length + 1) (((c :: r).drop x.2).length + 1) _ _ (by rw [List.length_drop, List.length_cons]; omega) (Nat.lt_succ_self _)]
theorem lexW_sk : ∀ (n a : Nat) (l : Bytes), l.length ≤ n → lexW a l = lexW (a + sk l) (l.drop (sk l))
  | _, _, [], _ => rfl
  | n + 1, a, c :: r, h => by
    have hr : r.length ≤ n := Nat.le_of_succ_le_succ h
    cases hb : isBlank c with
    | true =>
      rw [lexW_blank hb, sk_blank hb, lexW_sk n (a + 1) r hr, Nat.add_comm 1, List.drop_succ_cons, Nat.add_assoc a 1, Nat.add_comm 1]
    | false =>
      cases h3 : (c == 35) with
      | true =>
        have d := dropWhile_le (fun x : UInt8 => x != 10) r
        rw [lexW_remark hb h3, sk_remark hb h3, lexW_sk n _ _ (Nat.le_trans d hr)]
        have e : (c :: r).drop (1 + (r.takeWhile (· != 10)).length + sk (r.dropWhile (· != 10))) = (r.dropWhile (· != 10)).drop (sk (r.dropWhile (· != 10))) := by
          rw [Nat.add_assoc, Nat.add_comm 1, List.drop_succ_cons, ← List.drop_drop, drop_takeWhile]
        rw [e]
        congr 1
        omega
      | false =>
        rw [sk_none hb h3]
        rfl
theorem lexW_skip (a : Nat) (l : Bytes) : lexW a l = lexW (a + sk l) (l.drop (sk l)) := lexW_sk _ a l (Nat.le_refl _)
theorem sk_stop (l : Bytes) (c : UInt8) (r : Bytes) (e : l.drop (sk l) = c :: r) : isBlank c = false ∧ (c == 35) = false := sk_end _ l (Nat.le_refl _) c r e
end Off
end
section
namespace Off
open VaskyBase
open Vaskya (Measure Item Sheet takeMeasures takeInt takeValues takeItems)
/-! ### the reader: the specification's steps, one turn each -/
theorem bind_ok {A B : Type} {a : A} {f : A → Except Fault B} : (Except.ok a : Except Fault A).bind f = f a := rfl
theorem bind_error {A B : Type} {e : Fault} {f : A → Except Fault B} : (Except.error e : Except Fault A).bind f = .error e := rfl
theorem map_ok {A B : Type} {a : A} {f : A → B} : (Except.ok a : Except Fault A).map f = .ok (f a) := rfl
theorem map_error {A B : Type} {e : Fault} {f : A → B} : (Except.error e : Except Fault A).map f = .error e := rfl
/-- up or down -/
def way (l : Toks) : Except Fault (Bool × Toks) := if nextWord "up" l = true then .ok (true, l.drop 1) else (takeWord "down" l).map fun r => (false, r)
/-- one measure -/
def measure1 (ms : List Measure) (l : Toks) : Except Fault (Measure × Toks) :=
  (takeName l).bind fun x => if Vaskya.MEASURES ≤ ms.length then .error ⟨4, x.1.place⟩ else if ms.any (fun m => m.name == x.1.name) = true then .error ⟨5, x.1.place⟩ else
    (way x.2).bind fun u => .ok (⟨x.1.name, u.1⟩, u.2)
theorem takeMeasures_succ (n : Nat) (ms : List Measure) (l : Toks) : takeMeasures (n + 1) ms l =
    (measure1 ms l).bind fun x => if next (.sign 44) x.2 = true then takeMeasures n (ms ++ [x.1]) (x.2.drop 1) else (takeSign 59 x.2).map fun m => (ms ++ [x.1], m) := by
  unfold measure1
  conv => lhs; unfold takeMeasures
  cases takeName l with
  | error e => rfl
  | ok x =>
    simp only [bind_ok]
    split
    · rfl
    · split
      · rfl
      · show (way x.2).bind _ = _
        cases way x.2 with
        | error e => rfl
        | ok u => rfl
/-- one item -/
def item1 (k : Nat) (is : List Item) (l : Toks) : Except Fault (Item × Toks) :=
  (takeWord "item" l).bind fun r => if Vaskya.ITEMS ≤ is.length then .error ⟨4, here l⟩ else (takeName r).bind fun x =>
    if is.any (fun i => i.name == x.1.name) = true then .error ⟨5, x.1.place⟩
    else (takeSign 58 x.2).bind fun r => (takeValues k [] r).bind fun v => (takeSign 59 v.2).bind fun m => .ok (⟨x.1.name, v.1⟩, m)
theorem takeItems_succ (k n : Nat) (is : List Item) (l : Toks) : takeItems k (n + 1) is l =
    if next .last l = true then .ok is else (item1 k is l).bind fun x => takeItems k n (is ++ [x.1]) x.2 := by
  unfold item1
  conv => lhs; unfold takeItems
  split
  · rfl
  · cases takeWord "item" l with
    | error e => rfl
    | ok r =>
      simp only [bind_ok]
      split
      · rfl
      · cases takeName r with
        | error e => rfl
        | ok x =>
          simp only [bind_ok]
          split
          · rfl
          · cases takeSign 58 x.2 with
            | error e => rfl
            | ok r =>
              simp only [bind_ok]
              cases takeValues k [] r with
              | error e => rfl
              | ok v =>
                simp only [bind_ok]
                cases takeSign 59 v.2 with
                | error e => rfl
                | ok m => rfl
theorem takeValues_zero (vs : List Int) (l : Toks) : takeValues 0 vs l = .ok (vs, l) := rfl
theorem takeValues_succ (n : Nat) (vs : List Int) (l : Toks) : takeValues (n + 1) vs l =
    (if vs.isEmpty = true then .ok l else takeSign 44 l).bind fun r => (takeInt r).bind fun x => takeValues n (vs ++ [x.1]) x.2 := rfl
/-! what is taken is shorter -/
theorem taken_ok {t : Tok} {l r : Toks} (h : taken t l = .ok r) : next t l = true ∧ r = l.drop 1 := by
  unfold taken at h
  split at h
  · rename_i c
    cases h
    exact ⟨c, rfl⟩
  · cases h
theorem next_cons {t : Tok} {l : Toks} (h : next t l = true) : ∃ x r, l = x :: r ∧ tokEq x.tok t = true := by
  cases l with
  | nil => cases h
  | cons x r => exact ⟨x, r, rfl, h⟩
theorem taken_short {t : Tok} {l r : Toks} (h : taken t l = .ok r) : r.length < l.length := by
  obtain ⟨h1, rfl⟩ := taken_ok h
  obtain ⟨x, r, rfl, _⟩ := next_cons h1
  exact Nat.lt_succ_self _
theorem takeName_ok {l r : Toks} {x : PName} (h : takeName l = .ok (x, r)) : l = ⟨x.place, .name x.name⟩ :: r ∧ RESERVED.contains x.name = false := by
  unfold takeName at h
  split at h
  · rename_i p b r0
    split at h
    · cases h
    · rename_i c
      cases h
      exact ⟨rfl, Bool.eq_false_iff.mpr c⟩
  · cases h
theorem takeName_short {l r : Toks} {x : PName} (h : takeName l = .ok (x, r)) : r.length < l.length := by
  obtain ⟨rfl, _⟩ := takeName_ok h
  exact Nat.lt_succ_self _
theorem way_short {l : Toks} {u : Bool × Toks} (h : way l = .ok u) : u.2.length < l.length := by
  unfold way at h
  split at h
  · rename_i c
    cases h
    obtain ⟨x, r, rfl, _⟩ := next_cons c
    exact Nat.lt_succ_self _
  · cases e : takeWord "down" l with
    | error f =>
      rw [e] at h
      cases h
    | ok r =>
      rw [e] at h
      cases h
      exact taken_short e
theorem measure1_short {ms : List Measure} {l : Toks} {x : Measure × Toks} (h : measure1 ms l = .ok x) : x.2.length < l.length := by
  unfold measure1 at h
  cases e : takeName l with
  | error f =>
    rw [e] at h
    cases h
  | ok y =>
    rw [e, bind_ok] at h
    split at h
    · cases h
    · split at h
      · cases h
      · cases e2 : way y.2 with
        | error f =>
          rw [e2] at h
          cases h
        | ok u =>
          rw [e2] at h
          cases h
          exact Nat.lt_trans (way_short e2) (takeName_short e)
theorem takeMeasures_more : ∀ (n m : Nat) (ms : List Measure) (l : Toks), l.length < n → l.length < m → takeMeasures n ms l = takeMeasures m ms l
  | n + 1, m + 1, ms, l, h1, h2 => by
    rw [takeMeasures_succ, takeMeasures_succ]
    cases e : measure1 ms l with
    | error f => rfl
    | ok x =>
      rw [bind_ok, bind_ok]
      have s := measure1_short e
      by_cases c : next (.sign 44) x.2 = true
      · rw [if_pos c, if_pos c]
        have : (x.2.drop 1).length ≤ x.2.length := by rw [List.length_drop]; exact Nat.sub_le _ _
        exact takeMeasures_more n m _ _ (by omega) (by omega)
      · rw [if_neg c, if_neg c]
/-- the measures, without fuel -/
def measuresW (ms : List Measure) (l : Toks) : Except Fault (List Measure × Toks) := takeMeasures (l.length + 1) ms l
theorem measuresW_eq (ms : List Measure) (l : Toks) : measuresW ms l =
    (measure1 ms l).bind fun x => if next (.sign 44) x.2 = true then measuresW (ms ++ [x.1]) (x.2.drop 1) else (takeSign 59 x.2).map fun m => (ms ++ [x.1], m) := by
  unfold measuresW
  rw [takeMeasures_succ]
  cases e : measure1 ms l with
  | error f => rfl
  | ok x =>
    rw [bind_ok, bind_ok]
    have s := measure1_short e
    by_cases c : next (.sign 44) x.2 = true
    · rw [if_pos c, if_pos c]
      have : (x.2.drop 1).length ≤ x.2.length := by rw [List.length_drop]; exact Nat.sub_le _ _
      exact takeMeasures_more _ _ _ _ (by omega) (Nat.lt_succ_self _)
    · rw [if_neg c, if_neg c]
theorem takeInt_short {l : Toks} {x : Int × Toks} (h : takeInt l = .ok x) : x.2.length < l.length := by
  unfold takeInt at h
  simp only at h
  split at h
  · rename_i q n r e
    split at h
    · cases h
    · cases h
      show r.length < l.length
      by_cases c : next (.sign 45) l = true
      · rw [if_pos c] at e
        have e2 : (l.drop 1).length = (⟨q, .num n⟩ :: r : Toks).length := by rw [e]
        rw [List.length_drop, List.length_cons] at e2
        omega
      · rw [if_neg c] at e
        rw [e]
        exact Nat.lt_succ_self _
  · cases h
theorem takeValues_short : ∀ (n : Nat) {vs : List Int} {l : Toks} {x : List Int × Toks}, takeValues n vs l = .ok x → x.2.length ≤ l.length
  | 0, _, _, _, h => by
    cases h
    exact Nat.le_refl _
  | n + 1, vs, l, x, h => by
    rw [takeValues_succ] at h
    have key : ∀ r : Toks, r.length ≤ l.length → ((takeInt r).bind fun x => takeValues n (vs ++ [x.1]) x.2) = .ok x → x.2.length ≤ l.length := fun r hr h => by
      cases e : takeInt r with
      | error f =>
        rw [e] at h
        cases h
      | ok y =>
        rw [e, bind_ok] at h
        have := takeValues_short n h
        have := takeInt_short e
        omega
    by_cases c : vs.isEmpty = true
    · rw [if_pos c, bind_ok] at h
      exact key l (Nat.le_refl _) h
    · rw [if_neg c] at h
      cases e : takeSign 44 l with
      | error f =>
        rw [e] at h
        cases h
      | ok r =>
        rw [e, bind_ok] at h
        exact key r (Nat.le_of_lt (taken_short e)) h
theorem item1_short {k : Nat} {is : List Item} {l : Toks} {x : Item × Toks} (h : item1 k is l = .ok x) : x.2.length < l.length := by
  unfold item1 at h
  cases e : takeWord "item" l with
  | error f =>
    rw [e] at h
    cases h
  | ok r =>
    rw [e, bind_ok] at h
    have h1 := taken_short e
    split at h
    · cases h
    · cases e2 : takeName r with
      | error f =>
        rw [e2] at h
        cases h
      | ok y =>
        rw [e2, bind_ok] at h
        have h2 := takeName_short e2
        split at h
        · cases h
        · cases e3 : takeSign 58 y.2 with
          | error f =>
            rw [e3] at h
            cases h
          | ok r3 =>
            rw [e3, bind_ok] at h
            have h3 := taken_short e3
            cases e4 : takeValues k [] r3 with
            | error f =>
              rw [e4] at h
              cases h
            | ok v =>
              rw [e4, bind_ok] at h
              have h4 := takeValues_short k e4
              cases e5 : takeSign 59 v.2 with
              | error f =>
                rw [e5] at h
                cases h
              | ok m =>
                rw [e5] at h
                cases h
                have h5 := taken_short e5
                show m.length < l.length
                omega
theorem takeItems_more (k : Nat) : ∀ (n m : Nat) (is : List Item) (l : Toks), l.length < n → l.length < m → takeItems k n is l = takeItems k m is l
  | n + 1, m + 1, is, l, h1, h2 => by
    rw [takeItems_succ, takeItems_succ]
    by_cases c : next .last l = true
    · rw [if_pos c, if_pos c]
    · rw [if_neg c, if_neg c]
      cases e : item1 k is l with
      | error f => rfl
      | ok x =>
        rw [bind_ok, bind_ok]
        have s := item1_short e
        exact takeItems_more k n m _ _ (by omega) (by omega)
/-- the items, without fuel -/
def itemsW (k : Nat) (is : List Item) (l : Toks) : Except Fault (List Item) := takeItems k (l.length + 1) is l
theorem itemsW_eq (k : Nat) (is : List Item) (l : Toks) : itemsW k is l =
    if next .last l = true then .ok is else (item1 k is l).bind fun x => itemsW k (is ++ [x.1]) x.2 := by
  unfold itemsW
  rw [takeItems_succ]
  by_cases c : next .last l = true
  · rw [if_pos c, if_pos c]
  · rw [if_neg c, if_neg c]
    cases e : item1 k is l with
    | error f => rfl
    | ok x =>
      rw [bind_ok, bind_ok]
      have s := item1_short e
      exact takeItems_more k _ _ _ _ (by omega) (Nat.lt_succ_self _)
theorem read_eq (b : Bytes) : Vaskya.read b = (tokens b).bind fun l => (takeWord "measures" l).bind fun r => (measuresW [] r).bind fun x =>
    (itemsW x.1.length [] x.2).map fun is => ⟨x.1, is⟩ := rfl
theorem tokens_eq (b : Bytes) : tokens b = if TEXT < b.length then .error ⟨1, TEXT⟩ else lexW 0 b := rfl
end Off
end
section
namespace Off
open VaskyBase
theorem tw_lt {α : Type} {p : α → Bool} : ∀ {l : List α} {j : Nat}, j < (l.takeWhile p).length → ∃ c, l[j]? = some c ∧ p c = true
  | [], j, h => absurd h (Nat.not_lt_zero _)
  | a :: l, j, h => by
    rw [List.takeWhile_cons] at h
    cases e : p a with
    | false =>
      rw [e] at h
      exact absurd h (Nat.not_lt_zero _)
    | true =>
      rw [e] at h
      cases j with
      | zero => exact ⟨a, rfl, e⟩
      | succ j =>
        obtain ⟨c, h1, h2⟩ := tw_lt (l := l) (j := j) (Nat.lt_of_succ_lt_succ h)
        exact ⟨c, h1, h2⟩
theorem tw_end {α : Type} {p : α → Bool} : ∀ {l : List α} {c : α}, l[(l.takeWhile p).length]? = some c → p c = false
  | [], c, h => by cases h
  | a :: l, c, h => by
    rw [List.takeWhile_cons] at h
    cases e : p a with
    | false =>
      rw [e] at h
      cases h
      exact e
    | true =>
      rw [e] at h
      exact tw_end (l := l) h
theorem tw_take {α : Type} {p : α → Bool} : ∀ {l : List α}, l.take (l.takeWhile p).length = l.takeWhile p
  | [] => rfl
  | a :: l => by
    rw [List.takeWhile_cons]
    cases e : p a with
    | false => rfl
    | true =>
      show a :: l.take (l.takeWhile p).length = _
      rw [tw_take]
      rfl
theorem drop_cons {α : Type} {l : List α} {p : Nat} {c : α} (h : l[p]? = some c) : l.drop p = c :: l.drop (p + 1) := by
  obtain ⟨hp, e⟩ := List.getElem?_eq_some_iff.mp h
  rw [← e]
  exact (List.drop_eq_getElem_cons hp)
end Off
namespace Off
theorem tw_get {α : Type} {p : α → Bool} : ∀ {l : List α} {j : Nat} {c : α}, (l.takeWhile p)[j]? = some c → l[j]? = some c ∧ p c = true
  | [], j, c, h => by cases h
  | a :: l, j, c, h => by
    rw [List.takeWhile_cons] at h
    cases e : p a with
    | false =>
      rw [e] at h
      cases h
    | true =>
      rw [e] at h
      cases j with
      | zero =>
        cases h
        exact ⟨rfl, e⟩
      | succ j =>
        exact tw_get (l := l) h
end Off
end
section
namespace Off
open Vaskya (atLeast beaters)
theorem ne_any : ∀ (a b : List Int), a.length = b.length → atLeast a b = true → (a != b) = (a.zip b).any fun x => decide (x.2 < x.1)
  | [], [], _, _ => rfl
  | x :: a, y :: b, hl, h => by
    have h' : (decide (y ≤ x) && atLeast a b) = true := h
    rw [Bool.and_eq_true, decide_eq_true_iff] at h'
    have ih := ne_any a b (Nat.succ.inj hl) h'.2
    show ((x :: a) != (y :: b)) = (decide (y < x) || (a.zip b).any fun x => decide (x.2 < x.1))
    rw [← ih]
    by_cases e : x = y
    · subst e
      rw [decide_eq_false (Int.lt_irrefl x), Bool.false_or]
      show (!((x == x) && (a == b))) = !(a == b)
      rw [beq_self_eq_true, Bool.true_and]
    · have : y < x := Int.lt_iff_le_and_ne.mpr ⟨h'.1, Ne.symm e⟩
      rw [decide_eq_true this, Bool.true_or]
      show (!((x == y) && (a == b))) = true
      rw [beq_eq_false_iff_ne.mpr e]
      rfl
/-- what the loop over both rows finds -/
theorem beats_eq {a b : List Int} (hl : a.length = b.length) : Vaskya.beats a b = ((a.zip b).all (fun x => decide (x.2 ≤ x.1)) && (a.zip b).any fun x => decide (x.2 < x.1)) := by
  show (atLeast a b && (a != b)) = (atLeast a b && _)
  cases h : atLeast a b with
  | false => rfl
  | true => rw [ne_any a b hl h]
end Off
end
section
namespace Off
open VaskyBase (Frac frac plus fracRow whole)
theorem gcd_step (x y : Nat) (h : y ≠ 0) : Nat.gcd x y = Nat.gcd y (x % y) := by
  rw [Nat.gcd_comm x y, Nat.gcd_rec y x, Nat.gcd_comm]
theorem frac_nat {a b : Nat} (hb : 0 < b) : frac (a : Int) b = ⟨(a : Int) / ((Nat.gcd a b : Nat) : Int), b / Nat.gcd a b⟩ := by
  unfold frac
  have : Nat.gcd a b ≠ 0 := fun h => by
    have := Nat.eq_zero_of_gcd_eq_zero_right h
    omega
  simp only [Int.natAbs_natCast]
  rw [if_neg this]
/-- a chance: at least 0, within so many bits -/
structure Bd (k : Nat) (f : Frac) : Prop where
  num : ∃ n : Nat, f.num = (n : Int) ∧ n < 2 ^ k
  den : f.den < 2 ^ k
  pos : 0 < f.den
theorem Bd.mono {j k : Nat} {f : Frac} (h : Bd j f) (l : j ≤ k) : Bd k f := by
  have p : 2 ^ j ≤ 2 ^ k := Nat.pow_le_pow_right (by decide) l
  obtain ⟨⟨n, e, hn⟩, d, p0⟩ := h
  exact ⟨⟨n, e, Nat.lt_of_lt_of_le hn p⟩, Nat.lt_of_lt_of_le d p, p0⟩
theorem frac_bd {a b k : Nat} (ha : a < 2 ^ k) (hb : b < 2 ^ k) (h0 : 0 < b) : Bd k (frac (a : Int) b) := by
  rw [frac_nat h0]
  have g0 : 0 < Nat.gcd a b := Nat.gcd_pos_of_pos_right a h0
  refine ⟨⟨a / Nat.gcd a b, Int.natCast_ediv a _, Nat.lt_of_le_of_lt (Nat.div_le_self _ _) ha⟩, Nat.lt_of_le_of_lt (Nat.div_le_self _ _) hb, ?_⟩
  exact Nat.div_pos (Nat.le_of_dvd h0 (Nat.gcd_dvd_right a b)) g0
theorem plus_nat {x y : Frac} {n m : Nat} (hx : x.num = (n : Int)) (hy : y.num = (m : Int)) : plus x y = frac ((n * y.den + m * x.den : Nat) : Int) (x.den * y.den) := by
  unfold plus
  rw [hx, hy]
  congr 1
theorem plus_bd {x y : Frac} {j k : Nat} (hx : Bd j x) (hy : Bd k y) : Bd (j + k + 1) (plus x y) := by
  obtain ⟨⟨n, en, ln⟩, dx, px⟩ := hx
  obtain ⟨⟨m, em, lm⟩, dy, py⟩ := hy
  rw [plus_nat en em]
  have e1 : n * y.den ≤ 2 ^ j * 2 ^ k := Nat.mul_le_mul (Nat.le_of_lt ln) (Nat.le_of_lt dy)
  have e2 : m * x.den ≤ 2 ^ k * 2 ^ j := Nat.mul_le_mul (Nat.le_of_lt lm) (Nat.le_of_lt dx)
  have p : 2 ^ (j + k + 1) = 2 ^ j * 2 ^ k * 2 := by rw [Nat.pow_succ, Nat.pow_add]
  have e3 : m * x.den < 2 ^ j * 2 ^ k := by
    have : m * x.den < 2 ^ k * 2 ^ j := Nat.mul_lt_mul'' lm dx
    rw [Nat.mul_comm (2 ^ k)] at this
    exact this
  have e4 : x.den * y.den < 2 ^ j * 2 ^ k := Nat.mul_lt_mul'' dx dy
  refine frac_bd ?_ ?_ (Nat.mul_pos px py)
  · rw [p]
    omega
  · rw [p]
    omega
theorem whole_bd : Bd 1 (whole 0) := ⟨⟨0, rfl, by decide⟩, by decide, by decide⟩
end Off
end
section
namespace Off
open VaskyBase (Frac frac plus fracRow whole less)
/-! ### fractions -/
theorem frac_mul {k x y : Nat} (hk : 0 < k) (hy : 0 < y) : frac ((k * x : Nat) : Int) (k * y) = frac (x : Int) y := by
  rw [frac_nat (Nat.mul_pos hk hy), frac_nat hy, Nat.gcd_mul_left]
  have g0 : 0 < Nat.gcd x y := Nat.gcd_pos_of_pos_right x hy
  rw [Nat.mul_div_mul_left _ _ hk]
  congr 1
  rw [← Int.natCast_ediv, ← Int.natCast_ediv, Nat.mul_div_mul_left _ _ hk]
theorem frac_cross {x y u v : Nat} (hy : 0 < y) (hv : 0 < v) (h : x * v = u * y) : frac (x : Int) y = frac (u : Int) v := by
  rw [← frac_mul hv hy, ← frac_mul hy hv, Nat.mul_comm v x, h, Nat.mul_comm u y, Nat.mul_comm v y]
theorem frac_parts {a D : Nat} (h : 0 < D) : ∃ g x d : Nat, 0 < g ∧ 0 < d ∧ a = g * x ∧ D = g * d ∧ frac (a : Int) D = ⟨(x : Int), d⟩ := by
  have g0 : 0 < Nat.gcd a D := Nat.gcd_pos_of_pos_right a h
  obtain ⟨x, hx⟩ := Nat.gcd_dvd_left a D
  obtain ⟨d, hd⟩ := Nat.gcd_dvd_right a D
  refine ⟨Nat.gcd a D, x, d, g0, ?_, hx, hd, ?_⟩
  · cases d with
    | zero => rw [Nat.mul_zero] at hd; omega
    | succ d => exact Nat.succ_pos d
  · rw [frac_nat h]
    have e1 : a / Nat.gcd a D = x := by
      conv => lhs; lhs; rw [hx]
      exact Nat.mul_div_cancel_left _ g0
    have e2 : D / Nat.gcd a D = d := by
      conv => lhs; lhs; rw [hd]
      exact Nat.mul_div_cancel_left _ g0
    rw [← Int.natCast_ediv, e1, e2]
theorem plus_frac {a b D : Nat} (h : 0 < D) : plus (frac (a : Int) D) (frac (b : Int) D) = frac ((a + b : Nat) : Int) D := by
  obtain ⟨g, x, d, g0, d0, ea, ed, ef⟩ := frac_parts (a := a) h
  obtain ⟨k, y, e, k0, e0, eb, ee, eg⟩ := frac_parts (a := b) h
  rw [ef, eg, plus_nat (n := x) (m := y) rfl rfl]
  refine frac_cross (Nat.mul_pos d0 e0) h ?_
  show (x * e + y * d) * D = (a + b) * (d * e)
  rw [Nat.add_mul, Nat.add_mul, ea, eb]
  have h1 : x * e * D = g * x * (d * e) := by
    rw [ed]
    rw [show x * e * (g * d) = g * x * (d * e) by simp only [Nat.mul_comm, Nat.mul_left_comm, Nat.mul_assoc]]
  have h2 : y * d * D = k * y * (d * e) := by
    rw [ee]
    rw [show y * d * (k * e) = k * y * (d * e) by simp only [Nat.mul_comm, Nat.mul_left_comm, Nat.mul_assoc]]
  rw [h1, h2]
theorem frac_zero {D : Nat} (h : 0 < D) : frac ((0 : Nat) : Int) D = whole 0 := by
  rw [frac_nat h, Nat.gcd_zero_left, Nat.div_self h]
  show (⟨((0 : Nat) : Int) / (D : Int), 1⟩ : Frac) = ⟨0, 1⟩
  rw [Int.natCast_zero, Int.zero_ediv]
theorem plus_all {D : Nat} (h : 0 < D) : ∀ (ws : List Nat) (a : Nat), (ws.map fun w : Nat => frac (w : Int) D).foldl plus (frac (a : Int) D) = frac ((a + ws.sum : Nat) : Int) D
  | [], a => by rw [List.map_nil, List.foldl_nil, List.sum_nil, Nat.add_zero]
  | w :: ws, a => by rw [List.map_cons, List.foldl_cons, plus_frac h, plus_all h ws, List.sum_cons, Nat.add_assoc]
theorem less_frac {a b D : Nat} (h : 0 < D) : less (frac (a : Int) D) (frac (b : Int) D) = decide (a < b) := by
  obtain ⟨g, x, d, g0, d0, ea, ed, ef⟩ := frac_parts (a := a) h
  obtain ⟨k, y, e, k0, e0, eb, ee, eg⟩ := frac_parts (a := b) h
  rw [ef, eg]
  show decide ((x : Int) * (e : Int) < (y : Int) * (d : Int)) = _
  refine decide_eq_decide.mpr ?_
  have h1 : x * e * D = a * (d * e) := by
    rw [ed, ea]
    simp only [Nat.mul_comm, Nat.mul_left_comm]
  have h2 : y * d * D = b * (d * e) := by
    rw [ee, eb]
    simp only [Nat.mul_comm, Nat.mul_left_comm]
  have de : 0 < d * e := Nat.mul_pos d0 e0
  constructor
  · intro l
    have l' : x * e < y * d := by exact_mod_cast l
    have : x * e * D < y * d * D := Nat.mul_lt_mul_of_pos_right l' h
    rw [h1, h2] at this
    exact Nat.lt_of_mul_lt_mul_right this
  · intro l
    have : a * (d * e) < b * (d * e) := Nat.mul_lt_mul_of_pos_right l de
    rw [← h1, ← h2] at this
    have := Nat.lt_of_mul_lt_mul_right this
    exact_mod_cast this
end Off
end
section
namespace Off
open VaskyBase (Frac frac plus fracRow whole less)
/-! ### products -/
def prod (l : List Nat) : Nat := l.foldl (fun x y => x * y) 1
theorem prod_from : ∀ (l : List Nat) (a : Nat), l.foldl (fun x y => x * y) a = a * prod l
  | [], a => by rw [List.foldl_nil]; exact (Nat.mul_one a).symm
  | x :: l, a => by
    rw [List.foldl_cons, prod_from l]
    show a * x * prod l = a * ((x :: l).foldl (fun x y => x * y) 1)
    rw [List.foldl_cons, prod_from l, Nat.one_mul, Nat.mul_assoc]
theorem prod_nil : prod [] = 1 := rfl
theorem prod_cons (x : Nat) (l : List Nat) : prod (x :: l) = x * prod l := by
  show (x :: l).foldl (fun x y => x * y) 1 = _
  rw [List.foldl_cons, prod_from, Nat.one_mul]
theorem prod_append (l m : List Nat) : prod (l ++ m) = prod l * prod m := by
  show (l ++ m).foldl (fun x y => x * y) 1 = _
  rw [List.foldl_append, prod_from]
  rfl
theorem prod_snoc (l : List Nat) (x : Nat) : prod (l ++ [x]) = prod l * x := by rw [prod_append, prod_cons, prod_nil, Nat.mul_one]
theorem prod_perm {l m : List Nat} (h : l.Perm m) : prod l = prod m := by
  induction h with
  | nil => rfl
  | cons x _ ih => rw [prod_cons, prod_cons, ih]
  | swap x y l => rw [prod_cons, prod_cons, prod_cons, prod_cons, Nat.mul_left_comm]
  | trans _ _ h1 h2 => rw [h1, h2]
theorem prod_const (q : Nat) : ∀ l : List Nat, prod (l.map fun _ => q) = q ^ l.length
  | [] => rfl
  | x :: l => by rw [List.map_cons, prod_cons, prod_const q l, List.length_cons, Nat.pow_succ, Nat.mul_comm]
theorem prod_split (c : Nat → Bool) (f g : Nat → Nat) : ∀ l : List Nat, prod (l.map fun i => if c i = true then f i else g i) = prod ((l.filter c).map f) * prod ((l.filter fun i => !c i).map g)
  | [] => rfl
  | x :: l => by
    rw [List.map_cons, prod_cons, prod_split c f g l, List.filter_cons, List.filter_cons]
    cases h : c x with
    | true =>
      rw [if_pos rfl, if_pos rfl, if_neg (by simp), List.map_cons, prod_cons, Nat.mul_assoc]
    | false =>
      rw [if_neg (by simp), if_neg (by simp), if_pos (show (!false) = true from rfl), List.map_cons, prod_cons, Nat.mul_left_comm]
theorem filter_perm {S L : List Nat} (hS : S.Nodup) (hL : L.Nodup) (h : ∀ x ∈ S, x ∈ L) : (L.filter fun i => S.contains i).Perm S := by
  refine (List.perm_ext_iff_of_nodup (hL.filter _) hS).mpr fun a => ?_
  rw [List.mem_filter, List.contains_iff_mem]
  exact ⟨fun h => h.2, fun x => ⟨h _ x, x⟩⟩
/-- the weight of the worlds in which the ones are there, the others away -/
def wfac (p : Nat → Nat) (q : Nat) (S A : List Nat) (i : Nat) : Nat := if S.contains i = true then p i else if A.contains i = true then q - p i else q
def ww (p : Nat → Nat) (q n : Nat) (S A : List Nat) : Nat := prod ((List.range n).map (wfac p q S A))
theorem ww_eq {p : Nat → Nat} {q n : Nat} {S A : List Nat} (hS : S.Nodup) (hA : A.Nodup) (sS : ∀ x ∈ S, x < n) (sA : ∀ x ∈ A, x < n ∧ x ∉ S) :
    ww p q n S A = prod (S.map p ++ A.map fun i => q - p i) * q ^ (n - (S.length + A.length)) ∧ S.length + A.length ≤ n := by
  have e0 : ww p q n S A = prod ((List.range n).map fun i => if S.contains i = true then p i else if A.contains i = true then q - p i else q) := rfl
  rw [e0, prod_split, prod_split, prod_append]
  have p1 := filter_perm hS List.nodup_range (fun x hx => List.mem_range.mpr (sS x hx))
  have p2 : (((List.range n).filter fun i => !S.contains i).filter fun i => A.contains i).Perm A := by
    refine filter_perm hA (List.nodup_range.filter _) fun x hx => ?_
    rw [List.mem_filter, List.mem_range]
    refine ⟨(sA x hx).1, ?_⟩
    have := (sA x hx).2
    simp [this]
  have l0 : (List.range n).length = n := List.length_range
  have l1 : ((List.range n).filter fun i => S.contains i).length + ((List.range n).filter fun i => !S.contains i).length = n := by
    rw [← List.length_append]
    conv => rhs; rw [← l0]
    exact (List.filter_append_perm (fun i => S.contains i) (List.range n)).length_eq
  have l2 : (((List.range n).filter fun i => !S.contains i).filter fun i => A.contains i).length + (((List.range n).filter fun i => !S.contains i).filter fun i => !A.contains i).length = ((List.range n).filter fun i => !S.contains i).length := by
    rw [← List.length_append]
    exact (List.filter_append_perm (fun i => A.contains i) _).length_eq
  rw [p1.length_eq] at l1
  rw [p2.length_eq] at l2
  rw [prod_perm (p1.map p), prod_perm (p2.map fun i => q - p i), prod_const, Nat.mul_assoc]
  refine ⟨?_, by omega⟩
  congr 3
  omega
end Off
end
section
namespace Off
/-! ### sets as numbers -/
/-- the bit of an item -/
def bt (n i : Nat) : Nat := 2 ^ (n - 1 - i)
/-- the items of a number -/
def has (n b i : Nat) : Bool := b.testBit (n - 1 - i)
def its (n b : Nat) : List Nat := (List.range n).filter (has n b)
def maskOf (n : Nat) (l : List Nat) : Nat := (l.map (bt n)).sum
theorem testBit_add {b k : Nat} (h : b.testBit k = false) (j : Nat) : (b + 2 ^ k).testBit j = (b.testBit j || decide (j = k)) := by
  have e1 : b = 2 ^ (k + 1) * (b / 2 ^ (k + 1)) + b % 2 ^ (k + 1) := (Nat.div_add_mod b _).symm
  have hr : b % 2 ^ (k + 1) < 2 ^ k := by
    have h1 : b % 2 ^ (k + 1) < 2 ^ (k + 1) := Nat.mod_lt _ (Nat.pow_pos (by decide))
    have h2 : (b % 2 ^ (k + 1)).testBit k = false := by
      rw [Nat.testBit_mod_two_pow, h, Bool.and_false]
    refine Nat.lt_of_not_le fun c => ?_
    have := Nat.testBit_two_pow_add_eq (b % 2 ^ (k + 1) - 2 ^ k) k
    rw [Nat.add_sub_cancel' c, h2] at this
    have h3 : b % 2 ^ (k + 1) - 2 ^ k < 2 ^ k := by rw [Nat.pow_succ] at h1 ⊢; omega
    rw [Nat.testBit_lt_two_pow h3] at this
    cases this
  have h3 : 2 ^ k + b % 2 ^ (k + 1) < 2 ^ (k + 1) := by rw [Nat.pow_succ] at hr ⊢; omega
  have e2 : b + 2 ^ k = 2 ^ (k + 1) * (b / 2 ^ (k + 1)) + (2 ^ k + b % 2 ^ (k + 1)) := by omega
  have t1 : b.testBit j = if j < k + 1 then (b % 2 ^ (k + 1)).testBit j else (b / 2 ^ (k + 1)).testBit (j - (k + 1)) := by
    conv => lhs; rw [e1]
    exact Nat.testBit_two_pow_mul_add _ (Nat.mod_lt _ (Nat.pow_pos (by decide))) j
  rw [e2, Nat.testBit_two_pow_mul_add _ h3, t1]
  by_cases c : j < k + 1
  · rw [if_pos c, if_pos c]
    by_cases d : j = k
    · subst d
      rw [Nat.testBit_two_pow_add_eq, Nat.testBit_lt_two_pow hr, decide_eq_true rfl]
      rfl
    · rw [Nat.testBit_two_pow_add_gt (by omega), decide_eq_false d, Bool.or_false]
  · rw [if_neg c, if_neg c, decide_eq_false (by omega), Bool.or_false]
theorem has_add {n b x : Nat} (hx : x < n) (h : has n b x = false) {i : Nat} (hi : i < n) : has n (b + bt n x) i = (has n b i || decide (i = x)) := by
  unfold has bt
  rw [testBit_add h]
  congr 1
  exact decide_eq_decide.mpr (by omega)
theorem add_lt {n b x : Nat} (hx : x < n) (h : has n b x = false) (hb : b < 2 ^ n) : b + bt n x < 2 ^ n := by
  refine Nat.lt_pow_two_of_testBit _ fun j hj => ?_
  unfold bt
  rw [testBit_add h, Nat.testBit_lt_two_pow (Nat.lt_of_lt_of_le hb (Nat.pow_le_pow_right (by decide) hj)), decide_eq_false (by omega)]
  rfl
theorem has_ext {n b c : Nat} (hb : b < 2 ^ n) (hc : c < 2 ^ n) (h : ∀ i, i < n → has n b i = has n c i) : b = c := by
  refine Nat.eq_of_testBit_eq fun j => ?_
  by_cases d : j < n
  · have := h (n - 1 - j) (by omega)
    unfold has at this
    rw [show n - 1 - (n - 1 - j) = j by omega] at this
    exact this
  · rw [Nat.testBit_lt_two_pow (Nat.lt_of_lt_of_le hb (Nat.pow_le_pow_right (by decide) (by omega))), Nat.testBit_lt_two_pow (Nat.lt_of_lt_of_le hc (Nat.pow_le_pow_right (by decide) (by omega)))]
theorem has_zero (n i : Nat) : has n 0 i = false := Nat.zero_testBit _
theorem mem_its {n b i : Nat} : i ∈ its n b ↔ i < n ∧ has n b i = true := by
  unfold its
  rw [List.mem_filter, List.mem_range]
theorem its_nodup (n b : Nat) : (its n b).Nodup := List.nodup_range.filter _
theorem mask_has {n : Nat} : ∀ {l : List Nat}, l.Nodup → (∀ x ∈ l, x < n) → maskOf n l < 2 ^ n ∧ ∀ i, i < n → has n (maskOf n l) i = l.contains i
  | [], _, _ => ⟨Nat.pow_pos (by decide), fun i _ => has_zero n i⟩
  | x :: l, hn, hl => by
    obtain ⟨hx, hn⟩ := List.nodup_cons.mp hn
    obtain ⟨h1, h2⟩ := mask_has hn (fun y hy => hl y (List.mem_cons_of_mem _ hy))
    have xn := hl x List.mem_cons_self
    have h0 : has n (maskOf n l) x = false := by
      rw [h2 x xn]
      simpa using hx
    have e : maskOf n (x :: l) = maskOf n l + bt n x := by
      unfold maskOf
      rw [List.map_cons, List.sum_cons, Nat.add_comm]
    rw [e]
    refine ⟨add_lt xn h0 h1, fun i hi => ?_⟩
    rw [has_add xn h0 hi, h2 i hi, List.contains_cons, Bool.or_comm]
    congr 1
theorem and_bit (n b i : Nat) : decide (b &&& bt n i ≠ 0) = has n b i := by
  unfold bt has
  cases h : b.testBit (n - 1 - i) with
  | true =>
    refine decide_eq_true fun c => ?_
    have : (b &&& 2 ^ (n - 1 - i)).testBit (n - 1 - i) = true := by
      rw [Nat.testBit_and, h, Nat.testBit_two_pow_self]
      rfl
    rw [c, Nat.zero_testBit] at this
    cases this
  | false =>
    refine decide_eq_false fun c => ?_
    obtain ⟨j, hj⟩ := Nat.exists_testBit_of_ne_zero c
    rw [Nat.testBit_and, Bool.and_eq_true, Nat.testBit_two_pow, decide_eq_true_iff] at hj
    obtain ⟨h1, rfl⟩ := hj
    rw [h1] at h
    cases h
theorem and_mask {n b : Nat} {l : List Nat} (hn : l.Nodup) (hl : ∀ x ∈ l, x < n) (hb : b < 2 ^ n) : decide (b &&& maskOf n l ≠ 0) = l.any (has n b) := by
  obtain ⟨h1, h2⟩ := mask_has hn hl
  rw [Bool.eq_iff_iff, decide_eq_true_iff, List.any_eq_true]
  constructor
  · intro h
    obtain ⟨j, hj⟩ := Nat.exists_testBit_of_ne_zero h
    rw [Nat.testBit_and, Bool.and_eq_true] at hj
    have jn : j < n := Nat.lt_of_not_le fun c => by
      have := Nat.testBit_lt_two_pow (Nat.lt_of_lt_of_le hb (Nat.pow_le_pow_right (n := 2) (by decide) c))
      rw [hj.1] at this
      cases this
    have m := h2 (n - 1 - j) (by omega)
    unfold has at m
    rw [show n - 1 - (n - 1 - j) = j by omega, hj.2] at m
    refine ⟨n - 1 - j, by simpa using m.symm, ?_⟩
    unfold has
    rw [show n - 1 - (n - 1 - j) = j by omega]
    exact hj.1
  · rintro ⟨x, hx, hb'⟩ c
    have xn := hl x hx
    have m := h2 x xn
    have : l.contains x = true := by simpa using hx
    rw [this] at m
    have : (b &&& maskOf n l).testBit (n - 1 - x) = true := by
      rw [Nat.testBit_and]
      unfold has at m hb'
      rw [m, hb']
      rfl
    rw [c, Nat.zero_testBit] at this
    cases this
end Off
end
section
namespace Off
/-! ### the sets' weights, item by item -/
section
variable (n : Nat) (bx : Nat → Nat → Bool) (p : Nat → Nat) (q : Nat)
/-- an item is beaten by one of a set -/
def bby (b x : Nat) : Bool := (List.range n).any fun i => has n b i && bx i x
def join1 (x : Nat) (e : Nat × Nat) : List (Nat × Nat) := if bby n bx e.1 x = true then [(e.1, e.2 * q)] else [(e.1 + bt n x, e.2 * p x), (e.1, e.2 * (q - p x))]
def joined (x : Nat) (D : List (Nat × Nat)) : List (Nat × Nat) := D.flatMap (join1 n bx p q x)
def tab : List Nat → List (Nat × Nat)
  | [] => [(0, 1)]
  | x :: R => joined n bx p q x (tab R)
def Sub (R : List Nat) (b : Nat) : Prop := b < 2 ^ n ∧ ∀ i, i < n → has n b i = true → i ∈ R
def Apart (b : Nat) : Prop := ∀ i j, i < n → j < n → has n b i = true → has n b j = true → bx i j = false
def wP (R : List Nat) (b : Nat) : Nat := prod (R.map fun i => if has n b i = true then p i else if bby n bx b i = true then q else q - p i)
/-- items in an order such that none beats an earlier one -/
def Good : List Nat → Prop
  | [] => True
  | x :: R => x < n ∧ x ∉ R ∧ bx x x = false ∧ (∀ y ∈ R, bx x y = false) ∧ Good R
structure TabOk (R : List Nat) (D : List (Nat × Nat)) : Prop where
  nd : (D.map (·.1)).Nodup
  sub : ∀ e ∈ D, Sub n R e.1 ∧ Apart n bx e.1 ∧ e.2 = wP n bx p q R e.1
  all : ∀ b, Sub n R b → Apart n bx b → b ∈ D.map (·.1)
end
section
variable {n : Nat} {bx : Nat → Nat → Bool} {p : Nat → Nat} {q : Nat}
theorem bby_iff {b x : Nat} : bby n bx b x = true ↔ ∃ i, i < n ∧ has n b i = true ∧ bx i x = true := by
  unfold bby
  rw [List.any_eq_true]
  constructor
  · rintro ⟨i, hi, h⟩
    rw [Bool.and_eq_true] at h
    exact ⟨i, List.mem_range.mp hi, h.1, h.2⟩
  · rintro ⟨i, hi, h⟩
    exact ⟨i, List.mem_range.mpr hi, by rw [h.1, h.2]; rfl⟩
theorem bby_add {b x y : Nat} (hx : x < n) (h : has n b x = false) (hy : bx x y = false) : bby n bx (b + bt n x) y = bby n bx b y := by
  rw [Bool.eq_iff_iff, bby_iff, bby_iff]
  constructor
  · rintro ⟨i, hi, h1, h2⟩
    rw [has_add hx h hi, Bool.or_eq_true, decide_eq_true_iff] at h1
    rcases h1 with h1 | rfl
    · exact ⟨i, hi, h1, h2⟩
    · rw [hy] at h2
      cases h2
  · rintro ⟨i, hi, h1, h2⟩
    exact ⟨i, hi, by rw [has_add hx h hi, h1]; rfl, h2⟩
theorem sub_not {R : List Nat} {b x : Nat} (hx : x < n) (hR : x ∉ R) (h : Sub n R b) : has n b x = false := by
  cases e : has n b x with
  | false => rfl
  | true => exact absurd (h.2 x hx e) hR
theorem sub_cons {R : List Nat} {b : Nat} (x : Nat) (h : Sub n R b) : Sub n (x :: R) b := ⟨h.1, fun i hi e => List.mem_cons_of_mem _ (h.2 i hi e)⟩
theorem sub_add {R : List Nat} {b x : Nat} (hx : x < n) (hR : x ∉ R) (h : Sub n R b) : Sub n (x :: R) (b + bt n x) := by
  have h0 := sub_not hx hR h
  refine ⟨add_lt hx h0 h.1, fun i hi e => ?_⟩
  rw [has_add hx h0 hi, Bool.or_eq_true, decide_eq_true_iff] at e
  rcases e with e | rfl
  · exact List.mem_cons_of_mem _ (h.2 i hi e)
  · exact List.mem_cons_self
theorem wP_same {R : List Nat} {b c : Nat} (h : ∀ i ∈ R, has n b i = has n c i ∧ bby n bx b i = bby n bx c i) : wP n bx p q R b = wP n bx p q R c := by
  unfold wP
  congr 1
  refine List.map_congr_left fun i hi => ?_
  rw [(h i hi).1, (h i hi).2]
theorem good_lt : ∀ {R : List Nat}, Good n bx R → ∀ x ∈ R, x < n
  | y :: R, g, x, h => by
    rcases List.mem_cons.mp h with rfl | h
    · exact g.1
    · exact good_lt g.2.2.2.2 x h
theorem wP_add {R : List Nat} {b x : Nat} (g : Good n bx (x :: R)) (h : Sub n R b) : wP n bx p q R (b + bt n x) = wP n bx p q R b := by
  obtain ⟨hx, hR, _, hb, g'⟩ := g
  have h0 := sub_not hx hR h
  refine wP_same fun i hi => ?_
  have ne : decide (i = x) = false := decide_eq_false fun e => by
    subst e
    exact hR hi
  rw [bby_add hx h0 (hb i hi), has_add hx h0 (good_lt g' i hi), ne, Bool.or_false]
  exact ⟨rfl, rfl⟩
theorem wP_cons (x : Nat) (R : List Nat) (b : Nat) : wP n bx p q (x :: R) b = (if has n b x = true then p x else if bby n bx b x = true then q else q - p x) * wP n bx p q R b := by
  unfold wP
  rw [List.map_cons, prod_cons]
theorem join_mem {x : Nat} {D : List (Nat × Nat)} {k v : Nat} : (k, v) ∈ joined n bx p q x D ↔ ∃ e ∈ D, (bby n bx e.1 x = true ∧ k = e.1 ∧ v = e.2 * q) ∨ (bby n bx e.1 x = false ∧ ((k = e.1 + bt n x ∧ v = e.2 * p x) ∨ (k = e.1 ∧ v = e.2 * (q - p x)))) := by
  unfold joined
  rw [List.mem_flatMap]
  refine exists_congr fun e => and_congr_right fun _ => ?_
  unfold join1
  cases h : bby n bx e.1 x with
  | true =>
    rw [if_pos rfl, List.mem_singleton, Prod.mk.injEq]
    simp
  | false =>
    rw [if_neg (by simp), List.mem_cons, List.mem_singleton, Prod.mk.injEq, Prod.mk.injEq]
    simp
theorem tab_step {R : List Nat} {D : List (Nat × Nat)} {x : Nat} (g : Good n bx (x :: R)) (T : TabOk n bx p q R D) : TabOk n bx p q (x :: R) (joined n bx p q x D) := by
  obtain ⟨hx, hR, hxx, hb, g'⟩ := id g
  have clear : ∀ e ∈ D, has n e.1 x = false := fun e he => sub_not hx hR (T.sub e he).1
  have hadd : ∀ e ∈ D, has n (e.1 + bt n x) x = true := fun e he => by
    rw [has_add hx (clear e he) hx, decide_eq_true rfl, Bool.or_true]
  refine ⟨?_, ?_, ?_⟩
  · unfold joined
    rw [List.map_flatMap]
    show List.Pairwise _ _
    rw [List.pairwise_flatMap]
    constructor
    · intro e he
      unfold join1
      cases h : bby n bx e.1 x with
      | true =>
        rw [if_pos rfl]
        exact List.pairwise_singleton _ _
      | false =>
        rw [if_neg (by simp)]
        refine List.pairwise_cons.mpr ⟨fun k hk => ?_, List.pairwise_singleton _ _⟩
        rw [List.map_singleton, List.mem_singleton] at hk
        rw [hk]
        intro c
        have h1 := hadd e he
        have h2 := clear e he
        rw [show e.1 + bt n x = e.1 from c, h2] at h1
        cases h1
    · have nd := T.nd
      have nd' : D.Pairwise fun a b => a.1 ≠ b.1 := List.pairwise_map.mp nd
      refine (List.Pairwise.and_mem.mp nd').imp fun {a b} ⟨ha, hb2, hne⟩ => ?_
      have keys : ∀ e : Nat × Nat, ∀ k ∈ (join1 n bx p q x e).map (·.1), k = e.1 ∨ k = e.1 + bt n x := by
        intro e k hk
        unfold join1 at hk
        split at hk <;> simp at hk
        · exact .inl hk
        · rcases hk with h | h
          · exact .inr h
          · exact .inl h
      intro k hk m hm c
      subst c
      rcases keys a k hk with h1 | h1 <;> rcases keys b k hm with h2 | h2
      · exact hne (h1.symm.trans h2)
      · have := hadd b hb2
        rw [← h2, h1, clear a ha] at this
        cases this
      · have := hadd a ha
        rw [← h1, h2, clear b hb2] at this
        cases this
      · exact hne (Nat.add_right_cancel (h1.symm.trans h2))
  · rintro ⟨k, v⟩ hk
    obtain ⟨e, he, hh⟩ := join_mem.mp hk
    obtain ⟨s, ap, hw⟩ := T.sub e he
    rcases hh with ⟨h1, rfl, rfl⟩ | ⟨h1, ⟨rfl, rfl⟩ | ⟨rfl, rfl⟩⟩
    · refine ⟨sub_cons x s, ap, ?_⟩
      show e.2 * q = wP n bx p q (x :: R) e.1
      rw [wP_cons, clear e he, if_neg (by simp), h1, if_pos rfl, hw, Nat.mul_comm]
    · refine ⟨sub_add hx hR s, ?_, ?_⟩
      · intro i j hi hj hhi hhj
        rw [has_add hx (clear e he) hi, Bool.or_eq_true, decide_eq_true_iff] at hhi
        rw [has_add hx (clear e he) hj, Bool.or_eq_true, decide_eq_true_iff] at hhj
        rcases hhi with hhi | rfl <;> rcases hhj with hhj | rfl
        · exact ap i j hi hj hhi hhj
        · cases c : bx i j with
          | false => rfl
          | true => rw [bby_iff.mpr ⟨i, hi, hhi, c⟩] at h1; cases h1
        · exact hb j (s.2 j hj hhj)
        · exact hxx
      · show e.2 * p x = wP n bx p q (x :: R) (e.1 + bt n x)
        rw [wP_cons, hadd e he, if_pos rfl, wP_add g s, hw, Nat.mul_comm]
    · refine ⟨sub_cons x s, ap, ?_⟩
      show e.2 * (q - p x) = wP n bx p q (x :: R) e.1
      rw [wP_cons, clear e he, if_neg (by simp), h1, if_neg (by simp), hw, Nat.mul_comm]
  · intro b s ap
    rw [List.mem_map]
    cases hbx : has n b x with
    | false =>
      have s' : Sub n R b := ⟨s.1, fun i hi h => by
        rcases List.mem_cons.mp (s.2 i hi h) with rfl | h'
        · rw [hbx] at h; cases h
        · exact h'⟩
      obtain ⟨e, he, rfl⟩ := List.mem_map.mp (T.all b s' ap)
      cases h : bby n bx e.1 x with
      | true => exact ⟨(e.1, e.2 * q), join_mem.mpr ⟨e, he, .inl ⟨h, rfl, rfl⟩⟩, rfl⟩
      | false => exact ⟨(e.1, e.2 * (q - p x)), join_mem.mpr ⟨e, he, .inr ⟨h, .inr ⟨rfl, rfl⟩⟩⟩, rfl⟩
    | true =>
      -- the same set without x
      have nm : ((its n b).filter fun i => !decide (i = x)).Nodup := (its_nodup n b).filter _
      obtain ⟨c1, c2⟩ := mask_has (n := n) nm fun y hy => (mem_its.mp (List.mem_filter.mp hy).1).1
      have c3 : ∀ i, i < n → has n (maskOf n ((its n b).filter fun i => !decide (i = x))) i = (has n b i && !decide (i = x)) := fun i hi => by
        rw [c2 i hi, Bool.eq_iff_iff, List.contains_iff_mem, List.mem_filter, mem_its, Bool.and_eq_true]
        exact ⟨fun h => ⟨h.1.2, h.2⟩, fun h => ⟨⟨hi, h.1⟩, h.2⟩⟩
      generalize maskOf n ((its n b).filter fun i => !decide (i = x)) = c at c1 c3
      have cx : has n c x = false := by rw [c3 x hx, decide_eq_true rfl]; simp
      have s' : Sub n R c := ⟨c1, fun i hi h => by
        rw [c3 i hi, Bool.and_eq_true] at h
        rcases List.mem_cons.mp (s.2 i hi h.1) with rfl | h'
        · simp at h
        · exact h'⟩
      have ap' : Apart n bx c := fun i j hi hj h1 h2 => by
        rw [c3 i hi, Bool.and_eq_true] at h1
        rw [c3 j hj, Bool.and_eq_true] at h2
        exact ap i j hi hj h1.1 h2.1
      obtain ⟨e, he, rfl⟩ := List.mem_map.mp (T.all c s' ap')
      have nb : bby n bx e.1 x = false := by
        cases h : bby n bx e.1 x with
        | false => rfl
        | true =>
          obtain ⟨i, hi, h1, h2⟩ := bby_iff.mp h
          rw [c3 i hi, Bool.and_eq_true] at h1
          rw [ap i x hi hx h1.1 hbx] at h2
          cases h2
      refine ⟨(e.1 + bt n x, e.2 * p x), join_mem.mpr ⟨e, he, .inr ⟨nb, .inl ⟨rfl, rfl⟩⟩⟩, ?_⟩
      refine has_ext (add_lt hx cx c1) s.1 fun i hi => ?_
      rw [has_add hx cx hi, c3 i hi]
      by_cases d : i = x
      · subst d
        rw [hbx, decide_eq_true rfl]
        rfl
      · rw [decide_eq_false d, Bool.or_false]
        simp
theorem tab_nil : TabOk n bx p q [] [(0, 1)] := by
  refine ⟨by simp, ?_, ?_⟩
  · intro e he
    rw [List.mem_singleton] at he
    subst he
    exact ⟨⟨Nat.pow_pos (by decide), fun i _ h => by rw [has_zero] at h; cases h⟩, fun i j _ _ h _ => (by rw [has_zero] at h; cases h), rfl⟩
  · intro b s _
    have : b = 0 := has_ext s.1 (Nat.pow_pos (by decide)) fun i hi => by
      rw [has_zero]
      cases h : has n b i with
      | false => rfl
      | true => exact absurd (s.2 i hi h) (by simp)
    simp [this]
theorem tab_ok : ∀ {R : List Nat}, Good n bx R → TabOk n bx p q R (tab n bx p q R)
  | [], _ => tab_nil
  | x :: R, g => tab_step g (tab_ok g.2.2.2.2)
end
end Off
end
section
namespace Off
section
variable (n : Nat) (p : Nat → Nat) (q : Nat)
/-- over all worlds of some items -/
def Sw : List Nat → (Nat → Nat) → Nat
  | [], f => f 0
  | x :: R, f => p x * Sw R (fun b => f (b + bt n x)) + (q - p x) * Sw R f
def tot (f : Nat → Nat) (D : List (Nat × Nat)) : Nat := (D.map fun e => e.2 * f e.1).sum
end
section
variable {n : Nat} {bx : Nat → Nat → Bool} {p : Nat → Nat} {q : Nat}
theorem sw_lin (a c : Nat) : ∀ (R : List Nat) (f g : Nat → Nat), Sw n p q R (fun b => a * f b + c * g b) = a * Sw n p q R f + c * Sw n p q R g
  | [], _, _ => rfl
  | x :: R, f, g => by
    show p x * Sw n p q R (fun b => a * f (b + bt n x) + c * g (b + bt n x)) + (q - p x) * Sw n p q R (fun b => a * f b + c * g b) = _
    rw [sw_lin a c R, sw_lin a c R]
    show _ = a * (p x * Sw n p q R (fun b => f (b + bt n x)) + (q - p x) * Sw n p q R f) + c * (p x * Sw n p q R (fun b => g (b + bt n x)) + (q - p x) * Sw n p q R g)
    simp only [Nat.mul_add, Nat.mul_left_comm]
    omega
theorem sw_congr : ∀ {R : List Nat}, R.Nodup → (∀ x ∈ R, x < n) → ∀ {f g : Nat → Nat}, (∀ b, Sub n R b → f b = g b) → Sw n p q R f = Sw n p q R g
  | [], _, _, f, g, h => h 0 ⟨Nat.pow_pos (by decide), fun i _ e => by rw [has_zero] at e; cases e⟩
  | x :: R, hn, hl, f, g, h => by
    obtain ⟨hx, hn⟩ := List.nodup_cons.mp hn
    have xn := hl x List.mem_cons_self
    have hl' := fun y hy => hl y (List.mem_cons_of_mem x hy)
    show _ + _ = _ + _
    rw [sw_congr hn hl' (f := fun b => f (b + bt n x)) (g := fun b => g (b + bt n x)) fun b s => h _ (sub_add xn hx s), sw_congr hn hl' (f := f) (g := g) fun b s => h _ (sub_cons x s)]
theorem sw_perm {R S : List Nat} (h : R.Perm S) : ∀ f, Sw n p q R f = Sw n p q S f := by
  induction h with
  | nil => exact fun f => rfl
  | cons x _ ih =>
    intro f
    show _ + _ = _ + _
    rw [ih, ih]
  | swap x y l =>
    intro f
    show p y * (p x * Sw n p q l (fun b => f (b + bt n x + bt n y)) + (q - p x) * Sw n p q l (fun b => f (b + bt n y))) + (q - p y) * (p x * Sw n p q l (fun b => f (b + bt n x)) + (q - p x) * Sw n p q l f) =
      p x * (p y * Sw n p q l (fun b => f (b + bt n y + bt n x)) + (q - p y) * Sw n p q l (fun b => f (b + bt n x))) + (q - p x) * (p y * Sw n p q l (fun b => f (b + bt n y)) + (q - p y) * Sw n p q l f)
    have e : (fun b => f (b + bt n x + bt n y)) = fun b => f (b + bt n y + bt n x) := funext fun b => by rw [Nat.add_right_comm]
    rw [e]
    simp only [Nat.mul_add, Nat.mul_left_comm]
    have c : ∀ a b c d : Nat, a + b + (c + d) = a + c + (b + d) := fun a b c d => by omega
    rw [c]
  | trans _ _ h1 h2 => exact fun f => (h1 f).trans (h2 f)
theorem tot_join (f : Nat → Nat) (x : Nat) : ∀ D : List (Nat × Nat), tot f (joined n bx p q x D) = tot (fun b => if bby n bx b x = true then q * f b else p x * f (b + bt n x) + (q - p x) * f b) D
  | [] => rfl
  | e :: D => by
    unfold joined tot
    rw [List.flatMap_cons, List.map_append, List.sum_append, List.map_cons, List.sum_cons]
    have ih := tot_join f x D
    unfold joined tot at ih
    rw [ih]
    congr 1
    show ((join1 n bx p q x e).map fun e => e.2 * f e.1).sum = e.2 * (if bby n bx e.1 x = true then q * f e.1 else p x * f (e.1 + bt n x) + (q - p x) * f e.1)
    unfold join1
    cases h : bby n bx e.1 x with
    | true =>
      rw [if_pos rfl, if_pos rfl]
      simp only [List.map_cons, List.map_nil, List.sum_cons, List.sum_nil, Nat.add_zero, Nat.mul_assoc]
    | false =>
      rw [if_neg (by simp), if_neg (by simp)]
      simp only [List.map_cons, List.map_nil, List.sum_cons, List.sum_nil, Nat.add_zero, Nat.mul_assoc, Nat.mul_add]
/-! ### the unbeaten ones of a world -/
def uset (n : Nat) (bx : Nat → Nat → Bool) (b : Nat) : List Nat := (its n b).filter fun i => !bby n bx b i
def umask (n : Nat) (bx : Nat → Nat → Bool) (b : Nat) : Nat := maskOf n (uset n bx b)
theorem umask_has (b : Nat) : umask n bx b < 2 ^ n ∧ ∀ i, i < n → has n (umask n bx b) i = (has n b i && !bby n bx b i) := by
  obtain ⟨h1, h2⟩ := mask_has (n := n) (l := uset n bx b) ((its_nodup n b).filter _) fun y hy => (mem_its.mp (List.mem_filter.mp hy).1).1
  refine ⟨h1, fun i hi => ?_⟩
  show has n (maskOf n (uset n bx b)) i = _
  rw [h2 i hi, Bool.eq_iff_iff, List.contains_iff_mem]
  unfold uset
  rw [List.mem_filter, mem_its, Bool.and_eq_true]
  exact ⟨fun h => ⟨h.1.2, h.2⟩, fun h => ⟨⟨hi, h.1⟩, h.2⟩⟩
/-- what beats: no item itself, and on from one to another -/
structure Beats (n : Nat) (bx : Nat → Nat → Bool) : Prop where
  irr : ∀ i, i < n → bx i i = false
  tr : ∀ i j k, i < n → j < n → k < n → bx i j = true → bx j k = true → bx i k = true
def cnt (n : Nat) (bx : Nat → Nat → Bool) (i : Nat) : Nat := ((List.range n).filter fun j => bx j i).length
theorem filter_lt {α : Type} {c d : α → Bool} : ∀ {l : List α}, (∀ a ∈ l, c a = true → d a = true) → ∀ {x}, x ∈ l → c x = false → d x = true → (l.filter c).length < (l.filter d).length
  | a :: l, h, x, hx, hc, hd => by
    have le : (l.filter c).length ≤ (l.filter d).length := by
      rw [← List.countP_eq_length_filter, ← List.countP_eq_length_filter]
      exact List.countP_mono_left fun y hy => h y (List.mem_cons_of_mem _ hy)
    rw [List.filter_cons, List.filter_cons]
    rcases List.mem_cons.mp hx with rfl | hx
    · rw [hc, hd, if_neg (by simp), if_pos rfl, List.length_cons]
      omega
    · have ih := filter_lt (c := c) (d := d) (fun y hy => h y (List.mem_cons_of_mem _ hy)) hx hc hd
      cases ca : c a with
      | true =>
        rw [h a List.mem_cons_self ca, if_pos rfl, if_pos rfl, List.length_cons, List.length_cons]
        omega
      | false =>
        rw [if_neg (by simp)]
        split
        · rw [List.length_cons]; omega
        · exact ih
theorem cnt_lt (B : Beats n bx) {i j : Nat} (hi : i < n) (hj : j < n) (h : bx i j = true) : cnt n bx i < cnt n bx j :=
  filter_lt (fun k hk e => B.tr k i j (List.mem_range.mp hk) hi hj e h) (List.mem_range.mpr hi) (B.irr i hi) h
theorem least_beater (B : Beats n bx) {b x : Nat} (hx : x < n) : ∀ (m i : Nat), cnt n bx i ≤ m → i < n → has n b i = true → bx i x = true → bby n bx (umask n bx b) x = true
  | m, i, hm, hi, hb, h => by
    cases c : bby n bx b i with
    | false =>
      refine bby_iff.mpr ⟨i, hi, ?_, h⟩
      rw [(umask_has b).2 i hi, hb, c]
      rfl
    | true =>
      obtain ⟨j, hj, hbj, hji⟩ := bby_iff.mp c
      have lt := cnt_lt B hj hi hji
      cases m with
      | zero => omega
      | succ m => exact least_beater B hx m j (by omega) hj hbj (B.tr j i x hj hi hx hji h)
theorem bby_umask (B : Beats n bx) {b x : Nat} (hx : x < n) : bby n bx (umask n bx b) x = bby n bx b x := by
  rw [Bool.eq_iff_iff]
  constructor
  · intro h
    obtain ⟨i, hi, h1, h2⟩ := bby_iff.mp h
    rw [(umask_has b).2 i hi, Bool.and_eq_true] at h1
    exact bby_iff.mpr ⟨i, hi, h1.1, h2⟩
  · intro h
    obtain ⟨i, hi, h1, h2⟩ := bby_iff.mp h
    exact least_beater B hx _ i (Nat.le_refl _) hi h1 h2
theorem tot_sw (B : Beats n bx) (hp : ∀ i, p i ≤ q) : ∀ {R : List Nat}, R.Nodup → Good n bx R → ∀ f, tot f (tab n bx p q R) = Sw n p q R fun b => f (umask n bx b)
  | [], _, _, f => by
    show 1 * f 0 + 0 = f (umask n bx 0)
    have : umask n bx 0 = 0 := has_ext (umask_has 0).1 (Nat.pow_pos (by decide)) fun i hi => by
      rw [(umask_has 0).2 i hi, has_zero]
      rfl
    rw [this, Nat.one_mul, Nat.add_zero]
  | x :: R, nd, g, f => by
    obtain ⟨_, nd'⟩ := List.nodup_cons.mp nd
    obtain ⟨hx, hR, hxx, hb, g'⟩ := id g
    show tot f (joined n bx p q x (tab n bx p q R)) = p x * Sw n p q R (fun b => f (umask n bx (b + bt n x))) + (q - p x) * Sw n p q R (fun b => f (umask n bx b))
    rw [tot_join, tot_sw B hp nd' g', ← sw_lin]
    refine sw_congr nd' (good_lt g') fun b s => ?_
    have bn := sub_not hx hR s
    have hby : ∀ i, i < n → has n b i = true → bby n bx (b + bt n x) i = bby n bx b i := fun i hi h => bby_add hx bn (hb i (s.2 i hi h))
    have hself : bby n bx (b + bt n x) x = bby n bx b x := bby_add hx bn hxx
    rw [bby_umask B hx]
    obtain ⟨u1, u2⟩ := umask_has (n := n) (bx := bx) b
    obtain ⟨v1, v2⟩ := umask_has (n := n) (bx := bx) (b + bt n x)
    have unx : has n (umask n bx b) x = false := by rw [u2 x hx, bn]; rfl
    cases h : bby n bx b x with
    | true =>
      rw [if_pos rfl]
      have e : umask n bx (b + bt n x) = umask n bx b := has_ext v1 u1 fun i hi => by
        rw [v2 i hi, u2 i hi, has_add hx bn hi]
        by_cases d : i = x
        · subst d
          rw [bn, hself, h]
          simp
        · rw [decide_eq_false d, Bool.or_false]
          cases hh : has n b i with
          | false => rfl
          | true => rw [hby i hi hh]
      show q * f (umask n bx b) = p x * f (umask n bx (b + bt n x)) + (q - p x) * f (umask n bx b)
      rw [e, ← Nat.add_mul, Nat.add_sub_cancel' (hp x)]
    | false =>
      rw [if_neg (by simp)]
      have e : umask n bx (b + bt n x) = umask n bx b + bt n x := has_ext v1 (add_lt hx unx u1) fun i hi => by
        rw [v2 i hi, has_add hx unx hi, u2 i hi, has_add hx bn hi]
        by_cases d : i = x
        · subst d
          rw [hself, h, decide_eq_true rfl]
          simp
        · rw [decide_eq_false d, Bool.or_false, Bool.or_false]
          cases hh : has n b i with
          | false => rfl
          | true => rw [hby i hi hh]
      show p x * f (umask n bx b + bt n x) + (q - p x) * f (umask n bx b) = p x * f (umask n bx (b + bt n x)) + (q - p x) * f (umask n bx b)
      rw [e]
end
end Off
end
section
namespace Off
open VaskyBase (Frac frac plus fracRow whole less)
open Vaskye (intoOrder orderOf sets)
/-! ### in order of the chances -/
def Lx (W : Nat → Nat) (i j : Nat) : Prop := W j < W i ∨ (W i = W j ∧ i ≤ j)
theorem into_mem {x : Frac × Nat} : ∀ {r : List (Frac × Nat)} {y}, y ∈ intoOrder x r ↔ y = x ∨ y ∈ r
  | [], y => by
    show y ∈ [x] ↔ _
    rw [List.mem_singleton]
    simp
  | z :: r, y => by
    show y ∈ (if less z.1 x.1 = true then x :: z :: r else z :: intoOrder x r) ↔ _
    split
    · simp
    · rw [List.mem_cons, into_mem (r := r), List.mem_cons]
      constructor
      · rintro (h | h | h)
        · exact .inr (.inl h)
        · exact .inl h
        · exact .inr (.inr h)
      · rintro (h | h | h)
        · exact .inr (.inl h)
        · exact .inl h
        · exact .inr (.inr h)
theorem into_perm {x : Frac × Nat} : ∀ r : List (Frac × Nat), (intoOrder x r).Perm (x :: r)
  | [] => List.Perm.refl _
  | z :: r => by
    show (if less z.1 x.1 = true then x :: z :: r else z :: intoOrder x r).Perm _
    split
    · exact List.Perm.refl _
    · exact ((into_perm r).cons z).trans (List.Perm.swap _ _ _)
section
variable {W : Nat → Nat} {D : Nat}
def Right (W : Nat → Nat) (D i : Nat) (r : List (Frac × Nat)) : Prop := r.Pairwise (fun x y => Lx W x.2 y.2) ∧ ∀ x ∈ r, x.2 < i ∧ x.1 = frac (W x.2 : Int) D
theorem into_right (h : 0 < D) {i : Nat} {r : List (Frac × Nat)} (R : Right W D i r) : Right W D (i + 1) (intoOrder (frac (W i : Int) D, i) r) := by
  refine ⟨?_, fun x hx => ?_⟩
  · induction r with
    | nil => exact List.pairwise_singleton _ _
    | cons z r ih =>
      obtain ⟨R1, R2⟩ := R
      obtain ⟨p1, p2⟩ := List.pairwise_cons.mp R1
      have ih := ih ⟨p2, fun x hx => R2 x (List.mem_cons_of_mem _ hx)⟩
      obtain ⟨z1, z2⟩ := R2 z List.mem_cons_self
      show List.Pairwise _ (if less z.1 (frac (W i : Int) D) = true then (frac (W i : Int) D, i) :: z :: r else z :: intoOrder (frac (W i : Int) D, i) r)
      rw [z2, less_frac h]
      by_cases c : W z.2 < W i
      · rw [decide_eq_true c, if_pos rfl]
        refine List.pairwise_cons.mpr ⟨fun y hy => ?_, R1⟩
        refine .inl (show W y.2 < W i from ?_)
        rcases List.mem_cons.mp hy with rfl | hy
        · exact c
        · rcases p1 y hy with h1 | h1
          · omega
          · omega
      · rw [decide_eq_false c, if_neg (by simp)]
        refine List.pairwise_cons.mpr ⟨fun y hy => ?_, ih⟩
        rcases into_mem.mp hy with rfl | hy
        · show W i < W z.2 ∨ (W z.2 = W i ∧ z.2 ≤ i)
          omega
        · exact p1 y hy
  · rcases into_mem.mp hx with rfl | hx
    · exact ⟨Nat.lt_succ_self i, rfl⟩
    · exact ⟨Nat.lt_succ_of_lt (R.2 x hx).1, (R.2 x hx).2⟩
theorem fold_right (h : 0 < D) : ∀ (k i : Nat) (r : List (Frac × Nat)), Right W D i r →
    Right W D (i + k) (((List.range' i k).map fun j => (frac (W j : Int) D, j)).foldl (fun r x => intoOrder x r) r) ∧ (((List.range' i k).map fun j => (frac (W j : Int) D, j)).foldl (fun r x => intoOrder x r) r).Perm (r ++ (List.range' i k).map fun j => (frac (W j : Int) D, j))
  | 0, i, r, R => ⟨R, by simp⟩
  | k + 1, i, r, R => by
    rw [List.range'_succ, List.map_cons, List.foldl_cons]
    have := fold_right h k (i + 1) _ (into_right h R)
    refine ⟨by rw [show i + (k + 1) = i + 1 + k by omega]; exact this.1, this.2.trans ?_⟩
    refine ((into_perm r).append_right _).trans ?_
    rw [List.cons_append]
    exact List.perm_middle.symm
end
theorem zipIdx_map_frac (ws : List Nat) (D : Nat) : (ws.map fun w : Nat => frac (w : Int) D).zipIdx = (List.range' 0 ws.length).map fun j => (frac (ws.getD j 0 : Int) D, j) := by
  refine List.ext_getElem? fun j => ?_
  rw [List.getElem?_zipIdx, List.getElem?_map, List.getElem?_map]
  by_cases c : j < ws.length
  · rw [List.getElem?_eq_getElem c, List.getElem?_range' c]
    simp [List.getD_eq_getElem?_getD, List.getElem?_eq_getElem c]
  · rw [List.getElem?_eq_none (by omega), List.getElem?_eq_none (by rw [List.length_range']; omega)]
    rfl
theorem lx_anti {W : Nat → Nat} {a b : Nat} (h1 : Lx W a b) (h2 : Lx W b a) : a = b := by
  unfold Lx at h1 h2
  omega
def byWeight (W : Nat → Nat) (i j : Nat) : Bool := decide (-(W i : Int) ≤ -(W j : Int))
theorem merge_lx (W : Nat → Nat) (n : Nat) : ((List.range n).mergeSort (byWeight W)).Pairwise (Lx W) := by
  rw [← List.mergeSort_zipIdx, List.pairwise_map]
  have tr : ∀ a b c : Nat, byWeight W a b = true → byWeight W b c = true → byWeight W a c = true := fun a b c h1 h2 => by
    unfold byWeight at *
    rw [decide_eq_true_iff] at *
    omega
  have to : ∀ a b : Nat, (byWeight W a b || byWeight W b a) = true := fun a b => by
    unfold byWeight
    rw [Bool.or_eq_true, decide_eq_true_iff, decide_eq_true_iff]
    omega
  have P := List.pairwise_mergeSort (List.zipIdxLE_trans tr) (List.zipIdxLE_total to) ((List.range n).zipIdx)
  have same : ∀ x ∈ ((List.range n).zipIdx).mergeSort (List.zipIdxLE (byWeight W)), x.1 = x.2 := fun x hx => by
    have h := (List.mergeSort_perm _ _).mem_iff.mp hx
    obtain ⟨i, hi⟩ := List.mem_iff_getElem?.mp h
    rw [List.getElem?_zipIdx] at hi
    obtain ⟨v, hv, rfl⟩ := Option.map_eq_some_iff.mp hi
    rw [List.getElem?_range (by
      have := (List.getElem?_eq_some_iff.mp hv).1
      rw [List.length_range] at this
      exact this)] at hv
    cases hv
    simp
  refine (List.Pairwise.and_mem.mp P).imp fun {a b} ⟨ha, hb, h⟩ => ?_
  have ea := same a ha
  have eb := same b hb
  unfold List.zipIdxLE byWeight at h
  unfold Lx
  rw [ea, eb] at h ⊢
  by_cases c : -(W a.2 : Int) ≤ -(W b.2 : Int)
  · rw [decide_eq_true c, if_pos rfl] at h
    by_cases d : -(W b.2 : Int) ≤ -(W a.2 : Int)
    · rw [decide_eq_true d, if_pos rfl, decide_eq_true_iff] at h
      omega
    · omega
  · rw [decide_eq_false c] at h
    simp at h
theorem order_eq {D : Nat} (h : 0 < D) (ws : List Nat) : orderOf (ws.map fun w : Nat => frac (w : Int) D) = (List.range ws.length).mergeSort (byWeight fun i => ws.getD i 0) := by
  unfold orderOf
  rw [zipIdx_map_frac]
  obtain ⟨⟨R1, R2⟩, P⟩ := fold_right (W := fun i => ws.getD i 0) h ws.length 0 [] ⟨List.Pairwise.nil, fun x hx => by cases hx⟩
  refine List.Perm.eq_of_pairwise (le := Lx fun i => ws.getD i 0) (fun a b _ _ h1 h2 => lx_anti h1 h2) (List.pairwise_map.mpr R1) (merge_lx _ _) ?_
  refine ((P.map fun x => x.2).trans ?_).trans (List.mergeSort_perm _ _).symm
  rw [List.nil_append, List.map_map, List.range_eq_range']
  show ((List.range' 0 ws.length).map fun j => j).Perm _
  rw [List.map_id']
end Off
end
section
namespace Off
open Vaskye (sets)
/-! ### all sets in order -/
theorem sets_eq : ∀ k i : Nat, sets k i = ((List.range (2 ^ k)).reverse).map fun b => (List.range' i k).filter fun j => b.testBit (i + k - 1 - j)
  | 0, i => rfl
  | k + 1, i => by
    show (sets k (i + 1)).map (fun s => i :: s) ++ sets k (i + 1) = _
    rw [sets_eq k (i + 1), Nat.pow_succ, Nat.mul_two, List.range_add, List.reverse_append, List.map_append, List.map_map, ← List.map_reverse, List.map_map]
    congr 1
    · refine List.map_congr_left fun b hb => ?_
      have hb : b < 2 ^ k := by simpa using hb
      show i :: _ = _
      rw [Function.comp_apply, List.range'_succ, List.filter_cons, show i + (k + 1) - 1 - i = k by omega, Nat.testBit_two_pow_add_eq, Nat.testBit_lt_two_pow hb, if_pos (show (!false) = true from rfl)]
      congr 1
      refine List.filter_congr fun j hj => ?_
      have := List.mem_range'_1.mp hj
      rw [show i + (k + 1) - 1 - j = i + 1 + k - 1 - j by omega, Nat.testBit_two_pow_add_gt (by omega)]
    · refine List.map_congr_left fun b hb => ?_
      have hb : b < 2 ^ k := by simpa using hb
      rw [List.range'_succ, List.filter_cons, show i + (k + 1) - 1 - i = k by omega, Nat.testBit_lt_two_pow hb, if_neg (by simp)]
      refine List.filter_congr fun j hj => ?_
      rw [show i + (k + 1) - 1 - j = i + 1 + k - 1 - j by omega]
theorem sets_its (n : Nat) : sets n 0 = ((List.range (2 ^ n)).reverse).map (its n) := by
  rw [sets_eq]
  refine List.map_congr_left fun b _ => ?_
  unfold its has
  rw [← List.range_eq_range']
  refine List.filter_congr fun j _ => ?_
  rw [Nat.zero_add]
theorem pick {g : Nat → Nat} {F : Nat → List Nat} {step : List Nat × Nat → List Nat → List Nat × Nat} (hs : ∀ b c, step (F b, g b) (F c) = if g b < g c then (F c, g c) else (F b, g b)) :
    ∀ (L : List Nat) (B : Nat), (B :: L).Pairwise (fun a b => b < a) → ∃ C ∈ B :: L, (L.map F).foldl step (F B, g B) = (F C, g C) ∧ ∀ c ∈ B :: L, g c ≤ g C ∧ (C < c → g c < g C)
  | [], B, _ => ⟨B, List.mem_cons_self, rfl, fun c hc => by
    rw [List.mem_singleton] at hc
    subst hc
    exact ⟨Nat.le_refl _, fun h => absurd h (Nat.lt_irrefl _)⟩⟩
  | c :: L, B, P => by
    rw [List.map_cons, List.foldl_cons, hs]
    obtain ⟨p1, p2⟩ := List.pairwise_cons.mp P
    obtain ⟨p3, p4⟩ := List.pairwise_cons.mp p2
    by_cases d : g B < g c
    · rw [if_pos d]
      obtain ⟨C, hC, e, hh⟩ := pick hs L c p2
      refine ⟨C, List.mem_cons_of_mem _ hC, e, fun x hx => ?_⟩
      rcases List.mem_cons.mp hx with rfl | hx
      · have := (hh c List.mem_cons_self).1
        exact ⟨by omega, fun _ => by omega⟩
      · exact hh x hx
    · rw [if_neg d]
      obtain ⟨C, hC, e, hh⟩ := pick hs L B (List.pairwise_cons.mpr ⟨fun x hx => p1 x (List.mem_cons_of_mem _ hx), p4⟩)
      refine ⟨C, ?_, e, fun x hx => ?_⟩
      · rcases List.mem_cons.mp hC with rfl | hC
        · exact List.mem_cons_self
        · exact List.mem_cons_of_mem _ (List.mem_cons_of_mem _ hC)
      · rcases List.mem_cons.mp hx with rfl | hx
        · exact hh _ List.mem_cons_self
        · rcases List.mem_cons.mp hx with rfl | hx
          · have h1 := (hh B List.mem_cons_self)
            refine ⟨by omega, fun l => ?_⟩
            have := h1.2 (Nat.lt_trans l (p1 x List.mem_cons_self))
            omega
          · exact hh x (List.mem_cons_of_mem _ hx)
theorem desc_range (n : Nat) : (List.range n).reverse.Pairwise fun a b => b < a := by
  rw [List.pairwise_reverse]
  exact List.pairwise_lt_range
end Off
end
section
namespace Off
open Vaskye (sets)
/-! ### all worlds by the specification's sets -/
section
variable {n : Nat} {p : Nat → Nat} {q : Nat}
def wy (p : Nat → Nat) (q i k : Nat) (s : List Nat) : Nat := prod ((List.range' i k).map fun j => if s.contains j = true then p j else q - p j)
theorem sets_mem : ∀ (k i : Nat) (s : List Nat), s ∈ sets k i → s.Nodup ∧ ∀ x ∈ s, i ≤ x ∧ x < i + k
  | 0, i, s, h => by
    have : s = [] := List.mem_singleton.mp h
    subst this
    exact ⟨List.nodup_nil, fun x hx => by cases hx⟩
  | k + 1, i, s, h => by
    have h' : s ∈ (sets k (i + 1)).map (fun s => i :: s) ++ sets k (i + 1) := h
    rcases List.mem_append.mp h' with h | h
    · obtain ⟨t, ht, rfl⟩ := List.mem_map.mp h
      obtain ⟨nd, b⟩ := sets_mem k (i + 1) t ht
      refine ⟨List.nodup_cons.mpr ⟨fun c => ?_, nd⟩, fun x hx => ?_⟩
      · have := (b i c).1
        omega
      · rcases List.mem_cons.mp hx with rfl | hx
        · omega
        · have := b x hx
          omega
    · obtain ⟨nd, b⟩ := sets_mem k (i + 1) s h
      exact ⟨nd, fun x hx => by have := b x hx; omega⟩
theorem wy_in {i k : Nat} (s : List Nat) : wy p q i (k + 1) (i :: s) = p i * wy p q (i + 1) k s := by
  unfold wy
  rw [List.range'_succ, List.map_cons, prod_cons]
  congr 1
  · simp
  · congr 1
    refine List.map_congr_left fun j hj => ?_
    have := List.mem_range'_1.mp hj
    have : (i :: s).contains j = s.contains j := by
      rw [List.contains_cons]
      rw [show (j == i) = false from beq_eq_false_iff_ne.mpr (by omega), Bool.false_or]
    rw [this]
theorem wy_out {i k : Nat} {s : List Nat} (h : i ∉ s) : wy p q i (k + 1) s = (q - p i) * wy p q (i + 1) k s := by
  unfold wy
  rw [List.range'_succ, List.map_cons, prod_cons]
  congr 1
  have : s.contains i = false := by simpa using h
  rw [this, if_neg (by simp)]
theorem sum_mul (a : Nat) : ∀ l : List Nat, (l.map fun x => a * x).sum = a * l.sum
  | [] => rfl
  | x :: l => by rw [List.map_cons, List.sum_cons, List.sum_cons, sum_mul a l, Nat.mul_add]
theorem sw_sets : ∀ (k i : Nat) (f : Nat → Nat), Sw n p q (List.range' i k) f = ((sets k i).map fun s => wy p q i k s * f (maskOf n s)).sum
  | 0, i, f => by
    show f 0 = 1 * f (maskOf n []) + 0
    rw [Nat.one_mul, Nat.add_zero]
    rfl
  | k + 1, i, f => by
    show Sw n p q (i :: List.range' (i + 1) k) f = (((sets k (i + 1)).map (fun s => i :: s) ++ sets k (i + 1)).map fun s => wy p q i (k + 1) s * f (maskOf n s)).sum
    rw [List.map_append, List.sum_append, List.map_map]
    show p i * _ + (q - p i) * _ = _
    rw [sw_sets k (i + 1), sw_sets k (i + 1), ← sum_mul, ← sum_mul, List.map_map, List.map_map]
    congr 1
    · congr 1
      refine List.map_congr_left fun s hs => ?_
      show p i * (wy p q (i + 1) k s * f (maskOf n s + bt n i)) = wy p q i (k + 1) (i :: s) * f (maskOf n (i :: s))
      rw [wy_in, Nat.mul_assoc]
      congr 3
      unfold maskOf
      rw [List.map_cons, List.sum_cons, Nat.add_comm]
    · congr 1
      refine List.map_congr_left fun s hs => ?_
      show (q - p i) * (wy p q (i + 1) k s * f (maskOf n s)) = wy p q i (k + 1) s * f (maskOf n s)
      rw [wy_out fun c => by have := (sets_mem k (i + 1) s hs).2 i c; omega, Nat.mul_assoc]
theorem sw_const (hp : ∀ i, p i ≤ q) (c : Nat) : ∀ R : List Nat, Sw n p q R (fun _ => c) = q ^ R.length * c
  | [] => by rw [List.length_nil, Nat.pow_zero, Nat.one_mul]; rfl
  | x :: R => by
    show p x * Sw n p q R (fun _ => c) + (q - p x) * Sw n p q R (fun _ => c) = _
    rw [← Nat.add_mul, Nat.add_sub_cancel' (hp x), sw_const hp c R, List.length_cons, Nat.pow_succ, ← Nat.mul_assoc, Nat.mul_comm q]
end
end Off
end
section
namespace Off
open VaskyBase (Frac frac plus fracRow whole less)
open Vaskya (beats atLeast beaters unbeatenIn)
open Vaskye (there away product unbeatenChance allChances apart mustGo setWays setChance sets weightOf likeliest worldWays addTo countWays countChances known orderOf Chances)
/-! ### what is held, by the specification -/
theorem al_refl : ∀ a : List Int, atLeast a a = true
  | [] => rfl
  | x :: a => by
    show (decide (x ≤ x) && atLeast a a) = true
    rw [al_refl a, decide_eq_true (Int.le_refl x)]
    rfl
theorem al_trans : ∀ {a b c : List Int}, a.length = b.length → b.length = c.length → atLeast a b = true → atLeast b c = true → atLeast a c = true
  | [], [], [], _, _, _, _ => rfl
  | x :: a, y :: b, z :: c, h1, h2, h3, h4 => by
    have h3 : (decide (y ≤ x) && atLeast a b) = true := h3
    have h4 : (decide (z ≤ y) && atLeast b c) = true := h4
    rw [Bool.and_eq_true, decide_eq_true_iff] at h3 h4
    show (decide (z ≤ x) && atLeast a c) = true
    rw [al_trans (Nat.succ.inj h1) (Nat.succ.inj h2) h3.2 h4.2, decide_eq_true (Int.le_trans h4.1 h3.1)]
    rfl
theorem al_anti : ∀ {a b : List Int}, a.length = b.length → atLeast a b = true → atLeast b a = true → a = b
  | [], [], _, _, _ => rfl
  | x :: a, y :: b, h1, h3, h4 => by
    have h3 : (decide (y ≤ x) && atLeast a b) = true := h3
    have h4 : (decide (x ≤ y) && atLeast b a) = true := h4
    rw [Bool.and_eq_true, decide_eq_true_iff] at h3 h4
    rw [al_anti (Nat.succ.inj h1) h3.2 h4.2, Int.le_antisymm h4.1 h3.1]
theorem beats_self (a : List Int) : beats a a = false := by
  show (atLeast a a && a != a) = false
  rw [bne_self_eq_false, Bool.and_false]
theorem beats_trans {a b c : List Int} (h1 : a.length = b.length) (h2 : b.length = c.length) (h3 : beats a b = true) (h4 : beats b c = true) : beats a c = true := by
  have h3 : (atLeast a b && a != b) = true := h3
  have h4 : (atLeast b c && b != c) = true := h4
  rw [Bool.and_eq_true, bne_iff_ne] at h3 h4
  show (atLeast a c && a != c) = true
  rw [Bool.and_eq_true, bne_iff_ne]
  refine ⟨al_trans h1 h2 h3.1 h4.1, fun e => ?_⟩
  subst e
  exact h3.2 (al_anti h1 h3.1 h4.1)
def bxOf (l : List (List Int)) (i j : Nat) : Bool := beats (l.getD i []) (l.getD j [])
structure Lc (l : List (List Int)) (c : Chances) : Prop where
  row : ∃ m, ∀ r ∈ l, r.length = m
  q1 : 1 ≤ c.q
  le : ∀ i, there c i ≤ c.q
theorem lc_beats {l : List (List Int)} {c : Chances} (h : Lc l c) : Beats l.length (bxOf l) := by
  obtain ⟨m, hm⟩ := h.row
  have len : ∀ i, i < l.length → (l.getD i []).length = m := fun i hi => by
    rw [List.getD_eq_getElem?_getD, List.getElem?_eq_getElem hi]
    exact hm _ (List.getElem_mem hi)
  exact ⟨fun i _ => beats_self _, fun i j k hi hj hk h1 h2 => beats_trans ((len i hi).trans (len j hj).symm) ((len j hj).trans (len k hk).symm) h1 h2⟩
section
variable {l : List (List Int)} {c : Chances}
theorem q_pos (h : Lc l c) (k : Nat) : 0 < c.q ^ k := Nat.pow_pos h.q1
theorem product_ww (h : Lc l c) {S A : List Nat} (hS : S.Nodup) (hA : A.Nodup) (sS : ∀ x ∈ S, x < l.length) (sA : ∀ x ∈ A, x < l.length ∧ x ∉ S) :
    product c (S.map (there c) ++ A.map (away c)) = frac (ww (there c) c.q l.length S A : Int) (c.q ^ l.length) := by
  obtain ⟨e, le⟩ := ww_eq (p := there c) (q := c.q) hS hA sS sA
  unfold product
  rw [e, List.length_append, List.length_map, List.length_map]
  have : c.q ^ l.length = c.q ^ (l.length - (S.length + A.length)) * c.q ^ (S.length + A.length) := by
    rw [← Nat.pow_add, Nat.sub_add_cancel le]
  rw [this, Nat.mul_comm (prod _), frac_mul (q_pos h _) (q_pos h _)]
  rfl
theorem beaters_mem {i j : Nat} : j ∈ beaters l i ↔ j < l.length ∧ bxOf l j i = true := by
  unfold beaters
  rw [List.mem_filter, List.mem_range]
  rfl
theorem beaters_nodup (i : Nat) : (beaters l i).Nodup := List.nodup_range.filter _
/-- an item's weight -/
def wU (l : List (List Int)) (c : Chances) (i : Nat) : Nat := ww (there c) c.q l.length [i] (beaters l i)
theorem unbeaten_ww (h : Lc l c) {i : Nat} (hi : i < l.length) : unbeatenChance l c i = frac (wU l c i : Int) (c.q ^ l.length) := by
  unfold wU
  rw [← product_ww h (S := [i]) (by simp) (beaters_nodup i) (fun x hx => by rw [List.mem_singleton] at hx; subst hx; exact hi) (fun x hx => ?_)]
  · rfl
  · obtain ⟨h1, h2⟩ := beaters_mem.mp hx
    refine ⟨h1, fun hc => ?_⟩
    rw [List.mem_singleton] at hc
    subst hc
    rw [(lc_beats h).irr x h1] at h2
    cases h2
theorem all_ww (h : Lc l c) : allChances l c = ((List.range l.length).map (wU l c)).map fun w : Nat => frac (w : Int) (c.q ^ l.length) := by
  unfold allChances
  rw [List.map_map]
  exact List.map_congr_left fun i hi => unbeaten_ww h (List.mem_range.mp hi)
theorem mean_ww (h : Lc l c) : (allChances l c).foldl plus (whole 0) = frac ((((List.range l.length).map (wU l c)).sum : Nat) : Int) (c.q ^ l.length) := by
  rw [all_ww h, ← frac_zero (q_pos h l.length), plus_all (q_pos h _), Nat.zero_add]
theorem order_ww (h : Lc l c) : orderOf (allChances l c) = (List.range l.length).mergeSort (byWeight (wU l c)) := by
  rw [all_ww h, order_eq (q_pos h _), List.length_map, List.length_range]
  refine List.Perm.eq_of_pairwise (le := Lx (wU l c)) (fun a b _ _ h1 h2 => lx_anti h1 h2) ?_ (merge_lx _ _) ((List.mergeSort_perm _ _).trans (List.mergeSort_perm _ _).symm)
  refine (List.Pairwise.and_mem.mp (merge_lx _ _)).imp fun {a b} ⟨ha, hb, h⟩ => ?_
  have get : ∀ i ∈ (List.range l.length).mergeSort (byWeight fun i => ((List.range l.length).map (wU l c)).getD i 0), ((List.range l.length).map (wU l c)).getD i 0 = wU l c i := fun i hi => by
    have hi := List.mem_range.mp ((List.mergeSort_perm _ _).mem_iff.mp hi)
    simp [List.getD_eq_getElem?_getD, hi]
  unfold Lx at h
  dsimp only at h
  rw [get a ha, get b hb] at h
  exact h
/-! ### sets -/
theorem apart_iff {s : List Nat} : apart l s = true ↔ ∀ i ∈ s, ∀ j ∈ s, bxOf l i j = false := by
  unfold apart
  rw [List.all_eq_true]
  refine forall_congr' fun i => forall_congr' fun _ => ?_
  rw [List.all_eq_true]
  refine forall_congr' fun j => forall_congr' fun _ => ?_
  rw [Bool.not_eq_true']
  rfl
theorem must_mem {s : List Nat} {j : Nat} : j ∈ mustGo l s ↔ j < l.length ∧ j ∉ s ∧ ∀ i ∈ s, bxOf l i j = false := by
  unfold mustGo
  rw [List.mem_filter, List.mem_range, Bool.and_eq_true, Bool.not_eq_true', Bool.not_eq_true', List.any_eq_false]
  refine and_congr_right fun _ => and_congr ?_ ?_
  · simp
  · refine forall_congr' fun i => forall_congr' fun _ => ?_
    rw [Bool.not_eq_true]
    rfl
theorem must_nodup (s : List Nat) : (mustGo l s).Nodup := List.nodup_range.filter _
theorem set_ww (h : Lc l c) {S : List Nat} (hS : S.Nodup) (sS : ∀ x ∈ S, x < l.length) (ha : apart l S = true) : setChance l c S = frac (ww (there c) c.q l.length S (mustGo l S) : Int) (c.q ^ l.length) := by
  unfold setChance setWays
  rw [if_pos ha]
  exact product_ww h hS (must_nodup S) sS fun x hx => ⟨(must_mem.mp hx).1, (must_mem.mp hx).2.1⟩
theorem weight_ww {S : List Nat} (hS : S.Nodup) (sS : ∀ x ∈ S, x < l.length) (ha : apart l S = true) : weightOf l c S = ww (there c) c.q l.length S (mustGo l S) := by
  unfold weightOf setWays
  rw [if_pos ha]
  obtain ⟨e, le⟩ := ww_eq (p := there c) (q := c.q) hS (must_nodup (l := l) S) sS fun x hx => ⟨(must_mem.mp hx).1, (must_mem.mp hx).2.1⟩
  rw [e]
  show List.foldl _ _ _ * _ ^ (_ - List.length _) = _
  rw [List.length_append, List.length_map, List.length_map]
  rfl
end
end Off
end
section
namespace Off
open VaskyBase (Frac frac plus fracRow whole less)
open Vaskya (beats atLeast beaters unbeatenIn)
open Vaskye (there away product unbeatenChance allChances apart mustGo setWays setChance sets weightOf likeliest worldWays addTo countWays countChances known orderOf Chances)
section
variable {l : List (List Int)} {c : Chances}
abbrev tabOf (l : List (List Int)) (c : Chances) (R : List Nat) : List (Nat × Nat) := tab l.length (bxOf l) (there c) c.q R
theorem apart_its {b : Nat} : apart l (its l.length b) = true ↔ Apart l.length (bxOf l) b := by
  rw [apart_iff]
  unfold Apart
  constructor
  · intro h i j hi hj h1 h2
    exact h i (mem_its.mpr ⟨hi, h1⟩) j (mem_its.mpr ⟨hj, h2⟩)
  · intro h i hi j hj
    obtain ⟨i1, i2⟩ := mem_its.mp hi
    obtain ⟨j1, j2⟩ := mem_its.mp hj
    exact h i j i1 j1 i2 j2
/-- the table's weight is the specification's -/
theorem wP_weight {R : List Nat} (hR : R.Perm (List.range l.length)) {b : Nat} (ha : Apart l.length (bxOf l) b) :
    wP l.length (bxOf l) (there c) c.q R b = weightOf l c (its l.length b) := by
  rw [weight_ww (its_nodup _ _) (fun x hx => (mem_its.mp hx).1) (apart_its.mpr ha)]
  unfold wP ww
  rw [prod_perm (hR.map _)]
  congr 1
  refine List.map_congr_left fun i hi => ?_
  have hi := List.mem_range.mp hi
  unfold wfac
  have e1 : (its l.length b).contains i = has l.length b i := by
    rw [Bool.eq_iff_iff, List.contains_iff_mem, mem_its]
    exact ⟨fun h => h.2, fun h => ⟨hi, h⟩⟩
  rw [e1]
  cases h : has l.length b i with
  | true => rw [if_pos rfl, if_pos rfl]
  | false =>
    rw [if_neg Bool.false_ne_true, if_neg Bool.false_ne_true]
    have e2 : (mustGo l (its l.length b)).contains i = !bby l.length (bxOf l) b i := by
      rw [Bool.eq_iff_iff, List.contains_iff_mem, must_mem, Bool.not_eq_true']
      constructor
      · rintro ⟨_, _, h3⟩
        cases hb : bby l.length (bxOf l) b i with
        | false => rfl
        | true =>
          obtain ⟨j, hj, h1, h2⟩ := bby_iff.mp hb
          rw [h3 j (mem_its.mpr ⟨hj, h1⟩)] at h2
          cases h2
      · intro hb
        refine ⟨hi, fun hm => ?_, fun j hj => ?_⟩
        · rw [(mem_its.mp hm).2] at h
          cases h
        · obtain ⟨j1, j2⟩ := mem_its.mp hj
          cases hh : bxOf l j i with
          | false => rfl
          | true => rw [bby_iff.mpr ⟨j, j1, j2, hh⟩] at hb; cases hb
    rw [e2]
    cases bby l.length (bxOf l) b i with
    | true => rw [if_pos rfl, if_neg (show ¬ (!true) = true from Bool.false_ne_true)]
    | false => rw [if_neg Bool.false_ne_true, if_pos (show (!false) = true from rfl)]
theorem sub_all {R : List Nat} (hR : R.Perm (List.range l.length)) {b : Nat} (hb : b < 2 ^ l.length) : Sub l.length R b := ⟨hb, fun i hi _ => hR.mem_iff.mpr (List.mem_range.mpr hi)⟩
theorem tab_weight (R : List Nat) (hR : R.Perm (List.range l.length)) (g : Good l.length (bxOf l) R) {e : Nat × Nat} (he : e ∈ tabOf l c R) : e.1 < 2 ^ l.length ∧ Apart l.length (bxOf l) e.1 ∧ e.2 = weightOf l c (its l.length e.1) := by
  obtain ⟨s, a, w⟩ := (tab_ok g).sub e he
  exact ⟨s.1, a, w.trans (wP_weight hR a)⟩
theorem tab_key (R : List Nat) (hR : R.Perm (List.range l.length)) (g : Good l.length (bxOf l) R) {b : Nat} (hb : b < 2 ^ l.length) (hw : 0 < weightOf l c (its l.length b)) : (b, weightOf l c (its l.length b)) ∈ tabOf l c R := by
  have ha : Apart l.length (bxOf l) b := by
    refine apart_its.mp ?_
    cases h : apart l (its l.length b) with
    | true => rfl
    | false =>
      unfold weightOf at hw
      rw [h, if_neg (by simp)] at hw
      omega
  obtain ⟨e, he, rfl⟩ := List.mem_map.mp ((tab_ok (p := there c) (q := c.q) g).all b (sub_all hR hb) ha)
  rw [← (tab_weight R hR g he).2.2]
  exact he
/-- the table's weights together -/
theorem tab_total (h : Lc l c) (R : List Nat) (hR : R.Perm (List.range l.length)) (g : Good l.length (bxOf l) R) : ((tabOf l c R).map (·.2)).sum = c.q ^ l.length := by
  have nd : R.Nodup := hR.nodup_iff.mpr List.nodup_range
  have e := tot_sw (lc_beats h) h.le nd g fun _ => 1
  rw [sw_const h.le, Nat.mul_one, hR.length_eq, List.length_range] at e
  rw [← e]
  unfold tot
  congr 1
  refine List.map_congr_left fun x _ => ?_
  rw [Nat.mul_one]
theorem sum_pos_mem : ∀ {L : List Nat}, 0 < L.sum → ∃ x ∈ L, 0 < x
  | x :: L, h => by
    rw [List.sum_cons] at h
    by_cases c : 0 < x
    · exact ⟨x, List.mem_cons_self, c⟩
    · obtain ⟨y, hy, h⟩ := sum_pos_mem (L := L) (by omega)
      exact ⟨y, List.mem_cons_of_mem _ hy, h⟩
/-- the likeliest set, from the table -/
theorem likeliest_tab (h : Lc l c) (R : List Nat) (hR : R.Perm (List.range l.length)) (g : Good l.length (bxOf l) R) {m B : Nat}
    (hm : m ∈ (tabOf l c R).map (·.2)) (hmax : ∀ x ∈ (tabOf l c R).map (·.2), x ≤ m)
    (hB : B ∈ ((tabOf l c R).filter fun e => e.2 == m).map (·.1)) (hBmax : ∀ x ∈ ((tabOf l c R).filter fun e => e.2 == m).map (·.1), x ≤ B) : likeliest l c = its l.length B := by
  have m0 : 0 < m := by
    have hs : 0 < ((tabOf l c R).map (·.2)).sum := by
      rw [tab_total h R hR g]
      exact q_pos h _
    obtain ⟨x, hx, h0⟩ := sum_pos_mem hs
    have := hmax x hx
    omega
  obtain ⟨e, he, rfl⟩ := List.mem_map.mp hB
  obtain ⟨he1, he2⟩ := List.mem_filter.mp he
  have he2 : e.2 = m := by simpa using he2
  obtain ⟨w1, w2, w3⟩ := tab_weight R hR g he1
  unfold likeliest
  rw [sets_its]
  have dr := desc_range (2 ^ l.length)
  cases hL : (List.range (2 ^ l.length)).reverse with
  | nil =>
    have := congrArg List.length hL
    rw [List.length_reverse, List.length_range, List.length_nil] at this
    omega
  | cons b0 L =>
    rw [hL] at dr
    rw [List.map_cons]
    dsimp only
    obtain ⟨C, hC, eC, hh⟩ := pick (g := fun b => weightOf l c (its l.length b)) (F := its l.length) (step := fun b s => let w := weightOf l c s; if b.2 < w then (s, w) else b) (fun b d => rfl) L b0 dr
    rw [eC]
    show its l.length C = its l.length e.1
    have mem : ∀ x, x < 2 ^ l.length → x ∈ b0 :: L := fun x hx => by
      rw [← hL, List.mem_reverse, List.mem_range]
      exact hx
    have Clt : C < 2 ^ l.length := by
      rw [← hL, List.mem_reverse, List.mem_range] at hC
      exact hC
    have h1 := hh e.1 (mem _ w1)
    have hw : weightOf l c (its l.length e.1) = m := w3.symm.trans he2
    have C0 : 0 < weightOf l c (its l.length C) := by
      have := h1.1
      omega
    have hk := tab_key R hR g Clt C0
    have hCm : weightOf l c (its l.length C) = m := by
      have a1 := hmax _ (List.mem_map.mpr ⟨_, hk, rfl⟩)
      have a1 : weightOf l c (its l.length C) ≤ m := a1
      have := h1.1
      omega
    have le1 : C ≤ e.1 := hBmax C (List.mem_map.mpr ⟨_, List.mem_filter.mpr ⟨hk, by simpa using hCm⟩, rfl⟩)
    have : C = e.1 := by
      by_cases lt : C < e.1
      · have := h1.2 lt
        omega
      · omega
    rw [this]
/-! ### how many are unbeaten -/
theorem unb_len {s : List Nat} (hs : s ∈ sets l.length 0) : (its l.length (umask l.length (bxOf l) (maskOf l.length s))).length = (unbeatenIn l s).length := by
  obtain ⟨nd, lt⟩ := sets_mem _ _ _ hs
  have lt : ∀ x ∈ s, x < l.length := fun x hx => by have := (lt x hx).2; omega
  obtain ⟨_, h2⟩ := mask_has nd lt
  obtain ⟨_, u2⟩ := umask_has (n := l.length) (bx := bxOf l) (maskOf l.length s)
  refine ((List.perm_ext_iff_of_nodup (its_nodup _ _) (nd.filter _)).mpr fun i => ?_).length_eq
  rw [mem_its, List.mem_filter]
  have bb : ∀ i, bby l.length (bxOf l) (maskOf l.length s) i = s.any fun j => bxOf l j i := fun i => by
    rw [Bool.eq_iff_iff, bby_iff, List.any_eq_true]
    constructor
    · rintro ⟨j, hj, h3, h4⟩
      rw [h2 j hj, List.contains_iff_mem] at h3
      exact ⟨j, h3, h4⟩
    · rintro ⟨j, hj, h4⟩
      exact ⟨j, lt j hj, by rw [h2 j (lt j hj), List.contains_iff_mem]; exact hj, h4⟩
  constructor
  · rintro ⟨hi, h3⟩
    rw [u2 i hi, h2 i hi, bb, Bool.and_eq_true, List.contains_iff_mem] at h3
    exact h3
  · rintro ⟨hi, h3⟩
    refine ⟨lt i hi, ?_⟩
    rw [u2 i (lt i hi), h2 i (lt i hi), bb, Bool.and_eq_true, List.contains_iff_mem]
    exact ⟨hi, h3⟩
def sumAt (k : Nat) (L : List (Nat × Nat)) : Nat := ((L.filter fun e => e.1 == k).map (·.2)).sum
theorem add_len (k w : Nat) (r : List Nat) : (addTo k w r).length = r.length := List.length_set
theorem add_get (k w : Nat) (r : List Nat) (j : Nat) (hj : j < r.length) : (addTo k w r).getD j 0 = r.getD j 0 + if k = j then w else 0 := by
  unfold addTo
  rw [List.getD_eq_getElem?_getD, List.getElem?_set]
  by_cases e : k = j
  · subst e
    rw [if_pos rfl, if_pos hj, if_pos rfl]
    rfl
  · rw [if_neg e, if_neg e, Nat.add_zero, List.getD_eq_getElem?_getD]
theorem fold_add : ∀ (L : List (Nat × Nat)) (r : List Nat) (j : Nat), j < r.length → (L.foldl (fun r e => addTo e.1 e.2 r) r).length = r.length ∧ (L.foldl (fun r e => addTo e.1 e.2 r) r).getD j 0 = r.getD j 0 + sumAt j L
  | [], r, j, _ => ⟨rfl, rfl⟩
  | e :: L, r, j, hj => by
    obtain ⟨h1, h2⟩ := fold_add L (addTo e.1 e.2 r) j (by rw [add_len]; exact hj)
    rw [List.foldl_cons, h1, h2, add_len, add_get _ _ _ _ hj]
    refine ⟨rfl, ?_⟩
    unfold sumAt
    rw [List.filter_cons]
    by_cases d : e.1 = j
    · rw [if_pos d, if_pos (by simpa using d), List.map_cons, List.sum_cons, Nat.add_assoc]
    · rw [if_neg d, if_neg (by simpa using d), Nat.add_zero]
theorem fold_len : ∀ (L : List (Nat × Nat)) (r : List Nat), (L.foldl (fun r e => addTo e.1 e.2 r) r).length = r.length
  | [], r => rfl
  | e :: L, r => by rw [List.foldl_cons, fold_len, add_len]
theorem sumAt_tot (k : Nat) (f : Nat → Nat) : ∀ D : List (Nat × Nat), sumAt k (D.map fun e => (f e.1, e.2)) = tot (fun b => if f b = k then 1 else 0) D
  | [] => rfl
  | e :: D => by
    have ih := sumAt_tot k f D
    unfold sumAt tot at *
    rw [List.map_cons, List.filter_cons, List.map_cons, List.sum_cons]
    by_cases d : f e.1 = k
    · rw [if_pos (by simpa using d), List.map_cons, List.sum_cons, ih]
      dsimp only
      rw [if_pos d, Nat.mul_one]
    · rw [if_neg (by simpa using d), ih]
      dsimp only
      rw [if_neg d, Nat.mul_zero, Nat.zero_add]
theorem sumAt_map {α : Type} (k : Nat) (f w : α → Nat) : ∀ L : List α, sumAt k (L.map fun s => (f s, w s)) = (L.map fun s => w s * if f s = k then 1 else 0).sum
  | [] => rfl
  | s :: L => by
    have ih := sumAt_map k f w L
    unfold sumAt at *
    rw [List.map_cons, List.filter_cons, List.map_cons, List.sum_cons]
    by_cases d : f s = k
    · rw [if_pos (by simpa using d), List.map_cons, List.sum_cons, ih, if_pos d, Nat.mul_one]
    · rw [if_neg (by simpa using d), ih, if_neg d, Nat.mul_zero, Nat.zero_add]
/-- the program's sums: by the table's sets' sizes -/
def sumsOf (l : List (List Int)) (c : Chances) (R : List Nat) : List Nat := ((tabOf l c R).map fun e => ((its l.length e.1).length, e.2)).foldl (fun r e => addTo e.1 e.2 r) (List.replicate (l.length + 1) 0)
theorem count_tab (h : Lc l c) (R : List Nat) (hR : R.Perm (List.range l.length)) (g : Good l.length (bxOf l) R) : countWays l c = sumsOf l c R := by
  have nd : R.Nodup := hR.nodup_iff.mpr List.nodup_range
  have e1 : countWays l c = ((sets l.length 0).map fun s => ((unbeatenIn l s).length, worldWays c l.length s)).foldl (fun r e => addTo e.1 e.2 r) (List.replicate (l.length + 1) 0) := by
    rw [List.foldl_map]
    rfl
  unfold sumsOf
  rw [e1]
  have l1 := fold_len ((sets l.length 0).map fun s => ((unbeatenIn l s).length, worldWays c l.length s)) (List.replicate (l.length + 1) 0)
  have l2 := fold_len ((tabOf l c R).map fun e => ((its l.length e.1).length, e.2)) (List.replicate (l.length + 1) 0)
  rw [List.length_replicate] at l1 l2
  refine List.ext_getElem (l1.trans l2.symm) fun j h1 h2 => ?_
  have g1 := (fold_add ((sets l.length 0).map fun s => ((unbeatenIn l s).length, worldWays c l.length s)) (List.replicate (l.length + 1) 0) j (by rw [List.length_replicate]; omega)).2
  have g2 := (fold_add ((tabOf l c R).map fun e => ((its l.length e.1).length, e.2)) (List.replicate (l.length + 1) 0) j (by rw [List.length_replicate]; omega)).2
  rw [List.getD_eq_getElem?_getD, List.getElem?_eq_getElem h1] at g1
  rw [List.getD_eq_getElem?_getD, List.getElem?_eq_getElem h2] at g2
  have g1 : _ = _ := g1
  refine Eq.trans g1 (Eq.trans ?_ g2.symm)
  congr 1
  rw [sumAt_tot j (fun b => (its l.length b).length), sumAt_map, tot_sw (lc_beats h) h.le nd g, sw_perm hR, List.range_eq_range', sw_sets]
  congr 1
  refine List.map_congr_left fun s hs => ?_
  rw [unb_len hs]
  congr 1
  unfold worldWays wy prod
  rw [List.range_eq_range']
  rfl
theorem counts_tab (h : Lc l c) (R : List Nat) (hR : R.Perm (List.range l.length)) (g : Good l.length (bxOf l) R) : countChances l c = (sumsOf l c R).map fun w : Nat => frac (w : Int) (c.q ^ l.length) := by
  unfold countChances
  rw [count_tab h R hR g]
end
end Off
end
section
namespace Off
open Vaskya (beats beaters)
open Vaskye (apart mustGo)
/-! ### as the program looks at sets -/
def hits (l : List (List Int)) (S : List Nat) (i : Nat) : Bool := (beaters l i).any fun b => S.contains b
theorem hits_iff {l : List (List Int)} {S : List Nat} (sS : ∀ x ∈ S, x < l.length) {j : Nat} : hits l S j = S.any fun i => beats (l.getD i []) (l.getD j []) := by
  unfold hits
  rw [Bool.eq_iff_iff, List.any_eq_true, List.any_eq_true]
  constructor
  · rintro ⟨b, hb, hS⟩
    exact ⟨b, List.contains_iff_mem.mp hS, (beaters_mem.mp hb).2⟩
  · rintro ⟨i, hi, h⟩
    exact ⟨i, beaters_mem.mpr ⟨sS i hi, h⟩, List.contains_iff_mem.mpr hi⟩
theorem apart_any {l : List (List Int)} {S : List Nat} (sS : ∀ x ∈ S, x < l.length) : (S.any fun i => hits l S i) = !apart l S := by
  rw [Bool.eq_iff_iff, Bool.not_eq_true', List.any_eq_true]
  constructor
  · rintro ⟨j, hj, h⟩
    rw [hits_iff sS, List.any_eq_true] at h
    obtain ⟨i, hi, h⟩ := h
    cases c : apart l S with
    | false => rfl
    | true =>
      have := apart_iff.mp c i hi j hj
      unfold bxOf at this
      rw [h] at this
      cases this
  · intro h
    have nh : ¬ apart l S = true := by rw [h]; exact Bool.false_ne_true
    rw [apart_iff] at nh
    obtain ⟨i, h1⟩ := Classical.not_forall.mp nh
    obtain ⟨hi, h2⟩ := Classical.not_forall.mp h1
    obtain ⟨j, h3⟩ := Classical.not_forall.mp h2
    obtain ⟨hj, h4⟩ := Classical.not_forall.mp h3
    refine ⟨j, hj, ?_⟩
    rw [hits_iff sS, List.any_eq_true]
    exact ⟨i, hi, by simpa [bxOf] using h4⟩
theorem must_filter {l : List (List Int)} {S : List Nat} (sS : ∀ x ∈ S, x < l.length) : (((List.range l.length).filter fun i => !S.contains i).filter fun i => !hits l S i) = mustGo l S := by
  unfold mustGo
  rw [List.filter_filter]
  refine List.filter_congr fun j _ => ?_
  rw [hits_iff sS, Bool.and_comm]
end Off
end
section
namespace Off
section
variable {n : Nat} {bx : Nat → Nat → Bool}
theorem good_of (B : Beats n bx) : ∀ {R : List Nat}, R.Pairwise (fun a b => cnt n bx b ≤ cnt n bx a) → R.Nodup → (∀ x ∈ R, x < n) → Good n bx R
  | [], _, _, _ => True.intro
  | x :: R, P, nd, lt => by
    obtain ⟨p1, p2⟩ := List.pairwise_cons.mp P
    obtain ⟨n1, n2⟩ := List.nodup_cons.mp nd
    have xn := lt x List.mem_cons_self
    have lt' := fun y hy => lt y (List.mem_cons_of_mem x hy)
    refine ⟨xn, n1, B.irr x xn, fun y hy => ?_, good_of B p2 n2 lt'⟩
    cases c : bx x y with
    | false => rfl
    | true =>
      have := cnt_lt B xn (lt' y hy) c
      have := p1 y hy
      omega
theorem merge_good (B : Beats n bx) {ord : List Nat} {key : Nat → Int} (hk : ∀ i, key i = (cnt n bx i : Int)) (ho : ord = (List.range n).mergeSort fun i j => decide (key i ≤ key j)) (j : Nat) : Good n bx (ord.take j).reverse := by
  have pm : ord.Perm (List.range n) := by rw [ho]; exact List.mergeSort_perm _ _
  have pw : ord.Pairwise fun a b => cnt n bx a ≤ cnt n bx b := by
    rw [ho]
    refine (List.pairwise_mergeSort (le := fun i j => decide (key i ≤ key j)) (fun a b c h1 h2 => ?_) (fun a b => ?_) (List.range n)).imp fun {a b} h => ?_
    · rw [decide_eq_true_iff] at *
      omega
    · rw [Bool.or_eq_true, decide_eq_true_iff, decide_eq_true_iff]
      omega
    · rw [decide_eq_true_iff, hk, hk] at h
      omega
  refine good_of B ?_ ?_ ?_
  · rw [List.pairwise_reverse]
    exact pw.sublist (List.take_sublist _ _)
  · exact (List.reverse_perm _).nodup_iff.mpr ((pm.nodup_iff.mpr List.nodup_range).sublist (List.take_sublist _ _))
  · intro x hx
    rw [List.mem_reverse] at hx
    exact List.mem_range.mp (pm.mem_iff.mp (List.mem_of_mem_take hx))
theorem tab_len {p : Nat → Nat} {q : Nat} {R : List Nat} (g : Good n bx R) : (tab n bx p q R).length ≤ 2 ^ n := by
  have T := tab_ok (p := p) (q := q) g
  have p1 := filter_perm T.nd (List.nodup_range (n := 2 ^ n)) fun x hx => by
    obtain ⟨e, he, rfl⟩ := List.mem_map.mp hx
    exact List.mem_range.mpr (T.sub e he).1.1
  have := List.length_filter_le (fun i => ((tab n bx p q R).map (·.1)).contains i) (List.range (2 ^ n))
  rw [p1.length_eq, List.length_map, List.length_range] at this
  exact this
end
end Off
end
section
set_option Elab.async false
set_option linter.all false
set_option maxRecDepth 100000
set_option maxHeartbeats 4000000
/-! ### An own error over Exception with an __init__ of its own: Exception.__init__(self), then fields. -/
namespace PySem
namespace Flt1
open PySem.W PySem.Calls PyProof.Rows PySem.HandSPX
open Builtin Builtin.ObjectAttr
abbrev tail3 : List Value := [.type "Exception", .type "BaseException", .type "object"]
theorem pass3 (self : Value) (C : Addr) : refuseLoop self "__setattr__" (.ref C :: tail3) = pure () := (refuseLoop_ref ..).trans (F.store_Exception.passes self)
theorem obj3 (C : Addr) : (Value.ref C :: tail3).contains (.type "object") = true := by
  rw [List.contains_cons]
  simp
theorem typ3 : typeOf (.type "Exception") = pure (.type "type") := by kernel_rfl
section
variable {prog : Program} {w : World} {A : Around} {R : Result → Shared → Prop} {hp : Heap} {g : Array GenState} {d : Drawn} {t : Nat} {os : OsState}
variable {K : W.Frag} {name : Str} {tk : Tok} {v : Value} {x C : Addr} {fv : Array Value} {cd : ClassData}
/-- object.__setattr__ on an error that has no dict yet -/
theorem set_first (X : K.In hp) (hx : hp.get? x = some { cls := .ref C, data := .fields fv }) (hcd : W.clsIn K C = some cd) (hm : cd.mro = .ref C :: tail3) (hh : cd.hasDict = true) (ha : W.findIn K (.ref C) name = some none)
    (hq : ∀ h' tk' dx, (∀ b o, b ≠ x → hp.get? b = some o → h'.get? b = some o) → hp.objs.size ≤ dx → dx ≠ x → h'.get? x = some { cls := .ref C, dict := some dx, data := .fields fv } →
      h'.Ns1 dx (fun y => if y = name then some v else none) → R (.ok (.ret .none)) ⟨h', g, d, tk', os⟩) :
    codeAny (model prog w) A (.call (.builtin "object.__setattr__") ⟨[.ref x, .str name tk, v], []⟩) R ⟨hp, g, d, t, os⟩ := by
  obtain ⟨nm, bs, mro, ns, qn, hd, sn, sb, ab, col, del⟩ := cd
  dsimp only at hh hm
  subst hh hm
  have J : W.InstAt hp x { cls := .ref C, data := .fields fv } C none := ⟨hx, rfl, rfl, trivial⟩
  have S := F.store_object
  have xs : x ≠ hp.objs.size := Nat.ne_of_lt (Heap.lt_size hx)
  have below : W.Looks (model prog w) hp (isInstance (.ref x) (.type "object")) true :=
    J.type.andThen (W.looks_mroIn X (by unfold W.mroIn; rw [hcd, Option.bind_some, if_neg (by simp)]; exact congrArg some (obj3 C)))
  refine codeAny_call_builtin S.slot.plain S.entry (@W.check_slot (model prog w) _ _ ⟨hp, g, d, t, os⟩ "object.__setattr__" "object" "__setattr__" (.ref x) [.str name tk, v] [] _ S.kind S.split below (S.args (.ref x) (.str name tk) v) ?_)
  have lm : W.Looks (model prog w) hp (mroOf (.ref C)) (.ref C :: tail3) := (W.looks_clsIn X hcd).andThen .now
  have lt : W.Looks (model prog w) hp (storeTaker? none) none := .now
  have lc := W.looks_clsIn (M := model prog w) X hcd
  rw [W.osa_eq, refuse_eq]
  refine wpAny_bind (wpAny_bind (J.type.at (wpAny_bind (lm.at ?_))))
  rw [pass3]
  refine wpAny_pure (wpAny_bind (J.type.at (wpAny_bind ((W.looks_findIn X ha).at (wpAny_bind (lt.at ?_))))))
  show wpAny _ _ (storeInOwnDict (.ref x) (.ref C) (.str name tk) name v false) _ _ _
  unfold storeInOwnDict ownDictForStores
  repeat (first | with_reducible refine store_in_new ?_ ?_ | with_reducible refine wpAny_loadPart_at hx ?_ | with_reducible refine lc.at ?_ | wp_step)
  · exact ⟨_, #[], _, (Heap.get?_update_ne _ _ _ _ xs.symm).trans (Heap.get?_push_at rfl rfl), rfl, fun e he => absurd he (by simp), fun _ => rfl⟩
  · intro h' tk' hn' hs
    have old : (hp.push { cls := .type "dict", data := .dict #[] }).get? x = some { cls := .ref C, data := .fields fv } := Heap.get?_push_of_some _ hx
    refine hq h' tk' hp.objs.size (fun b o hb ho => ?_) (Nat.le_refl _) xs.symm ?_ hn'
    · exact (hs.2 b (Nat.ne_of_lt (Heap.lt_size ho))).trans ((Heap.get?_update_ne _ _ _ _ hb).trans (Heap.get?_push_of_some _ ho))
    · exact (hs.2 x xs).trans (Heap.get?_update_self _ old rfl)
/-- object.__setattr__ on an error that has its dict -/
theorem set_more {dx : Addr} {m0 : Str → Option Value} {nl : List Str} (X : K.In hp) (hx : hp.get? x = some { cls := .ref C, dict := some dx, data := .fields fv }) (hns : hp.Ns1 dx m0) (hw : Within m0 nl) (hz : nl.length ≤ 1000)
    (hcd : W.clsIn K C = some cd) (hm : cd.mro = .ref C :: tail3) (hh : cd.hasDict = true) (ha : W.findIn K (.ref C) name = some none)
    (hq : ∀ h' tk', (∀ b o, b ≠ dx → hp.get? b = some o → h'.get? b = some o) → h'.Ns1 dx (fun y => if y = name then some v else m0 y) → R (.ok (.ret .none)) ⟨h', g, d, tk', os⟩) :
    codeAny (model prog w) A (.call (.builtin "object.__setattr__") ⟨[.ref x, .str name tk, v], []⟩) R ⟨hp, g, d, t, os⟩ := by
  obtain ⟨nm, bs, mro, ns, qn, hd, sn, sb, ab, col, del⟩ := cd
  dsimp only at hh hm
  subst hh hm
  obtain ⟨oD, esD, epD, hoD, hdD, _⟩ := hns.count hw
  have J : W.InstAt hp x { cls := .ref C, dict := some dx, data := .fields fv } C (some oD) := ⟨hx, rfl, rfl, hoD⟩
  have S := F.store_object
  have below : W.Looks (model prog w) hp (isInstance (.ref x) (.type "object")) true :=
    J.type.andThen (W.looks_mroIn X (by unfold W.mroIn; rw [hcd, Option.bind_some, if_neg (by simp)]; exact congrArg some (obj3 C)))
  refine codeAny_call_builtin S.slot.plain S.entry (@W.check_slot (model prog w) _ _ ⟨hp, g, d, t, os⟩ "object.__setattr__" "object" "__setattr__" (.ref x) [.str name tk, v] [] _ S.kind S.split below (S.args (.ref x) (.str name tk) v) ?_)
  have lm : W.Looks (model prog w) hp (mroOf (.ref C)) (.ref C :: tail3) := (W.looks_clsIn X hcd).andThen .now
  have lt : W.Looks (model prog w) hp (storeTaker? none) none := .now
  have lc := W.looks_clsIn (M := model prog w) X hcd
  rw [W.osa_eq, refuse_eq]
  refine wpAny_bind (wpAny_bind (J.type.at (wpAny_bind (lm.at ?_))))
  rw [pass3]
  refine wpAny_pure (wpAny_bind (J.type.at (wpAny_bind ((W.looks_findIn X ha).at (wpAny_bind (lt.at ?_))))))
  show wpAny _ _ (storeInOwnDict (.ref x) (.ref C) (.str name tk) name v false) _ _ _
  unfold storeInOwnDict ownDictForStores
  repeat (first | with_reducible refine PySem.OEX.store_in_old hns hw hz ?_ | with_reducible refine wpAny_loadPart_at hx ?_ | with_reducible refine lc.at ?_ | wp_step)
  intro h' tk' hn' hs
  exact hq h' tk' (fun b o hb ho => (hs.2 b hb).trans ho) hn'
end
end Flt1
end PySem
end
section
set_option Elab.async false
set_option linter.all false
set_option maxRecDepth 100000
set_option maxHeartbeats 4000000
namespace L2
open PySem PySem.Spec PyProof.Rows
/-- the class of the error, as the top has it -/
structure ErrC (K : PySem.W.Frag) (C : Addr) : Prop where
  cls : ∃ nm q N bs sn sub ab col dd k0 k1 k2 k3 k5, K.lookup C = some (excClassObj nm q C N bs PySem.Flt1.tail3 true sn sub ab col dd k0 k1 k2 k3 k5 "Exception.__new__")
  sa : PySem.W.findIn K (.ref C) "__setattr__" = some (some (.builtin "object.__setattr__"))
  exC : PySem.W.subIn K (.ref C) (.type "BaseException") = some true
  tyC : PySem.W.typeIn K (.ref C) = some (.type "type")
  kC : PySem.W.keepIn K (.ref C) = true
theorem ErrC.data {K : PySem.W.Frag} {C : Addr} (T : ErrC K C) : ∃ cd, PySem.W.clsIn K C = some cd ∧ cd.mro = .ref C :: PySem.Flt1.tail3 ∧ cd.hasDict = true := by
  obtain ⟨nm, q, N, bs, sn, sub, ab, col, dd, k0, k1, k2, k3, k5, h⟩ := T.cls
  exact ⟨{ name := nm, bases := bs, mro := .ref C :: PySem.Flt1.tail3, ns := N, qualname := q, hasDict := true, slotNames := sn, subclasses := sub, abstract := ab, collection := col, hasDel := false }, by unfold PySem.W.clsIn; rw [h] <;> rfl, rfl, rfl⟩
section
variable {X : Cx} {pins : List (Addr × Obj)} {σ : St} {H : Hp} {s : Shared} {a C dx : Addr} {f : Str} {y : V} {u : Value} {fs : List (Str × V)} {Q : Unit → Shared → Prop} {E : Value → Shared → Prop} {A : Around}
/-- its first field -/
theorem err_first (T : ErrC X.K C) (I : Inv X pins σ H s) (e : H a = some (exo a C none)) (hno : PySem.W.findIn X.K (.ref C) f = some none) (ry : RelV y u)
    (h : ∀ dx s', H dx = none → dx ≠ a → Inv X pins σ (upd (upd H dx (exd dx [(f, y)])) a (exo a C (some dx))) s' → Q () s') : wpAny (model X.prog X.w) A (setAttr (.ref a) f u) Q E s := by
  obtain ⟨cd, hcl, hm, hh⟩ := T.data
  obtain ⟨t1, ho⟩ := exo_at I.hok e
  obtain ⟨hp, g, d, t, os⟩ := s
  refine PySem.W.set_plain I.kIn (od := none) ⟨ho, rfl, rfl, trivial⟩ T.sa ?_
  refine PySem.Flt1.set_first I.kIn ho hcl hm hh hno (fun h' tk' dx k dn dne hx hn => ?_)
  have free : H dx = none := I.hok.fresh dn
  have past : ∀ {b : Addr} {o : Obj}, hp.get? b = some o → b ≠ dx := fun {b o} q => Nat.ne_of_lt (Nat.lt_of_lt_of_le (Heap.lt_size q) dn)
  have other : ∀ {b : Addr}, H b = none → b ≠ a := fun {b} n z => by
    rw [z, e] at n
    cases n
  have U : Un X.fs [] H (upd (upd H dx (exd dx [(f, y)])) a (exo a C (some dx))) hp h' := {
    keep := fun b o q n _ _ => k b o (other n) q
    slot := fun b o q n _ _ => ⟨o.slots, k b o (other n) q⟩
    free := fun b o q n _ => by rw [upd_ne (other n), upd_ne (past q)]; exact n
    there := fun b o q _ => by
      rcases Nat.decEq b a with hb | hb
      · exact ⟨o, k b o hb q⟩
      · exact ⟨_, by rw [hb]; exact hx⟩
    tups := fun b xs q => by rw [upd_ne (at_ne e q exo_tup), upd_ne (ne_of_none q free)]; exact q
    frzs := fun b o v q => by rw [upd_ne (at_ne e q exo_frz), upd_ne (ne_of_none q free)]; exact q
    tbls := fun b ps q => ⟨#[], by rw [upd_ne (at_ne e q exo_tbl), upd_ne (ne_of_none q free), q]; simp⟩ }
  refine h dx _ free dne (I.un (t' := tk') U fun b o q => ?_)
  rcases Nat.decEq b a with hb | hb
  · rw [upd_ne hb] at q
    rcases Nat.decEq b dx with hd | hd
    · rw [upd_ne hd] at q
      refine (I.hok b o q).stay (fun c v hc z => k c v ?_ z) (fun c hc => ?_) (fun c xs hc => ?_)
      · rcases hc with hc | hc
        · exact hc ▸ hb
        · exact at_ne e hc exo_own
      · rw [upd_ne (at_ne e hc exo_own), upd_ne (ne_of_none hc free)]; exact hc
      · rw [upd_ne (at_ne e hc exo_tup), upd_ne (ne_of_none hc free)]; exact hc
    · subst hd
      rw [upd_same] at q
      cases q
      exact exd_ok hn (relO_put (fs := []) ry fun g => True.intro)
  · subst hb
    rw [upd_same] at q
    cases q
    exact exo_ok hx
/-- a further field -/
theorem err_more (T : ErrC X.K C) (I : Inv X pins σ H s) (e : H a = some (exo a C (some dx))) (ed : H dx = some (exd dx fs)) (hl : fs.length ≤ 900) (hno : PySem.W.findIn X.K (.ref C) f = some none) (ry : RelV y u)
    (h : ∀ s', Inv X pins σ (upd H dx (exd dx ((f, y) :: fs))) s' → Q () s') : wpAny (model X.prog X.w) A (setAttr (.ref a) f u) Q E s := by
  obtain ⟨cd, hcl, hm, hh⟩ := T.data
  obtain ⟨t1, ho⟩ := exo_at I.hok e
  obtain ⟨mA, hns, rel⟩ := exd_at I.hok ed
  have hw := within_of rel
  obtain ⟨hp, g, d, t, os⟩ := s
  obtain ⟨oD, _, _, hoD, _, _⟩ := hns.count hw
  refine PySem.W.set_plain I.kIn (od := some oD) ⟨ho, rfl, rfl, hoD⟩ T.sa ?_
  refine PySem.Flt1.set_more I.kIn ho hns hw (by rw [List.length_map]; omega) hcl hm hh hno (fun h' tk' k hn => ?_)
  have there : ∃ o, h'.get? dx = some o := by
    obtain ⟨o, _, _, e', _⟩ := hn
    exact ⟨o, e'⟩
  exact h _ (I.write (t' := tk') (x := dx) (e := dx) (o := exd dx ((f, y) :: fs)) (by rw [ed]; exact True.intro) (.inl rfl) k there (exd_ok hn (relO_put ry rel)))
/-- Exception.__init__(self, ..) -/
theorem err_base {us : List Value} {Q : Value → Shared → Prop} (T : ErrC X.K C) (I : Inv X pins σ H s) (e : H a = some (exo a C none)) (hl : us.length ≤ sizeLine) (h : ∀ s', Inv X pins σ H s' → Q .none s') :
    wpAny (model X.prog X.w) A (call (.builtin "Exception.__init__") (.ref a :: us)) Q E s := by
  obtain ⟨nm, q, N, bs, sn, sub, ab, col, dd, k0, k1, k2, k3, k5, hC⟩ := T.cls
  obtain ⟨t1, ho⟩ := exo_at I.hok e
  obtain ⟨hp, g, d, t, os⟩ := s
  refine wpAny_call (PySem.HandSPX.init_base F.excBase_Exception (fun _ => rfl) (I.kIn _ _ hC) ho hl fun h' t2 k hx => ?_)
  have J := I.write (t' := t) (x := a) (e := a) (o := exo a C none) (by rw [e]; exact True.intro) (.inl rfl) k ⟨_, hx⟩ (exo_ok hx)
  have same : upd H a (exo a C none) = H := by
    funext b
    rcases Nat.decEq b a with hb | hb
    · rw [upd_ne hb]
    · rw [hb, upd_same, e]
  rw [same] at J
  exact h _ J
end
/-! the readings -/
/-- Exception.__init__(self, ..) -/
def tEi (K : PySem.W.Frag) (ta : TA) : TE := fun σ H Q => ta σ H fun vs H1 => ∃ (a C : Addr) (ws : List V), vs = .ref a :: ws ∧ ws.length ≤ 1000 ∧ ErrC K C ∧ H1 a = some (exo a C none) ∧ Q .non H1
/-- self.f = e in the error's __init__: the first one, or a further one -/
def tEs (K : PySem.W.Frag) (f : Str) (to te : TE) : TS := fun D σ H => te σ H fun y H1 => to σ H1 fun x H2 => ∃ a C : Addr, x = .ref a ∧ ErrC K C ∧ PySem.W.findIn K (.ref C) f = some none ∧
  ((H2 a = some (exo a C none) ∧ ∀ dx, H2 dx = none → dx ≠ a → D.nx σ (upd (upd H2 dx (exd dx [(f, y)])) a (exo a C (some dx)))) ∨
    ∃ (dx : Addr) (fs : List (Str × V)), H2 a = some (exo a C (some dx)) ∧ H2 dx = some (exd dx fs) ∧ fs.length ≤ 900 ∧ D.nx σ (upd H2 dx (exd dx ((f, y) :: fs))))
section
variable {X : Cx} {o e : Expr} {es : List Expr} {to te : TE} {ta : TA} {f : Str} {p p' p1 p2 pos : Pos}
theorem pe_einit {pl : Sem Bool} (hg : Gl X "Exception") (hm : X.mg "Exception" = none) (vE : PySem.W.findCls X.K (.type "Exception") (.type "type") "__init__" = some (.val (.builtin "Exception.__init__"))) (ha : PA X (e :: es) ta)
    (hc : eval (.Call (.Attribute (.Name "Exception" p1) "__init__" p2) (e :: es) [] pos) X.env = (do
      let ov ← eval (.Name "Exception" p1) X.env
      standAt p2.atName
      let (f, first) ← holding [ov] (getMethod ov "__init__" pl)
      callWith pos f first (backTo pos (starEach (e :: es) X.env)) (backToKw pos (keywordEach [] X.env))) := by rfl)
    (he : starEach (e :: es) X.env = (false, eval e X.env) :: starEach es X.env := by rfl) (hpl : (backTo pos (starEach es X.env)).any (·.1) = false := by rfl) :
    PE X (.Call (.Attribute (.Name "Exception" p1) "__init__" p2) (e :: es) [] pos) (tEi X.K ta) := by
  refine ⟨fun pins s σ H Q I h => ?_⟩
  refine PySem.W.methodCall_KW (ld_blt I hg hm PyProof.Rows.Boot.«Exception» ?_ (by decide) (by decide)) hc
  obtain ⟨m, fr⟩ := I.fr
  refine PySem.W.method_type fr I.ok.mod.kin PySem.Flt1.typ3 (by decide +kernel) vE (by decide +kernel) ?_
  show wpAny _ _ (callWith pos (Value.builtin "Exception.__init__") [] (backTo pos (starEach (e :: es) X.env)) []) _ _ _
  refine PyProof.Rows.callWith_method1 (thn (ha.run pos pins _ σ H _ (I.tok _) h) fun us s1 ⟨vs, H1, I1, r1, a, C, ws, ev, hl, T, ea, q⟩ => ?_) he hpl
  subst ev
  cases r1 with
  | @cons _ u0 _ ur ra rw' =>
    obtain rfl : u0 = Value.ref a := ra
    refine err_base T I1 ea ?_ fun s' J => ⟨.non, H1, J, rfl, q⟩
    rw [← Paired.length rw', sizeLine_eq]
    omega
theorem ps_eset (ho : PE X o to) (he : PE X e te) (hs : swapsWith e (some (.Attribute o f p')) pos.line X.env = pure false := by rfl) : PS X (.Assign [.Attribute o f p'] e pos) (tEs X.K f to te) := by
  refine ⟨fun pins s σ H D I h => ?_⟩
  refine plainObj_wpAny_Assign_Attribute (thn (he.run pins s σ H _ I h) fun v s1 ⟨y, H1, I1, r1, q1⟩ => thn (ho.run pins s1 σ H1 _ I1 q1) fun u s2 ⟨x, H2, I2, r2, a, C, ex, T, hno, q⟩ => ?_) hs
  subst ex
  obtain rfl : u = Value.ref a := r2
  rcases q with ⟨ea, q⟩ | ⟨dx, fs, ea, ed, hl, q⟩
  · exact err_first T I2 ea hno r1 fun dx s' n ne J => ⟨σ, _, J, q dx n ne⟩
  · exact err_more T I2 ea ed hl hno r1 fun s' J => ⟨σ, _, J, q⟩
/-- C(e, ..), the error's __init__ keeping sp -/
theorem pmk_err {CX : CXT} {x : Str} {C fI : Addr} {k : Nat} {fd : FuncData} {ps : List Str} {sp : Sp} {ds : List Value} {dvs : List V} (T : ErrC X.K C) (iC : PySem.W.findIn X.K (.ref C) "__init__" = some (some (.ref fI))) (tI : PySem.W.typeIn X.K (.ref fI) = some (.type "function"))
    (F1 : FnOk X.prog X.w X.K X.mg X.base CX k fI fd ps sp) (hr : Room (k + 1) X.A) (hb : Binds X.K fd ps ds) (hd : Vals dvs ds) (hx : Passes CX X (fun _ _ _ => False)) (hg : Gl X x) (hm : X.mg x = some (.ref C)) (ha : PA X (e :: es) ta)
    (hdb : (x == ("__debug__" : Str)) = false := by decide) (he : starEach (e :: es) X.env = (false, eval e X.env) :: starEach es X.env := by rfl) (hpl : (backTo pos (starEach es X.env)).any (·.1) = false := by rfl) :
    PMk X (.Call (.Name x p) (e :: es) [] pos) (tMkO C sp dvs ta) := by
  intro pins s σ H Q I h
  obtain ⟨nm, q, N, bs, sn, sub, ab, col, dd, k0, k1, k2, k3, k5, hC⟩ := T.cls
  refine wpAny_Call_Name_kw (ld_glob I hg hm ?_ hdb)
  refine PySem.W.callWith_K (h₀ := X.base) I.ok.mod.kin T.kC (thn (ha.run pos pins s σ H _ I h) fun us s1 ⟨vs, H1, I1, r1, hz, q1⟩ => ⟨I1.kIn, ?_⟩) he hpl
  show wpAny _ _ (call (.ref C) us) _ _ _
  obtain ⟨hp, g, dr, tk, os⟩ := s1
  have nx : hp.objs.size ≤ hp.objs.size + 1 := Nat.le_succ _
  have hq := q1 (hp.objs.size + 1) (I1.hok.fresh nx)
  have kk : ∀ b o, hp.get? b = some o → ((hp.push (PySem.W.kdv_tup us)).push (PySem.HandSPX.excO C hp.objs.size)).get? b = some o := fun b o z => Heap.get?_push_of_some _ (Heap.get?_push_of_some _ z)
  have at1 : ((hp.push (PySem.W.kdv_tup us)).push (PySem.HandSPX.excO C hp.objs.size)).get? (hp.objs.size + 1) = some (PySem.HandSPX.excO C hp.objs.size) := by heap_get
  have I2 : Inv X pins σ (upd H1 (hp.objs.size + 1) (exo (hp.objs.size + 1) C none)) ⟨(hp.push (PySem.W.kdv_tup us)).push (PySem.HandSPX.excO C hp.objs.size), g, dr, tk, os⟩ :=
    I1.laid (t' := tk) (a := hp.objs.size + 1) (o := exo (hp.objs.size + 1) C none) (h' := (hp.push (PySem.W.kdv_tup us)).push (PySem.HandSPX.excO C hp.objs.size)) kk nx (exo_ok at1)
  have both : Vals (V.ref (hp.objs.size + 1) :: (vs ++ dvs)) (Value.ref (hp.objs.size + 1) :: (us ++ ds)) := .cons rfl (r1.append hd)
  have hl : (Value.ref (hp.objs.size + 1) :: us ++ ds).length = ps.length := by
    have z := both.length
    rw [F1.len _ _ _ _ hq] at z
    exact z.symm
  have hus : us.length ≤ sizeLine := by
    rw [← Paired.length r1, sizeLine_eq]
    omega
  refine wpAny_call (PySem.HandSPX.call_own F.excBase_Exception (fun _ => rfl) (I1.kIn _ _ hC) (PySem.W.looks_findIn I1.kIn iC) (fun self => PySem.W.bind_fn I1.kIn self tI) hus
    (codeAny_mono (F1.run _ X.stack _ _ ⟨Value.ref (hp.objs.size + 1) :: us, []⟩ (Value.ref (hp.objs.size + 1) :: (us ++ ds)) _ _ (fun _ _ _ => False) (hr.make C us []) (I2.env0.make C us []) (hb _ (Value.ref (hp.objs.size + 1) :: us) I2.kIn hl) both hq) fun r s' z => ?_))
  cases r with
  | error er => exact hx pins σ _ _ er s' I2 z
  | ok fl =>
    cases fl with
    | ret u =>
      obtain ⟨v, H2, os2, bare2, un2, hok2, rv, ev, d, fs, ea, ed, hd1, q2⟩ := z
      subst ev
      obtain ⟨h2, g2, d2, t2, os'⟩ := s'
      exact ⟨rv, mk_end (raises_own T.exC T.tyC) I1 nx kk un2 hok2 os2 bare2 ea ed hd1 q2⟩
    | next => exact z.elim
    | brk => exact z.elim
    | cont => exact z.elim
end
end L2
end
section
set_option Elab.async false
set_option linter.all false
set_option maxRecDepth 100000
set_option maxHeartbeats 4000000
namespace KeyL
open PySem PySem.Calls PySem.W PyProof.Rows
section
variable {prog : Program} {w : World} {A : Around} {E : Value → Shared → Prop} {s : Shared} {a kS : Addr} {b : Bool} {vs : List Value} {e1 : Nat} {P : PySem.Fin → Shared → Prop}
theorem alike_all (ks : List Int) : AllAlike (ks.map PyData.int) := by
  intro d hd d' hd'
  obtain ⟨i, _, rfl⟩ := List.mem_map.mp hd
  obtain ⟨j, _, rfl⟩ := List.mem_map.mp hd'
  rfl
theorem sortable_all (ks : List Int) : Sortable (ks.map PyData.int) := by
  refine .inr fun d hd => ?_
  obtain ⟨i, _, rfl⟩ := List.mem_map.mp hd
  exact ⟨(by intro z; cases z), fun xs z => by cases z⟩
theorem each_reads (h : Heap) : ∀ {L : List Value} {ks : List Int}, EachIs (fun v k => ∃ t, v = Value.int k t) L ks → EachIs (fun v k => ∃ as, Reads h v k as) L (ks.map PyData.int) := fun {L ks} hk => by
  induction hk with
  | nil => exact EachIs.nil
  | cons h _ ih =>
    obtain ⟨t, rfl⟩ := h
    exact EachIs.cons ⟨[], Reads.int _ _⟩ ih
theorem keyI_rest {J : Shared → Prop} {ks : List Int} {f : Value} (J0 : J s) (nk : s.heap.get? kS = some (seqObj "list" #[] 0)) (na : s.heap.get? a = some (seqObj "list" #[] e1)) (hka : kS ≠ a)
    (hlen : ks.length = vs.length) (hZ : vs.length ≤ sizeLine) (hu : A.units + 4 < cLine)
    (upk : ∀ s' kA e v, J s' → s'.heap.get? kS = some (seqObj "list" kA e) → J { s' with heap := s'.heap.update kS (Obj.mapSeq (·.push v)) })
    (turn : ∀ (i : Nat) (v : Value) (k : Int), vs[i]? = some v → ks[i]? = some k → ∀ s', J s' → (∃ kA e, s'.heap.get? kS = some (seqObj "list" kA e)) → s'.heap.get? a = some (seqObj "list" #[] e1) →
      wpAny (model prog w) A (call f [v]) (fun u s'' => (∃ t, u = .int k t) ∧ J s'' ∧ s''.heap.get? kS = s'.heap.get? kS ∧ s''.heap.get? a = s'.heap.get? a) (fun _ _ => False) s')
    (h : ∀ s' g tk out c, J s' → (∀ b o, b ≠ a → b ≠ kS → s'.heap.get? b = some o → g.get? b = some o) → (∃ kA e, s'.heap.get? kS = some (seqObj "list" kA e)) → s'.heap.get? a = some (seqObj "list" #[] e1) →
      g.get? a = some (seqObj "list" (List.toArray out) c) → KeyedOut b (ks.map PyData.int) vs out → P (.done (.ret .none)) { s' with heap := g, toks := tk }) :
    wpAny (model prog w) A (ksk_rest a f b vs.toArray e1 (.ref kS)) P E s := by
  unfold ksk_rest
  refine wpAny_bind (wpAny_rule ?_)
  first
    | rw [List.forIn_toArray]
    | (rw [← Array.forIn_toList]; simp only [List.toList_toArray])
    | rw [← Array.forIn_toList]
  refine wpAny_bind (ksk_fold (fun i s' => ∃ kA e, J s' ∧ s'.heap.get? kS = some (seqObj "list" kA e) ∧ s'.heap.get? a = some (seqObj "list" #[] e1) ∧ EachIs (fun v k => ∃ t, v = Value.int k t) kA.toList (ks.take i)) vs 0 s
    ⟨#[], 0, J0, nk, na, by rw [List.take_zero]; exact EachIs.nil⟩ ?step ?done)
  case step =>
    rintro j x s' hx ⟨kA, e, J', nk', na', hk⟩
    simp only [Nat.zero_add] at hk ⊢
    have hj : j < vs.length := (List.getElem?_eq_some_iff.mp hx).1
    obtain ⟨k, hkj⟩ : ∃ k, ks[j]? = some k := ⟨_, List.getElem?_eq_getElem (by omega)⟩
    have hz : kA.size ≤ vs.length := by
      have h1 := hk.length
      rw [Array.length_toList, List.length_take] at h1
      omega
    refine wpAny_bind (wpAny_attempt (wpAny_mono (turn j x k hx hkj s' J' ⟨_, _, nk'⟩ na') (fun v s'' he => ?_) fun _ _ hF => hF.elim))
    obtain ⟨hv, J2, k2, a2⟩ := he
    try dsimp only
    have nk2 := k2.trans nk'
    have na2 := a2.trans na'
    have s1 := Heap.SameBut.update s''.heap kS (Obj.mapSeq (·.push v))
    obtain ⟨c2, hc2⟩ : ∃ c2, (s''.heap.update kS (Obj.mapSeq (·.push v))).get? kS = some (seqObj "list" (kA.push v) c2) := ⟨_, get?_update_seq nk2 (·.push v)⟩
    have ek : ks.take (j + 1) = ks.take j ++ [k] := by rw [List.take_add_one, hkj]; simp
    have ea : (kA.push v).toList = kA.toList ++ [v] := by simp
    refine wpAny_bind (listUpdate_at nk2 rfl ?_ (Nat.le_trans hz hZ) (Nat.le_trans (Nat.le_of_eq (Array.size_push ..)) (Nat.succ_le_succ (Nat.le_trans hz hZ))))
    refine wpAny_pure ⟨rfl, kA.push v, c2, upk _ _ _ _ J2 nk2, hc2, (s1.2 a hka.symm).trans na2, ?_⟩
    rw [ea, ek]
    exact each_snoc (R := fun (v : Value) (k : Int) => ∃ t, v = Value.int k t) hv hk
  case done =>
    rintro s' ⟨kA, e, J', nk', na', hk⟩
    have hk' : EachIs (fun v k => ∃ as, Reads s'.heap v k as) kA.toList (ks.map PyData.int) := by
      have e3 : ks.take (0 + vs.length) = ks := List.take_of_length_le (by omega)
      rw [e3] at hk
      exact each_reads _ hk
    have hsz : kA.size = vs.length := by
      have h1 := hk'.length
      rw [Array.length_toList, List.length_map] at h1
      omega
    try dsimp only
    refine wpAny_bind (listItems_at nk' rfl ?_)
    refine keyH_end (κ := dataKind s'.heap (ks.map PyData.int)) (h₁ := hideAll s'.heap [kS]) (s := s') (fun b o _ e => of_hideAll _ e) (hideAll_none _ (by simp)) nk' na' hka (SortsAt.data (s := s') hk' (alike_all ks) (sortable_all ks) ?_) hsz hZ fun h3 tk3 c k3 n3 => ?_
    · intro d hd
      obtain ⟨i, _, rfl⟩ := List.mem_map.mp hd
      show A.units + 0 < cLine
      omega
    · exact h s' h3 tk3 _ c J' (fun b o ha hb e => k3 b o ha (hideAll_get _ e (by simpa using hb))) ⟨_, _, nk'⟩ na' n3 ⟨s'.heap, kA.toList, alike_all ks, rfl, hk'⟩
end
section
open L2 LamX NdefX
/-- an untracked record of ours is tracked from now on, another one of ours has turned -/
theorem take2 {X : Cx} {pins : List (Addr × Obj)} {σ : L2.St} {H : Hp} {s : Shared} {h' : Heap} {t' : Nat} {it ot : Addr} {o : HO} (I : Inv X pins σ H s) (k : ∀ b ob, b ≠ it → b ≠ ot → s.heap.get? b = some ob → h'.get? b = some ob) (f : FpOk X pins H it) (g : FpOk X pins H ot)
    (new : ObjOk X.prog X.w (upd H it o) h' it o) : Inv X pins σ (upd H it o) { s with heap := h', toks := t' } := by
  obtain ⟨hn, hL, _, h1, h2, h3⟩ := f
  obtain ⟨gn, gL, _, g1, g2, g3⟩ := g
  have nit : ∀ b u, H b = some u → b ≠ it := fun b u e z => by rw [z, hn] at e; cases e
  have not_ : ∀ b u, H b = some u → b ≠ ot := fun b u e z => by rw [z, gn] at e; cases e
  have up : ∀ b u, H b = some u → upd H it o b = some u := fun b u e => by rw [upd_ne (nit b u e)]; exact e
  refine I.step (g' := s.gens) (d' := s.drawn) (ch := [it, ot]) (fun b hb => ?_) (fun b ob _ _ hc e _ => k b ob (fun z => hc (by simp [z])) (fun z => hc (by simp [z])) e) (fun b ob _ _ hc e _ => ⟨ob.slots, k b ob (fun z => hc (by simp [z])) (fun z => hc (by simp [z])) e⟩)
    (fun b ob hc _ n => by rw [upd_ne (fun z => hc (by simp [z]))]; exact n) (fun b ob hc e => ⟨ob, k b ob (fun z => hc (by simp [z])) (fun z => hc (by simp [z])) e⟩) (fun b _ e => up b _ e) (fun b _ _ e => up b _ e) (fun b ps e => ⟨#[], by rw [up b _ e]; simp⟩) (fun m hm => ?_) (fun b u e => ?_) I.bare
  · rcases List.mem_cons.mp hb with e | e
    · subst e
      exact ⟨h1, hL, h2, h3⟩
    · have e : b = ot := by simpa using e
      subst e
      exact ⟨g1, gL, g2, g3⟩
  · obtain ⟨ob, es, ep, ho, r⟩ := hm
    exact ⟨ob, es, ep, k _ ob (Ne.symm hL) (Ne.symm gL) ho, r⟩
  · by_cases hb : b = it
    · rw [hb, upd_same] at e
      cases e
      rw [hb]
      exact new
    · rw [upd_ne hb] at e
      refine (I.hok b u e).stay (fun c v hc q => k c v ?_ ?_ q) (fun c q => up c _ q) fun c _ q => up c _ q
      · rcases hc with z | z
        · rw [z]; exact hb
        · exact nit c _ z
      · rcases hc with z | z
        · rw [z]; exact not_ _ _ e
        · exact not_ c _ z
/-- the function that a lambda makes: for its body's context alone -/
abbrev lamF (q : Str) (params : Arguments) (scope : Scope) (cells : List (Str × Addr)) (c' : Addr) : NF := ⟨"<lambda>", q, params, [], scope, cloFrom cells scope.names [], c'⟩
/-- f(x), f a lambda of one parameter -/
theorem lam_call {X : Cx} {pins : List (Addr × Obj)} {σ : L2.St} {H : Hp} {s : Shared} {A : Around} {q : Str} {params : Arguments} {body : Expr} {scope : Scope} {N fr : List Str} {x : Str} {js : List Nat} {f c' : Addr} {pm ctv : Value} {k : Nat} {tb : TE} {v : V} {u : Value} {Q : VK} {E : Value → Shared → Prop}
    (I : Inv X pins σ H s) (e0 : Env0 X.prog X.w X.K X.mg X.base A X.stack s H) (hr : Room (k + 1) A) (S : NScope N [x] fr scope)
    (hf : s.heap.get? f = some (PySem.W.kla_obj "<lambda>" q params body scope (cloFrom X.env.cells scope.names []) pm c' ctv)) (hc : H c' = some (CodeO c' q)) (hbind : ∀ u, bindArgs (PySem.W.kla_fn "<lambda>" q params body scope (cloFrom X.env.cells scope.names []) pm (.ref c') ctv) ⟨[u], []⟩ = pure [(x, u)])
    (C : CellsAt (cloFrom X.env.cells scope.names []) fr (js.map (slotAt σ)) s.heap H) (r : RelV v u)
    (hbody : ∀ (A : Around) (outer : List Env) (s : Shared) (H : Hp), Room k (A.deeper (envF (lamF q params scope X.env.cells c') f s.heap.objs.size)) → PE (ncx L2.CX0 X.prog X.w X.K X.mg X.base N (lamF q params scope X.env.cells c') f A outer s H L2.E0) body tb)
    (ht : tb (startF N [v] (js.map (slotAt σ))) H Q) :
    wpAny (model X.prog X.w) A (call (.ref f) [u]) (CE X.stack X.prog X.w H s Q) E s := by
  obtain ⟨⟨oc, vs, t, hoc, hdc, hvc⟩, _, _⟩ := I.hok c' _ hc
  have lim : s.heap.NoLimit := e0.mod.nolimit.keeps fun b o e => (e0.bs b o e).1
  have rc : codeAny (model X.prog X.w) A (.call (.ref f) ⟨[u], []⟩) (CR L2.CX0 X.stack X.prog X.w H s Q L2.E0) s := by
    refine PySem.W.kla_callFunE hr.depth hf rfl S.co S.gen rfl ⟨c', oc, vs, t, rfl, hoc, hdc, hvc⟩ ?_
    rw [hbind]
    refine wpAny_pure (wpAny_newFunctionEnv S.nocell (fun y hy => ?_) (fun h₁ hns hsb => ⟨lim.fresh _ hsb, ?_⟩) S.kind)
    · have : y = (x, u) := by simpa using hy
      subst this
      exact S.par x (by simp)
    · show codeAny _ _ (.expr body (envF (lamF q params scope X.env.cells c') f s.heap.objs.size)) _ _
      have kp : ∀ b o, s.heap.get? b = some o → h₁.get? b = some o := fun b o e => hsb.extBut b o (Nat.ne_of_lt (Heap.lt_size e)) (Heap.get?_push_of_some _ e)
      have J : Inv (ncx L2.CX0 X.prog X.w X.K X.mg X.base N (lamF q params scope X.env.cells c') f A X.stack s H L2.E0) [] (startF N [v] (js.map (slotAt σ))) H { s with heap := h₁, toks := s.toks + ([(x, u)] : List (Str × Value)).length } :=
        inv_startN (F := lamF q params scope X.env.cells c') (us := [u]) S hr.hd e0 rfl (.cons r .nil) C hns kp
      refine PySem.W.kla_codeExpr (wpAny_mono ((hbody A X.stack s H (hr.deeper _)).run [] _ _ H Q J ht) (fun v s' hq => ?_) fun e s' hq => hq)
      obtain ⟨w', H', J', rv, q⟩ := hq
      exact ⟨w', H', J'.os, J'.bare, J'.base, J'.hok, rv, q⟩
  refine wpAny_call (codeAny_mono rc fun r s' hq => ?_)
  cases r with
  | error e => exact (show False from hq).elim
  | ok fl =>
    cases fl with
    | ret u => exact hq
    | next => exact False.elim hq
    | brk => exact False.elim hq
    | cont => exact False.elim hq
end
end KeyL
end
section
set_option Elab.async false
set_option linter.all false
set_option maxRecDepth 100000
set_option maxHeartbeats 4000000
namespace KeyL
open PySem PySem.Spec PySem.Calls PySem.W PyProof.Rows L2 LamX NdefX
def byKey (key : Nat → Int) (i j : Nat) : Bool := decide (key i ≤ key j)
def natV (l : List Nat) : List V := l.map fun i : Nat => V.int (i : Int)
theorem each_natV : ∀ {out : List Value} {L : List Nat}, PySem.W.EachIs (fun v (i : Nat) => ∃ t, v = Value.int (i : Int) t) out L → Vals (natV L) out := fun {out L} h => by
  induction h with
  | nil => exact .nil
  | cons h _ ih => exact .cons h ih
/-- the heap keeps all that it tells -/
def Same0 (H H' : Hp) : Prop := ∀ b o, H b = some o → H' b = some o
theorem sorted_lam {X : Cx} {pins : List (Addr × Obj)} {σ : L2.St} {H : Hp} {s : Shared} {q : Str} {params : Arguments} {body : Expr} {scope : Scope} {N fr : List Str} {x : Str} {js : List Nat} {f c' r : Addr} {pm ctv : Value} {k0 n : Nat} {tb : TE} {Q : VK} {t u v : Tok}
    (I : Inv X pins σ H s) (hcalm : X.calm = true) (hr : Room (k0 + 3) X.A) (S : NScope N [x] fr scope) (hR : IsRange s.heap r 0 (n : Int) 1 t u v) (hn : n ≤ 1000)
    (hf : s.heap.get? f = some (PySem.W.kla_obj "<lambda>" q params body scope (cloFrom X.env.cells scope.names []) pm c' ctv)) (hfn : H f = none) (hfr : f ∉ frs X.stack) (hc : H c' = some (CodeO c' q))
    (hbind : ∀ u, bindArgs (PySem.W.kla_fn "<lambda>" q params body scope (cloFrom X.env.cells scope.names []) pm (.ref c') ctv) ⟨[u], []⟩ = pure [(x, u)])
    (cp : X.Ok → Caps X (cloFrom X.env.cells scope.names []) fr js)
    (hbody : ∀ (A : Around) (outer : List Env) (s : Shared) (H : Hp), Room k0 (A.deeper (envF (lamF q params scope X.env.cells c') f s.heap.objs.size)) → PE (ncx L2.CX0 X.prog X.w X.K X.mg X.base N (lamF q params scope X.env.cells c') f A outer s H L2.E0) body tb)
    {key : Nat → Int} (hkey : ∀ i, i < n → ∀ H3, Same0 H H3 → tb (startF N [.int (i : Int)] (js.map (slotAt σ))) H3 fun w H4 => w = .int (key i) ∧ Same0 H3 H4)
    (hQ : ∀ H3 p, Same0 H H3 → H3 p = none → Q (.ref p) (upd H3 p (.lst (natV ((List.range n).mergeSort (byKey key)))))) :
    wpAny (model X.prog X.w) X.A (call (.builtin "sorted") [.ref r] [(Str.ofString "key", .ref f)]) (EP X pins σ Q) X.xe s := by
  have hsmall : Builtin.Range.small 0 (n : Int) 1 = true := small_one (by omega) (by omega) (by omega) (by omega)
  have hsz : Builtin.Range.rangeSize 0 (n : Int) 1 = n := by
    have := rangeSize_nat 0 (n : Int)
    rw [this]
    omega
  refine call_function_entry_kw kind_sorted plain_sorted entry_sorted (PyProof.Rows.ksk_s1 _ _) ?_
  unfold Builtin.«sorted»
  refine wpAny_bind (m := checkCount "sorted" 1 1 _) (wpAny_pure ?_)
  refine wpAny_bind (collect_range (A := X.A.in1) (I.ok.hd hcalm) hR hsmall hsz (by omega) fun h' tk acc hk hacc => ?_)
  have hl : acc.toList.length = n := by rw [Array.length_toList]; exact hacc.1
  have hZ : acc.toList.length ≤ sizeLine := by rw [hl, sizeLine_eq]; omega
  have I1 : Inv X pins σ H { s with heap := h', toks := tk } := I.kept hk
  have hf1 : h'.get? f = some (PySem.W.kla_obj "<lambda>" q params body scope (cloFrom X.env.cells scope.names []) pm c' ctv) := hk _ _ hf
  have hfl : f < h'.objs.size := Heap.lt_size hf1
  generalize hvs : acc.toList = vs at hl hZ
  have hvals : EachIs (fun v (i : Nat) => ∃ t, v = Value.int (i : Int) t) vs (List.range n) := by
    rw [← hvs]
    have := hacc.2
    have hl' : acc.toList.length = n := by rw [Array.length_toList]; exact hacc.1
    have key : ∀ (L : List Value) (m : Nat), (∀ j v, L[j]? = some v → ∃ t, v = Value.int ((m + j : Nat) : Int) t) → EachIs (fun v (i : Nat) => ∃ t, v = Value.int (i : Int) t) L (List.range' m L.length) := by
      intro L
      induction L with
      | nil => exact fun m _ => EachIs.nil
      | cons v L ih =>
        intro m h
        rw [List.length_cons, List.range'_succ]
        refine EachIs.cons (h 0 v rfl) (ih (m + 1) fun j u hu => ?_)
        obtain ⟨t, e⟩ := h (j + 1) u hu
        exact ⟨t, e.trans (congrArg (fun z => Value.int z t) (by omega))⟩
    have k0 := key acc.toList 0 fun j v hj => by
      obtain ⟨t, e⟩ := hacc.2 j v (by rw [← Array.getElem?_toList]; exact hj)
      exact ⟨t, e.trans (congrArg (fun z => Value.int z t) (by omega))⟩
    rw [hl'] at k0
    rw [List.range_eq_range']
    exact k0
  clear hacc hvs acc
  -- the list of the result
  have fa : FpOk X pins H h'.objs.size := I1.fpOk (Nat.le_refl _) (I1.hok.fresh (Nat.le_refl _))
  refine wpAny_bind (wpAny_newList ?_ hZ)
  have ho2 : (h'.push { cls := .type "list", data := .seq vs.toArray }).get? h'.objs.size = some (seqObj "list" vs.toArray 0) := Heap.get?_push_size _ rfl
  have I2 : Inv X pins σ H { s with heap := h'.push { cls := .type "list", data := .seq vs.toArray }, toks := tk } := I1.kept fun b o e => Heap.get?_push_of_some _ e
  have hf2 := Heap.get?_push_of_some ({ cls := .type "list", data := .seq vs.toArray } : Obj) hf1
  have hs2 : (h'.push ({ cls := .type "list", data := .seq vs.toArray } : Obj)).objs.size = h'.objs.size + 1 := Heap.size_push _ _
  generalize h'.push ({ cls := .type "list", data := .seq vs.toArray } : Obj) = h2 at ho2 I2 hf2 hs2
  generalize h'.objs.size = a at fa ho2 hs2 hfl
  clear I1 hf1 hk
  refine wpAny_bind (wpAny_holding (wpAny_call_entry_kw slot_list_sort ⟨_, ho2, rfl⟩ entry_list_sort ?body (PyProof.Rows.ksk_l1 _ _)))
  case body =>
  show wpAny (model X.prog X.w) X.A.in1.in1 (Builtin.«list.sort» ⟨[.ref a], [(Str.ofString "key", .ref f)]⟩) _ _ _
  have fin : ∀ {M : PySem.Fin → Shared → Prop} {E' : Value → Shared → Prop} {t : Sem PySem.Fin} {s0 : Shared}, wpAny (model X.prog X.w) X.A.in1.in1 t (fun g s' => g = .done (.ret .none) ∧ EP X pins σ Q (.ref a) s') (fun _ _ => False) s0 → (∀ s', EP X pins σ Q (.ref a) s' → M (.done (.ret .none)) s') → wpAny (model X.prog X.w) X.A.in1.in1 t M E' s0 :=
    fun h1 h2 => wpAny_mono h1 (fun g s' hg => by
      obtain ⟨rfl, hq⟩ := hg
      exact h2 s' hq) fun _ _ e => e.elim
  refine fin ?_ fun s' hq => ⟨_, rfl, wpAny_pure ⟨_, rfl, hq⟩⟩
  clear fin
  rw [ksk_t1]
  unfold ksk_tree
  have haf : f ≠ a := Nat.ne_of_lt hfl
  obtain ⟨e1, ho3⟩ : ∃ e1, (h2.update a (Obj.mapSeq fun _ => (#[] : Array Value))).get? a = some (seqObj "list" #[] e1) := ⟨_, get?_update_seq ho2 fun _ => #[]⟩
  refine wpAny_bind (listItems_at ho2 rfl ?_)
  refine wpAny_bind (listUpdate_at ho2 rfl ?_ (by rw [List.size_toArray]; exact hZ) (Nat.zero_le _))
  have sb := Heap.SameBut.update h2 a (Obj.mapSeq fun _ => (#[] : Array Value))
  have hs3 : (h2.update a (Obj.mapSeq fun _ => (#[] : Array Value))).objs.size = a + 1 := by rw [Heap.size_update, hs2]
  have I3 : Inv X pins σ H { s with heap := h2.update a (Obj.mapSeq fun _ => (#[] : Array Value)), toks := tk } := I2.turned (fun b o hb e => (sb.2 b hb).trans e) fa.1 fa.2.1 fa.2.2.2.1 fa.2.2.2.2.1 fa.2.2.2.2.2
  have hf3 := (sb.2 f haf).trans hf2
  generalize h2.update a (Obj.mapSeq fun _ => (#[] : Array Value)) = h3 at ho3 I3 hf3 hs3
  clear I2 hf2 sb
  refine wpAny_bind (seqEpoch_at ho3 rfl ?_)
  refine wpAny_bind (wpAny_newTuple ?_ (by show vs.length ≤ _; exact hZ))
  have I4 : Inv X pins σ H { s with heap := h3.push (seqObj "tuple" vs.toArray 0), toks := tk } := I3.kept fun b o e => Heap.get?_push_of_some _ e
  have hf4 := Heap.get?_push_of_some (seqObj "tuple" vs.toArray 0) hf3
  have ho4 := Heap.get?_push_of_some (seqObj "tuple" vs.toArray 0) ho3
  have hs4 : (h3.push (seqObj "tuple" vs.toArray 0)).objs.size = a + 2 := by rw [Heap.size_push, hs3]
  refine wpAny_bind (wpAny_newList ?_ (Nat.zero_le _))
  have fk : FpOk X pins H (h3.push (seqObj "tuple" vs.toArray 0)).objs.size := I4.fpOk (Nat.le_refl _) (I4.hok.fresh (Nat.le_refl _))
  refine wpAny_holding ?_
  have I5 : Inv X pins σ H { s with heap := (h3.push (seqObj "tuple" vs.toArray 0)).push (seqObj "list" #[] 0), toks := tk } := I4.kept fun b o e => Heap.get?_push_of_some _ e
  have hf5 := Heap.get?_push_of_some (seqObj "list" #[] 0) hf4
  have ho5 := Heap.get?_push_of_some (seqObj "list" #[] 0) ho4
  have hk5 : ((h3.push (seqObj "tuple" vs.toArray 0)).push (seqObj "list" #[] 0)).get? (h3.push (seqObj "tuple" vs.toArray 0)).objs.size = some (seqObj "list" #[] 0) := Heap.get?_push_size _ rfl
  show wpAny (model X.prog X.w) X.A.in1.in1 (ksk_rest a (.ref f) false vs.toArray e1 (.ref (h3.push (seqObj "tuple" vs.toArray 0)).objs.size)) _ _ { s with heap := (h3.push (seqObj "tuple" vs.toArray 0)).push (seqObj "list" #[] 0), toks := tk }
  generalize (h3.push (seqObj "tuple" vs.toArray 0)).push (seqObj "list" #[] 0) = h5 at I5 hf5 ho5 hk5
  generalize (h3.push (seqObj "tuple" vs.toArray 0)).objs.size = kS at fk hk5 hs4
  clear I4 I3 hf3 hf4 ho3 ho4 hs3
  have hka : kS ≠ a := by omega
  have hkf : f ≠ kS := fun z => by
    rw [z, hs4] at hfl
    exact absurd hfl (Nat.not_lt.mpr (Nat.le_add_right a 2))
  have hin : ∀ {b : Addr}, b ∉ X.fs → b ≠ X.env.locals → b ∉ frs X.stack := fun {b} h1 h2 z => (List.mem_cons.mp (I.stkSub b z)).elim h2 h1
  refine keyI_rest (J := fun s' => ∃ Hc, Inv X pins σ Hc s' ∧ Same0 H Hc ∧ FpOk X pins Hc a ∧ FpOk X pins Hc kS ∧ Hc f = none ∧ s'.heap.get? f = some (PySem.W.kla_obj "<lambda>" q params body scope (cloFrom X.env.cells scope.names []) pm c' ctv))
    (s := { s with heap := h5, toks := tk }) (ks := (List.range n).map key) ⟨H, I5, fun _ _ e => e, fa, fk, hfn, hf5⟩ hk5 ho5 hka (by rw [List.length_map, List.length_range, hl]) hZ ?_ ?_ ?_ ?_
  · have := hr.un
    show X.A.units + 1 + 1 + 4 < cLine
    omega
  · rintro s' kA e v ⟨Hc, J1, J2, J3, J4, J5, J6⟩ hk'
    have sb := Heap.SameBut.update s'.heap kS (Obj.mapSeq (·.push v))
    exact ⟨Hc, J1.turned (t' := s'.toks) (fun b o hb e => (sb.2 b hb).trans e) J4.1 J4.2.1 J4.2.2.2.1 J4.2.2.2.2.1 J4.2.2.2.2.2, J2, J3, J4, J5, (sb.2 f hkf).trans J6⟩
  · rintro i v k hi hki s' ⟨Hc, J1, J2, J3, J4, J5, J6⟩ ⟨kA, e, nk⟩ na
    have hlt : i < n := by rw [← hl]; exact (List.getElem?_eq_some_iff.mp hi).1
    have hkk : k = key i := by
      rw [List.getElem?_map, List.getElem?_range hlt] at hki
      exact (Option.some.inj hki).symm
    subst hkk
    have hz : (v, i) ∈ vs.zip (List.range n) := List.mem_of_getElem? (i := i) (by rw [List.getElem?_zip_eq_some]; exact ⟨hi, List.getElem?_range hlt⟩)
    have hv : ∃ t, v = Value.int (i : Int) t := hvals.zip _ hz
    refine wpAny_mono (lam_call (k := k0) (v := .int (i : Int)) J1 J1.env0.in1.in1 hr.in1.in1 S J6 (J2 _ _ hc) hbind (cells_of J1 (cp J1.ok)) hv hbody (hkey i hlt Hc J2)) (fun u s'' hq => ?_) fun _ _ e => e
    obtain ⟨w', H', os, bare, un, hok', rv, rfl, s0⟩ := hq
    obtain ⟨hh, g, d, t, os'⟩ := s''
    obtain rfl : os' = s'.os := os
    have J' := J1.call (h' := hh) (g' := g) (d' := d) (t' := t) (ch := []) un hok' bare (fun b z => absurd z (by simp))
    have kk : hh.get? kS = some (seqObj "list" kA e) := un.keep kS _ nk J4.1 (hin J4.2.2.1 J4.2.1) (by simp)
    have ka : hh.get? a = some (seqObj "list" #[] e1) := un.keep a _ na J3.1 (hin J3.2.2.1 J3.2.1) (by simp)
    exact ⟨rv, ⟨H', J', fun b o e => s0 b o (J2 b o e), ⟨un.free a _ na J3.1 (by simp), J3.2⟩, ⟨un.free kS _ nk J4.1 (by simp), J4.2⟩, un.free f _ J6 J5 (by simp), un.keep f _ J6 J5 hfr (by simp)⟩, kk.trans nk.symm, ka.trans na.symm⟩
  · rintro s' g tk2 out c ⟨Hc, J1, J2, J3, J4, J5, J6⟩ kp ⟨kA, e, nk⟩ na hD ko
    rw [List.map_map] at ko
    have hE : EachIs (fun v (i : Nat) => ∃ t, v = Value.int (i : Int) t) out ((List.range n).mergeSort (byKey key)) := by
      have := keyedOut_each (bs := List.range n) (fun i => PyData.int (key i)) ko hvals
      rw [dataLe_int] at this
      exact this
    have hlen : (natV ((List.range n).mergeSort (byKey key))).length ≤ sizeLine := by
      unfold natV
      rw [List.length_map, List.length_mergeSort, List.length_range, sizeLine_eq]
      omega
    exact ⟨rfl, .ref a, _, take2 (t' := tk2) J1 kp J3 J4 (show ObjOk X.prog X.w _ _ _ (.lst (natV ((List.range n).mergeSort (byKey key)))) from ⟨hlen, out, c, each_natV hE, hD⟩), rfl, hQ Hc a J2 J3.1⟩
section
variable {X : Cx} {e : Expr} {te : TE}
/-- range(e), its object ours -/
theorem range_ours {p pos : Pos} (hg : Gl X "range") (hm : X.mg "range" = none) (ha : PE X e te) {pins : List (Addr × Obj)} {s : Shared} {σ : L2.St} {H : Hp} {Q : Int → Hp → Prop} (I : Inv X pins σ H s) (h : te σ H fun x H1 => ∃ n, x = .int n ∧ Q n H1)
    (na : starEach [e] X.env = (false, eval e X.env) :: starEach [] X.env := by rfl) :
    wpAny (model X.prog X.w) X.A (eval (.Call (.Name "range" p) [e] [] pos) X.env) (fun x s' => ∃ r n t u v H', x = .ref r ∧ IsRange s'.heap r 0 n 1 t u v ∧ Inv X pins σ H' s' ∧ FpOk X pins H' r ∧ Q n H') X.xe s := by
  refine Call_ (ld_blt I hg hm boot_range (PyProof.Rows.callWith_type1 (one_arg ha I h (fun v s2 x H2 I2 r q => ?_) na) na))
  obtain ⟨n, rfl, q⟩ := q
  obtain ⟨t, rfl⟩ := r
  exact call_range_1 ⟨_, n, _, _, _, H2, rfl, IsRange.new _ _ _ _ _ _ _, I2.kept fun b u e => Heap.get?_push_of_some _ e, I2.fpOk (Nat.le_refl _) (I2.hok.fresh (Nat.le_refl _)), q⟩
def tSortLam (T : List (Addr × Str)) (N : List Str) (js : List Nat) (te tb : TE) : TE := fun σ H Q => te σ H fun x H1 => ∃ z : Int, x = .int z ∧ ∃ n : Nat, z = (n : Int) ∧ n ≤ 1000 ∧ Tabs T H1 ∧ ∀ H2, ExtN H1 H2 → Tabs T H2 →
  ∃ key : Nat → Int, (∀ i, i < n → ∀ H3, Same0 H2 H3 → tb (startF N [.int (i : Int)] (js.map (slotAt σ))) H3 fun w H4 => w = .int (key i) ∧ Same0 H3 H4) ∧
    ∀ H3 p, Same0 H2 H3 → H3 p = none → Q (.ref p) (upd H3 p (.lst (natV ((List.range n).mergeSort (byKey key)))))
theorem pe_sortedLam {T : List (Addr × Str)} {N fr : List Str} {js : List Nat} {x : Str} {c P : Addr} {k0 : Nat} {params : Arguments} {body : Expr} {scope : Scope} {p p1 p2 pos lpos kpos : Pos} (tb : TE) (sc : Scope) (hsc : X.env.scope = sc)
    (hcalm : X.calm = true) (hr : Room (k0 + 3) X.A) (S : NScope N [x] fr scope) (TB : TabB X.base X.mg c P) (hcode : X.env.code = .ref c) (hmT : (P, X.env.qual ++ "<lambda>") ∈ T) (hu : ∀ p ∈ T, p.1 = P → p.2 = X.env.qual ++ "<lambda>")
    (hdef : defaultsOf params X.env = ([], [])) (hfree' : ∀ y ∈ scope.names, y.2 = .free → sc.names.lookup y.1 = some .cell ∨ sc.names.lookup y.1 = some .free) (hfr : ∀ y ∈ fr, (y, NameKind.free) ∈ scope.names) (hjs : js.map (fun j => X.N[j]?) = fr.map some)
    (hbind : ∀ (q : Str) (cl : List (Str × Addr)) (pm cv ctv u : Value), bindArgs (PySem.W.kla_fn "<lambda>" q params body scope cl pm cv ctv) ⟨[u], []⟩ = pure [(x, u)])
    (hgs : Gl X "sorted") (hms : X.mg "sorted" = none) (hgr : Gl X "range") (hmr : X.mg "range" = none) (ha : PE X e te)
    (hbody : ∀ (A : Around) (outer : List Env) (s : Shared) (H : Hp) (f c' : Addr), Room k0 (A.deeper (envF (lamF (X.env.qual ++ "<lambda>") params scope X.env.cells c') f s.heap.objs.size)) →
      PE (ncx L2.CX0 X.prog X.w X.K X.mg X.base N (lamF (X.env.qual ++ "<lambda>") params scope X.env.cells c') f A outer s H L2.E0) body tb)
    (na : starEach [e] X.env = (false, eval e X.env) :: starEach [] X.env := by rfl) :
    PE X (.Call (.Name "sorted" p) [.Call (.Name "range" p1) [e] [] p2] [⟨some "key", .Lambda params body scope lpos, kpos⟩] pos) (tSortLam T N js te tb) := by
  have hfree : ∀ y ∈ scope.names, y.2 = .free → X.env.scope.names.lookup y.1 = some .cell ∨ X.env.scope.names.lookup y.1 = some .free := by
    rw [hsc]
    exact hfree'
  refine ⟨fun pins s σ H Q I h => ?_⟩
  refine wpAny_Call_Name_kw (ld_blt I hgs hms (u := .builtin "sorted") (by decide +kernel) ?_ (by decide) (by decide))
  refine PyProof.Rows.callWith_kw (args_cons (thn (range_ours hgr hmr ha I h na) fun v s1 ⟨r, z, t, u, w, H1, ev, hR, I1, fr1, n, ez, hn, hT, q⟩ => args_nil ?_) rfl) rfl rfl rfl rfl
  subst ev
  subst ez
  obtain ⟨o, hro, hdata⟩ : ∃ o, s1.heap.get? r = some o ∧ ∀ v, o.data ≠ .cell v := ⟨_, hR, fun v z => by cases z⟩
  have I1' := I1.pinned (fp := [r]) (fun b hb => by have : b = r := by simpa using hb
                                                    rw [this]; exact fr1) (fun b hb => by have : b = r := by simpa using hb
                                                                                          rw [this]; exact ⟨o, hro, hdata⟩)
  show wpAny _ _ (evalAll ((do let v ← eval (.Lambda params body scope lpos) X.env; standAt pos; pure v) :: (backToKw pos (keywordEach [] X.env)).map (·.2))) _ _ s1
  refine wpAny_evalAll_cons (wpAny_bind (lam_make2 I1' TB hcode hmT hu hT hdef (fun y hy e => (hfree y hy e).elim (fun z => I1.ok.has _ (.inl z)) fun z => I1.ok.has _ (.inr z)) fun f c' pm ctv H2 s2 I2 eN T2 hf hfn hfr2 hco => wpAny_bind (wpAny_standAt (wpAny_pure ?_))))
  refine wpAny_evalAll_nil ?_
  have hR2 : IsRange s2.heap r 0 (n : Int) 1 t u w := by
    have := (I2.pin (r, o) (List.mem_append_right _ (List.mem_append_right _ (mem_pinsAt (by simp) hro)))).1
    rw [hR] at hro
    cases hro
    exact this
  obtain ⟨key, hk, hq⟩ := q H2 eN T2
  exact sorted_lam (q := X.env.qual ++ "<lambda>") I2.unpinned hcalm hr S hR2 hn hf hfn hfr2 hco (fun u => hbind _ _ _ _ _ u) (fun ok => Caps.made ok hfree hfr hjs) (fun A outer s H hr2 => hbody A outer s H f c' hr2) hk fun H3 p s3 hp => hq H3 p s3 hp
end
end KeyL
end
section
set_option Elab.async false
set_option linter.all false
set_option maxRecDepth 100000
set_option maxHeartbeats 4000000
namespace KeyL
open PySem PySem.Spec PySem.Calls PyProof.Rows L2
section
variable {X : Cx}
/-! ### the greatest of a dict's values -/
/-- the ints ns are the dict's values -/
def ValsOf (H : Hp) (a : Addr) (ns : List Int) : Prop := ∃ kvs, H a = some (.dK kvs) ∧ kvs.map (·.2) = ns.map V.int
theorem view_walk {pins : List (Addr × Obj)} {σ : L2.St} {H : Hp} {s : Shared} {a v : Addr} {ns : List Int} {E : Value → Shared → Prop} {Q : Value → Shared → Prop} (I : Inv X pins σ H s) (hc : X.calm = true) (hv : s.heap.get? v = some { cls := .type "dict_values", data := .fields #[.ref a] }) (D : ValsOf H a ns) (h0 : 0 < ns.length)
    (fin : ∀ m t h' tk, m ∈ ns → (∀ y ∈ ns, y ≤ m) → (∀ b o, s.heap.get? b = some o → h'.get? b = some o) → Q (.int m t) { s with heap := h', toks := tk }) :
    wpAny (model X.prog X.w) X.A (call (.builtin "max") [.ref v]) Q E s := by
  obtain ⟨kvs, hd, hns⟩ := D
  obtain ⟨_, _, vs, rel, dof⟩ := dk_of I.hok hd
  obtain ⟨ep, dat⟩ := dof.dictAt
  obtain ⟨od, es, ho, _⟩ := id dat
  have len : vs.length = ns.length := by
    have := congrArg List.length hns
    rw [List.length_map, List.length_map] at this
    exact (KV.length rel).symm.trans this
  have value : ∀ (i : Nat) (u : Value), (∃ k, vs[i]? = some (k, u)) → ∃ t, u = Value.int (ns.getD i 0) t := by
    rintro i u ⟨k, hk⟩
    obtain ⟨x, g1, g2⟩ := KV.at' rel hk
    have g3 : (ns.map V.int)[i]? = some x := by
      rw [← hns, List.getElem?_map, g1]
      rfl
    rw [List.getElem?_map] at g3
    obtain ⟨z, hz, rfl⟩ := Option.map_eq_some_iff.mp g3
    rw [List.getD_eq_getElem?_getD, hz]
    exact g2
  have va : v < s.heap.objs.size := Heap.lt_size hv
  have aa : a < s.heap.objs.size := Heap.lt_size ho
  refine call_max_walk (wpAny_pyIter_values (v := v) (d := a) ⟨_, hv, rfl, rfl⟩ dat ?_)
  refine ⟨_, _, _, _, _, _, _, rfl, Walks.dictValues (knd := mixKind X.prog X.w) (A := X.A.in1) (I.ok.hd hc) s.heap.objs.size a (Nat.ne_of_lt aa) vs ep, ⟨⟨_, Heap.get?_push_size _ rfl, rfl, rfl⟩, dat.keep fun b u e => Heap.get?_push_of_some _ e⟩, fun b hb => ?_, by rw [len]; exact h0, CmpOf.ints_gt (fun i => ns.getD i 0) value, fun u h' tk hP keep => ?_⟩
  · show b < (s.heap.push _).objs.size
    rw [Heap.size_push]
    rcases List.mem_cons.mp hb with rfl | hb
    · exact Nat.lt_succ_self _
    · rw [List.mem_singleton.mp hb]
      exact Nat.lt_succ_of_lt aa
  · obtain ⟨t, rfl⟩ := value _ u hP
    obtain ⟨b1, b2⟩ := argBest_gt (fun i => ns.getD i 0) (vs.length - 1)
    have at_ : ∀ i, i < ns.length → ns.getD i 0 ∈ ns := fun i hi => by
      rw [List.getD_eq_getElem?_getD, List.getElem?_eq_getElem hi]
      exact List.getElem_mem hi
    refine fin _ t h' tk (at_ _ (by omega)) (fun y hy => ?_) fun b o e => keep b o (fun z => ?_) (Heap.get?_push_of_some _ e)
    · obtain ⟨i, hi, rfl⟩ := List.mem_iff_getElem.mp hy
      have := b2 i (by omega)
      rw [List.getD_eq_getElem?_getD, List.getElem?_eq_getElem hi] at this
      exact this
    · have := Heap.lt_size e
      rw [List.mem_singleton.mp z] at this
      exact Nat.lt_irrefl _ this
def tMaxVals (td : TE) : TE := fun σ H Q => td σ H fun x H1 => ∃ a ns, x = V.ref a ∧ ValsOf H1 a ns ∧ 0 < ns.length ∧ ∀ m, m ∈ ns → (∀ y ∈ ns, y ≤ m) → Q (.int m) H1
theorem pe_maxVals {o : Expr} {p pos apos mpos : Pos} {td : TE} (hc : X.calm = true) (hg : Gl X "max") (hm : X.mg "max" = none) (hd : PE X o td) (hb : attributeBase o "values" X.env (eval o X.env) = eval o X.env := by rfl) (hl : (apos.endLine == mpos.line) = true := by rfl)
    (hs : starEach [Expr.Call (.Attribute o "values" apos) [] [] mpos] X.env = [(false, eval (Expr.Call (.Attribute o "values" apos) [] [] mpos) X.env)] := by rfl) : PE X (.Call (.Name "max" p) [.Call (.Attribute o "values" apos) [] [] mpos] [] pos) (tMaxVals td) := by
  refine ⟨fun pins s σ H Q I h => wpAny_Call_Name_kw (ld_blt I hg hm (u := .builtin "max") (by decide +kernel) ?_ (by decide) (by decide))⟩
  rw [hs]
  refine PySem.callWith_builtin1 (wpAny_Call_method0_late hb hl (thn (hd.run pins s σ H _ I h) fun u s1 ⟨x, H1, I1, r1, a, ns, ex, D, h0, q⟩ => ?_))
  subst ex
  obtain rfl : u = Value.ref a := r1
  obtain ⟨kvs, ha, hns⟩ := id D
  obtain ⟨_, hsys, vs, rel, dof⟩ := dk_of I1.hok ha
  obtain ⟨ob, es, ho, ex, _⟩ := id dof.dictAt.choose_spec
  refine ⟨"dict", "dict.values", F.plainAttrs_dict, F.slot_dict_values, F.type_dict_values, ⟨ob, ho, ex.1⟩, fun b e => ?_, Calls.callWith_builtin rfl (PySem.evalArgs_none ?_)⟩
  · cases e
    exact ⟨ob, ho, ex.2.1⟩
  refine call_meetsIn F.slot_dict_values ⟨ob, ho, ex.1⟩ F.entry_dict_values (F.args_dict_values_1 _) (meets_dict_values (mixKind X.prog X.w) a hsys) ⟨⟨vs, dof⟩, ?_⟩
  have I2 : Inv X pins σ H1 { s1 with heap := s1.heap.push { cls := .type "dict_values", data := .fields #[.ref a] } } := I1.kept (t' := s1.toks) fun b u e => Heap.get?_push_of_some _ e
  exact view_walk I2 hc (Heap.get?_push_size _ rfl) D h0 fun m t h' tk hm hle keep => ⟨.int m, H1, I2.kept keep, ⟨t, rfl⟩, q m hm hle⟩
/-! ### a thing just told, read from now on -/
def tFrz (t : TE) : TE := fun σ H Q => t σ H fun x H1 => ∃ d u, x = V.ref d ∧ H1 d = some u ∧ Mut (some u) ∧ ∀ o, Q x (upd H1 d (.frz o u))
theorem pe_frz {e : Expr} {t : TE} (h : PE X e t) : PE X e (tFrz t) := by
  refine ⟨fun pins s σ H Q I hw => thn (h.run pins s σ H _ I hw) fun v s1 ⟨x, H1, I1, r, d, u, ex, hd, mu, q⟩ => ?_⟩
  obtain ⟨o, I2⟩ := I1.lock hd mu
  exact ⟨x, _, I2, r, q o⟩
/-! ### xs[i], by values -/
theorem get_list : PGet X fun o i H Q => ∃ (p : Addr) (xs : List V) (k : Nat) (z : V), o = .ref p ∧ i = .int (k : Int) ∧ H p = some (.lst xs) ∧ xs[k]? = some z ∧ Q z H := by
  intro pins s σ H o i ov iv Q I ro ri h
  obtain ⟨p, xs, k, z, rfl, rfl, hp, hz, q⟩ := h
  cases ro
  obtain ⟨t, rfl⟩ := ri
  obtain ⟨its, r, pl, small⟩ := I.list (SqL.of (K := X.K) hp)
  obtain ⟨w, ew, rw'⟩ := r.get hz
  have k1 : k < xs.length := (List.getElem?_eq_some_iff.mp hz).1
  have big := line63
  have kn : ((k : Int)).toNat = k := Int.toNat_natCast k
  exact wpAny_getItem_list pl.isList (Int.natCast_nonneg k) (by omega) (by rw [kn]; simpa using ew) ⟨z, H, I, rw', q⟩
/-! ### how many there are in a list of ints, each counted once -/
theorem met_len (val : Nat → Int) : ∀ i, (firstMet val i).length = ((List.range i).map val).eraseDups.length
  | 0 => rfl
  | i + 1 => by
    have ih := met_len val i
    have any := firstMet_any val i (val i)
    rw [firstMet_succ, List.range_succ, List.map_append, List.eraseDups_append, List.length_append, ← ih]
    unfold step_dedup
    rw [any]
    have one : ([val i].removeAll ((List.range i).map val)).eraseDups.length = if ((List.range i).map val).any (· == val i) = true then 0 else 1 := by
      have e : [val i].removeAll ((List.range i).map val) = if ((List.range i).map val).any (· == val i) = true then [] else [val i] := by
        show List.filter _ [val i] = _
        rw [List.filter_cons, List.filter_nil]
        have : ((List.range i).map val).elem (val i) = ((List.range i).map val).any (· == val i) := by
          rw [Bool.eq_iff_iff, List.elem_iff, List.any_eq_true]
          constructor
          · exact fun h => ⟨_, h, by simp⟩
          · rintro ⟨x, hx, h⟩
            rw [eq_of_beq h] at hx
            exact hx
        rw [this]
        cases ((List.range i).map val).any (· == val i) with
        | true => rfl
        | false => rfl
      rw [e]
      split
      · rfl
      · rfl
    show _ = _ + ([val i].removeAll ((List.range i).map val)).eraseDups.length
    rw [one]
    split
    · rfl
    · rw [List.length_append]
      rfl
theorem met_all (ns : List Int) : (firstMet (fun i => ns.getD i 0) ns.length).length = ns.eraseDups.length := by
  rw [met_len]
  have : (List.range ns.length).map (fun i => ns.getD i 0) = ns := by
    refine List.ext_getElem (by rw [List.length_map, List.length_range]) fun j h1 h2 => ?_
    simp [List.getD_eq_getElem?_getD, h2]
  rw [this]
/-- len(set(xs)), xs a list of ints -/
def tLenSetI (K : PySem.W.Frag) (ta : TE) : TE := fun σ H Q => ta σ H fun x H1 => ∃ l, ∃ ns : List Int, x = .ref l ∧ SqL K H1 l (ns.map V.int) ∧ ns.length ≤ 4000 ∧ Q (.int ns.eraseDups.length) H1
theorem pe_lenSetI {a : Expr} {ta : TE} {p q pos pos' : Pos} (hc : X.calm = true) (hg : Gl X "len") (hm : X.mg "len" = none) (hgs : Gl X "set") (hms : X.mg "set" = none) (ha : PE X a ta)
    (na : starEach [a] X.env = (false, eval a X.env) :: starEach [] X.env := by rfl) : PE X (.Call (.Name "len" p) [.Call (.Name "set" q) [a] [] pos'] [] pos) (tLenSetI X.K ta) := by
  refine ⟨fun pins s σ H Q I h => Call_ (ld_blt I hg hm boot_len (PyProof.Rows.callWith_builtin1 (PyProof.Rows.args_cons (Call_ (ld_blt I hgs hms boot_set (PyProof.Rows.callWith_type1 (PyProof.Rows.args_cons (thn (ha.run pins s σ H _ I h) fun v s1 ⟨x, H1, I1, r1, l, ns, ex, hl, hz, k⟩ => PyProof.Rows.args_nil ?_) na) na rfl))) rfl) rfl rfl))⟩
  subst ex
  cases r1
  obtain ⟨its, r, pl, small⟩ := I1.list hl
  have sz : its.toArray.size = ns.length := by
    rw [List.size_toArray, ← r.length, List.length_map]
  refine call_set_list (I1.ok.hd hc) pl.isList (by simpa using r.ints) (by rw [sz]; show ns.length + 1 < 4096; omega) fun h' tk hS keep => PyProof.Rows.args_nil ?_
  rw [sz, met_all] at hS
  obtain ⟨o, es, ep, t, ho, hex, hd, _, _, _, hf, hn⟩ := hS
  have le : ns.eraseDups.length ≤ ns.length := by
    rw [← met_all]
    exact firstMet_length_le _ _
  refine call_len_set ho hex hd hf (by rw [hn]; omega) ⟨.int ns.eraseDups.length, H1, (I1.kept (t' := tk) fun b o e => keep b o (Heap.lt_size e) e).tok _, ⟨_, by rw [hn]⟩, k⟩
end
end KeyL
end
section
set_option Elab.async false
set_option linter.all false
set_option maxRecDepth 100000
set_option maxHeartbeats 4000000
namespace KeyL
open PySem PySem.Spec PyProof.Rows L2
/-- a def stands at f and keeps the promise sp -/
def Cal (P : Program) (w : World) (K : PySem.W.Frag) (mg : Str → Option Value) (base : Heap) (k : Nat) (f : Addr) (sp : Sp) : Prop :=
  ∃ fd ps, FnOk P w K mg base L2.CX0 k f fd ps sp ∧ PySem.W.keepIn K (.ref f) = true ∧ Binds K fd ps []
/-- an expression gives a def, which is called -/
def tCallV (P : Program) (w : World) (K : PySem.W.Frag) (mg : Str → Option Value) (base : Heap) (k : Nat) (E : XK) (tf : TE) (t : TA) : TE := fun σ H Q => tf σ H fun y H1 => ∃ f sp, y = .ref f ∧ Cal P w K mg base k f sp ∧ t σ H1 fun vs H2 => sp vs H2 Q E
theorem pe_callV {X : Cx} {k : Nat} {E : XK} {fe e : Expr} {es : List Expr} {tf : TE} {t : TA} {pos : Pos} (hr : Room k X.A) (hx : Passes L2.CX0 X E) (hf : PE X fe tf) (ha : PA X (e :: es) t)
    (ht : eval (.Call fe (e :: es) [] pos) X.env = (do callWith pos (← eval fe X.env) [] (backTo pos (starEach (e :: es) X.env)) (backToKw pos (keywordEach [] X.env))) := by rfl)
    (he : starEach (e :: es) X.env = (false, eval e X.env) :: starEach es X.env := by rfl) (hpl : (backTo pos (starEach es X.env)).any (·.1) = false := by rfl) : PE X (.Call fe (e :: es) [] pos) (tCallV X.prog X.w X.K X.mg X.base k E tf t) := by
  refine ⟨fun pins s σ H Q I h => Call_ (thn (hf.run pins s σ H _ I h) fun u s1 ⟨y, H1, I1, ry, f, sp, ey, ⟨fd, ps, F, hk, hb⟩, q⟩ => ?_) ht⟩
  subst ey
  obtain rfl : u = Value.ref f := ry
  exact PySem.W.callWith_K (h₀ := X.base) I1.ok.mod.kin hk (thn (ha.run pos pins s1 σ H1 _ I1 q) fun us s2 ⟨vs, H2, I2, r, q2⟩ => ⟨I2.kIn, run_fn F hr hb .nil hx I2 r (by rw [List.append_nil]; exact q2)⟩) he hpl
end KeyL
end
section
set_option Elab.async false
set_option linter.all false
set_option maxRecDepth 100000
set_option maxHeartbeats 4000000
namespace KeyL
open PySem PySem.Spec PyProof.Rows L2 LamX
open PySem.W (WData Codec OpenSpec Well WellAll ReadsW ReadsAllW)
/-! ### an asked def that may come to a lambda: tables of code objects -/
section
variable {K : PySem.W.Frag} {H H' : Hp}
theorem rd_ext (e : ∀ b o, H b = some o → H' b = some o) {a : Addr} {o : HO} (h : Rd H a o) : Rd H' a o := by
  rcases h with h | ⟨ob, h⟩
  · exact .inl (e _ _ h)
  · exact .inr ⟨ob, e _ _ h⟩
theorem sqL_ext (e : ∀ b o, H b = some o → H' b = some o) {a : Addr} {xs : List V} (h : SqL K H a xs) : SqL K H' a xs := h.elim (fun q => .inl (rd_ext e q)) .inr
theorem sqT_ext (e : ∀ b o, H b = some o → H' b = some o) {a : Addr} {xs : List V} (h : SqT K H a xs) : SqT K H' a xs := h.elim (fun q => .inl (rd_ext e q)) .inr
mutual
theorem dw_ext (e : ∀ b o, H b = some o → H' b = some o) : ∀ (d : WData) (v : V), Dw K H v d → Dw K H' v d
  | .none, _, x => by cases x; exact .non
  | .bool b, _, x => by cases x; exact .bl b
  | .int i, _, x => by cases x; exact .int i
  | .str s, _, x => by cases x; exact .str s
  | .bytes b, _, x => by cases x; exact .byt _
  | .list ds, _, x => by
    cases x with
    | lst h1 h2 => exact .lst (sqL_ext e h1) (dwAll_ext e ds _ h2)
  | .tuple ds, _, x => by
    cases x with
    | tup h1 h2 => exact .tup (sqT_ext e h1) (dwAll_ext e ds _ h2)
  | .float _, _, x => nomatch x
  | .dict _, _, x => nomatch x
  | .bytearray _, _, x => nomatch x
  | .set _, _, x => nomatch x
  | .frozenset _, _, x => nomatch x
  | .obj _ _, _, x => nomatch x
theorem dwAll_ext (e : ∀ b o, H b = some o → H' b = some o) : ∀ (ds : List WData) (vs : List V), DwAll K H vs ds → DwAll K H' vs ds
  | [], _, x => by cases x; exact .nil
  | d :: ds, _, x => by
    cases x with
    | cons h1 h2 => exact .cons (dw_ext e d _ h1) (dwAll_ext e ds _ h2)
end
end
/-- nothing but sequences and empty tables is told of -/
def Few (H : Hp) (h : Heap) : Prop := ∀ b u, H b = some u → ∃ o, h.get? b = some o ∧ ((∃ vs n, o.data = .seq vs n) ∨ o.data = .fields #[])
theorem few_free {H : Hp} {h : Heap} (f : Few H h) {b : Addr} {o : Obj} (e : h.get? b = some o) (n1 : ∀ vs n, o.data ≠ .seq vs n) (n2 : o.data ≠ .fields #[]) : H b = none := by
  cases t : H b with
  | none => rfl
  | some u =>
    obtain ⟨p, ep, k⟩ := f b u t
    rw [e] at ep
    cases ep
    rcases k with ⟨vs, n, k⟩ | k
    · exact (n1 _ _ k).elim
    · exact (n2 k).elim
/-- a names' dict stands beneath what is told -/
theorem few_ns {H : Hp} {h : Heap} (f : Few H h) {b : Addr} {m : Str → Option Value} (n : h.Ns b m) : (hidT h H).Ns b m := by
  obtain ⟨o, es, ep, e, d, rest⟩ := n
  refine ⟨o, es, ep, hidT_get e (few_free f e ?_ ?_), d, rest⟩
  · rw [d]
    exact fun _ _ z => by cases z
  · rw [d]
    exact fun z => by cases z
/-- a code object that has a table, and the builtins' module: both beneath -/
theorem few_tabB {H : Hp} {h : Heap} {mg : Str → Option Value} {c P : Addr} (f : Few H h) (hmg : h.Ns mainGlobals mg) (C : PySem.W.CodeHd h c P) (hP : h.get? P = some { cls := .none, data := .fields #[] })
    (hbm : ∃ (m : Addr) (o : Obj), mg "__builtins__" = some (.ref m) ∧ m ≠ builtinsNs ∧ h.get? m = some o ∧ o.cls = .type "module" ∧ o.dict = some builtinsNs ∧ o.data = .plain) : TabB (hidT h H) mg c P where
  code := by
    obtain ⟨o, vs, x1, x2, x3, x4, x5, x6, x7, e, y1, y2, y3, rest⟩ := C
    have z : H c = none := by
      refine few_free f e ?_ ?_
      · rw [y2]
        exact fun _ _ q => by cases q
      · rw [y2]
        intro q
        cases q
        simp at y3
    exact ⟨o, vs, x1, x2, x3, x4, x5, x6, x7, hidT_get e z, y1, y2, y3, rest⟩
  bm := by
    obtain ⟨m, o, g, nb, e, k1, k2, k3⟩ := hbm
    have z : H m = none := by
      refine few_free f e ?_ ?_
      · rw [k3]
        exact fun _ _ q => by cases q
      · rw [k3]
        exact fun q => by cases q
    refine ⟨m, o, g, nb, ?_, ?_, hidT_get e z, k1, k2, k3⟩
    · intro q
      subst q
      obtain ⟨o', es, ep, e', d, _⟩ := hmg
      rw [e] at e'
      cases e'
      rw [k3] at d
      cases d
    · intro q
      subst q
      rw [hP] at e
      cases e
      cases k3
  gP := by
    intro q
    subst q
    obtain ⟨o', es, ep, e', d, _⟩ := hmg
    rw [hP] at e'
    cases e'
    cases d
/-- no empty table is in the written part -/
def noMt (K : PySem.W.Frag) : Bool := K.all fun p => match p.2.cls, p.2.data with
  | .none, .fields vs => !vs.isEmpty
  | _, _ => true
theorem noMt_none {K : PySem.W.Frag} {h : Heap} {P : Addr} (X : K.In h) (n : noMt K = true) (e : h.get? P = some { cls := .none, data := .fields #[] }) : K.lookup P = none := by
  cases q : K.lookup P with
  | none => rfl
  | some o =>
    have e2 := X _ _ q
    rw [e] at e2
    have e3 := Option.some.inj e2
    have h2 := List.all_eq_true.mp n (P, o) (PySem.W.mem_of_lookupK q)
    rw [← e3] at h2
    cases h2
/-- what the top has laid of its defs -/
abbrev TabF (q : Program) (mg : Str → Option Value) (h : Heap) : Prop := ∀ d ∈ recsOf q, ∃ a o fd c P, mg d.name = some (.ref a) ∧ h.get? a = some o ∧ o.data = .func fd ∧ fd.code = .ref c ∧ h.IsCode c P #[] ∧ h.TableAt c P #[]
/-- what is told of arguments, and the tables at ts -/
def andTabs (ts : List Addr) (H : Hp) : Hp := fun b => if b ∈ ts then some (.tbl #[]) else H b
theorem andTabs_in {ts : List Addr} {H : Hp} {b : Addr} (h : b ∈ ts) : andTabs ts H b = some (.tbl #[]) := if_pos h
theorem andTabs_out {ts : List Addr} {H : Hp} {b : Addr} (h : b ∉ ts) : andTabs ts H b = H b := if_neg h
theorem walk_specT {r : OpenSpec} {k : Nat} {q : Program} {loose : List Str} {XP : (Str → Option Value) → Heap → Prop} {YP : World → Heap → Prop} {d : DefRec} {K : Params → PySem.W.Frag} {CX : CXT} {ps : List Str} {sp : List (Addr × Addr) → PySem.W.Frag → Sp}
    (hwell : r.wellSaid = true) (hlen : r.args.length = ps.length) (hr : Room k callerA)
    (hY : ∀ (w : World) (h : Heap), YP w h → (K w.params).In h) (hmt : ∀ Pm, noMt (K Pm) = true)
    (F : ∀ (w : World) (mg : Str → Option Value) (fa : Addr) (h : Heap), YP w h → (K w.params).In h → h.Ns mainGlobals mg → mg d.name = some (.ref fa) → TabF q mg h →
      ∃ (fd : FuncData) (cs : List (Addr × Addr)), (∀ p ∈ cs, PySem.W.CodeHd h p.1 p.2 ∧ h.get? p.2 = some { cls := .none, data := .fields #[] }) ∧ (∀ (s : Shared) (us : List Value), us.length = ps.length → BindsTo s fd ⟨us, []⟩ (ps.zip us)) ∧
        ∀ base : Heap, (K w.params).In base → base.Ns mainGlobals mg → (∀ p ∈ cs, TabB base mg p.1 p.2) → FnOk r.prog w (K w.params) mg base CX k fa fd ps (sp cs (K w.params)))
    (hsp : ∀ (cs : List (Addr × Addr)) (K : PySem.W.Frag) (H : Hp) (xs : List V) (a : Codec.denoteAll r.args), (∀ p ∈ cs, H p.2 = some (.tbl #[])) → Codec.withinAll r.args a = true → Codec.app r.args r.asked a = true → DwAll K H xs (Codec.encAll r.args a) →
      sp cs K xs H (fun v H' => Dw K H' v (r.ret.enc (Codec.app r.args r.f a))) fun _ _ _ => False)
    (hCX : ∀ (H : Hp) (s e s'), CX [] H s (fun _ _ _ => False) e s' → False) : PySem.W.WalkOS q loose XP YP r d [] fun f vs => PySem.call f vs := by
  intro w st s mg mb G Y fa fo pm cd dc dV kV _ _ _ _ hmg hgen args vals _ hpre hlay _ hwell2 _
  obtain ⟨a, dec, hask⟩ := PySem.W.os_pre_some hpre
  obtain ⟨rfl, hwi⟩ := Codec.encAll_of_decAll r.args args a dec
  have T := G.T
  have KX := hY w s.heap Y
  obtain ⟨fd, cs, hC, hbind, hF⟩ := F w mg fa s.heap Y KX T.g hmg T.tab
  obtain ⟨A, okA, arA⟩ := area_all _ _ hwell2 (pl_encAll _ _) (layable_weight hlay)
  -- the tables' places
  have tabs : ∀ b, b ∈ cs.map (·.2) → ∃ p ∈ cs, p.2 = b := fun b hb => List.mem_map.mp hb
  have place : ∀ p, p ∈ cs → p.2 ∈ cs.map (·.2) := fun p hp => List.mem_map_of_mem hp
  have empty : ∀ b, b ∈ cs.map (·.2) → s.heap.get? b = some { cls := .none, data := .fields #[] } := fun b hb => by
    obtain ⟨p, hp, rfl⟩ := tabs b hb
    exact (hC p hp).2
  -- what stands at an argument's place
  have seqs : ∀ b u, argH (K w.params) s.heap A b = some u → ∃ o, s.heap.get? b = some o ∧ (∃ vs n, o.data = .seq vs n) ∧ ∃ u', u = .frz o u' := fun b u e => by
    obtain ⟨_, vs, _, _, side⟩ := argH_is arA e
    rcases side with side | side
    · exact ⟨_, side.1, ⟨_, _, rfl⟩, _, side.2⟩
    · exact ⟨_, side.1, ⟨_, _, rfl⟩, _, side.2⟩
  have apart : ∀ b u, argH (K w.params) s.heap A b = some u → b ∉ cs.map (·.2) := fun b u e hb => by
    obtain ⟨o, e1, ⟨vs, n, d⟩, _⟩ := seqs b u e
    rw [empty b hb] at e1
    cases e1
    cases d
  have told : ∀ b u, andTabs (cs.map (·.2)) (argH (K w.params) s.heap A) b = some u → (b ∈ cs.map (·.2) ∧ u = .tbl #[]) ∨ (b ∉ cs.map (·.2) ∧ argH (K w.params) s.heap A b = some u) := fun b u e => by
    by_cases hb : b ∈ cs.map (·.2)
    · rw [andTabs_in hb] at e
      exact .inl ⟨hb, (Option.some.inj e).symm⟩
    · rw [andTabs_out hb] at e
      exact .inr ⟨hb, e⟩
  have wide : ∀ b u, argH (K w.params) s.heap A b = some u → andTabs (cs.map (·.2)) (argH (K w.params) s.heap A) b = some u := fun b u e => (andTabs_out (apart b u e)).trans e
  have atP : ∀ p ∈ cs, andTabs (cs.map (·.2)) (argH (K w.params) s.heap A) p.2 = some (.tbl #[]) := fun p hp => andTabs_in (place p hp)
  have data := dwAll_ext wide _ _ (dw_all KX arA _ _ hwell2 (pl_encAll _ _) okA)
  have good : HOk r.prog w (andTabs (cs.map (·.2)) (argH (K w.params) s.heap A)) s.heap := fun b u e => by
    rcases told b u e with ⟨hb, rfl⟩ | ⟨hb, e'⟩
    · exact empty b hb
    · exact (argH_ok (P := r.prog) (w := w) arA b u e').stay (fun _ _ _ z => z) (fun c z => wide c _ z) fun c _ z => wide c _ z
  have few : Few (andTabs (cs.map (·.2)) (argH (K w.params) s.heap A)) s.heap := fun b u e => by
    rcases told b u e with ⟨hb, _⟩ | ⟨_, e'⟩
    · exact ⟨_, empty b hb, .inr rfl⟩
    · obtain ⟨o, e1, d, _⟩ := seqs b u e'
      exact ⟨o, e1, .inl d⟩
  have frz : ∀ b u, andTabs (cs.map (·.2)) (argH (K w.params) s.heap A) b = some u → b ∉ cs.map (·.2) → ∃ o u', s.heap.get? b = some o ∧ u = .frz o u' := fun b u e hb => by
    rcases told b u e with ⟨z, _⟩ | ⟨_, e'⟩
    · exact (hb z).elim
    · obtain ⟨o, e1, _, u', e2⟩ := seqs b u e'
      exact ⟨o, u', e1, e2⟩
  have free : ∀ b o, (K w.params).lookup b = some o → andTabs (cs.map (·.2)) (argH (K w.params) s.heap A) b = none := fun b o e => by
    cases t : andTabs (cs.map (·.2)) (argH (K w.params) s.heap A) b with
    | none => rfl
    | some u =>
      rcases told b u t with ⟨hb, _⟩ | ⟨_, e'⟩
      · have := noMt_none KX (hmt _) (empty b hb)
        rw [e] at this
        cases this
      · have := (argH_is arA e').1
        rw [e] at this
        cases this
  generalize andTabs (cs.map (·.2)) (argH (K w.params) s.heap A) = H at atP data good few frz free
  have inB : (K w.params).In (hidT s.heap H) := fun b o e => hidT_get (KX b o e) (free b o e)
  have md : Mod (K w.params) mg (hidT s.heap H) := by
    obtain ⟨mc, n1, n2⟩ := T.nolimit
    exact ⟨inB, few_ns few T.g, ⟨mb, few_ns few T.b, T.builtins⟩, mc, few_ns few n1, n2⟩
  have env : Env0 r.prog w (K w.params) mg (hidT s.heap H) callerA [] s H :=
    { frames := rfl, mod := md, bs := fun b o e => of_hidT e, bsz := Nat.le_of_eq (hidT_size _ _), funs := trivial, frf := fun b hb => (List.not_mem_nil hb).elim, hok := good, bare := .of_eq hgen }
  have own := hF (hidT s.heap H) inB (few_ns few T.g) fun p hp => few_tabB few T.g (hC p hp).1 (hC p hp).2 T.bmain
  have hl : vals.length = ps.length := (wellAll_len hwell2).trans ((encAll_len _ _).trans hlen)
  refine PySem.W.enter_call (codeAny_mono (own.run callerA [] s H ⟨vals, []⟩ vals (vals.map toV) _ _ hr env (hbind s vals hl) (vals_toV okA) (hsp cs _ H _ a atP hwi hask data)) fun fin s' end_ => ?_)
  match fin, end_ with
  | .error e, end_ => exact (hCX _ _ _ _ end_).elim
  | .ok .next, end_ => exact end_.elim
  | .ok .brk, end_ => exact end_.elim
  | .ok .cont, end_ => exact end_.elim
  | .ok (.ret u), ⟨v, H', os, bare, un, good', rv, dv⟩ =>
    have stays : ∀ b o, b ∉ cs.map (·.2) → s.heap.get? b = some o → s'.heap.get? b = some o := fun b o hb e => by
      cases t : H b with
      | none => exact un.keep b o e t (List.not_mem_nil) (List.not_mem_nil)
      | some x =>
        obtain ⟨o', x', e', rfl⟩ := frz b x t hb
        rw [e] at e'
        cases e'
        exact (good' b _ (un.frzs b o x' t)).1
    have grows : ∀ b, b ∈ cs.map (·.2) → ∃ more : Array Value, s'.heap.get? b = some { cls := .none, data := .fields more } := fun b hb => by
      obtain ⟨p, hp, rfl⟩ := tabs b hb
      obtain ⟨more, t⟩ := un.tbls p.2 #[] (atP p hp)
      exact ⟨_, good' p.2 _ t⟩
    have KX' : (K w.params).In s'.heap := fun b o e => stays b o (fun hb => by
      have := noMt_none KX (hmt _) (empty b hb)
      rw [e] at this
      cases this) (KX b o e)
    obtain ⟨at_, reads⟩ := Dw.reads (R := []) (cl := classAt st.heap) good' KX' _ v u dv rv
    refine ⟨.inl ⟨u, _, at_, rfl, fun _ => rfl, reads, (OpenSpec.post_iff hwell hwi _ _).mpr rfl, fun z => (by cases z)⟩, ⟨fun b o e => ?_, fun b o e => ?_⟩, os, bare⟩
    · by_cases hb : b ∈ cs.map (·.2)
      · obtain ⟨more, g⟩ := grows b hb
        obtain ⟨p, hp, rfl⟩ := tabs b hb
        rw [empty _ hb] at e
        cases e
        refine .inr (.inl ⟨((hC p hp).1.tab (hC p hp).2).isCodeTable, rfl, #[], more, rfl, ?_⟩)
        rw [Array.empty_append]
        exact g
      · exact .inl (stays b o hb e)
    · by_cases hb : b ∈ cs.map (·.2)
      · obtain ⟨more, g⟩ := grows b hb
        exact ⟨_, g⟩
      · exact ⟨o, stays b o hb e⟩
end KeyL
end
section
set_option Elab.async false
set_option linter.all false
set_option maxRecDepth 100000
set_option maxHeartbeats 4000000
namespace Off
open PySem PySem.Spec PyProof.Rows L2
def top (i : Nat) : Stmt := PySem.Challenge.pw_offerodds_s01_answers.main.body.getD i (.Pass ⟨0, 0, 0, 0⟩)
abbrev s_beats : Stmt := top 1
abbrev s_all_beaters : Stmt := top 2
abbrev s_beaters_of : Stmt := top 3
abbrev s_Fault_init : Stmt := inClass (top 5) 0
abbrev s_common_divisor : Stmt := top 7
abbrev s_lowest : Stmt := top 8
abbrev s_Held_init : Stmt := inClass (top 10) 0
abbrev s_sure_ones : Stmt := top 11
abbrev s_with_numerator : Stmt := top 12
abbrev s_item_count : Stmt := top 13
abbrev s_chance_of : Stmt := top 14
abbrev s_worlds_weight : Stmt := top 15
abbrev s_unbeaten_weight : Stmt := top 16
abbrev s_unbeaten_weights : Stmt := top 17
abbrev s_unbeaten_chance : Stmt := top 18
abbrev s_all_chances : Stmt := top 19
abbrev s_mean_unbeaten : Stmt := top 20
abbrev s_likeliest_first : Stmt := top 21
abbrev s_Token_init : Stmt := inClass (top 33) 0
abbrev s_is_letter : Stmt := top 34
abbrev s_is_digit : Stmt := top 35
abbrev s_tokens_of : Stmt := top 36
abbrev s_behind_blanks : Stmt := top 37
abbrev s_behind_remark : Stmt := top 38
abbrev s_token_at : Stmt := top 39
abbrev s_word_at : Stmt := top 40
abbrev s_word_kind : Stmt := top 41
abbrev s_number_at : Stmt := top 42
abbrev s_Told_init : Stmt := inClass (top 53) 0
abbrev s_Reader_init : Stmt := inClass (top 54) 0
abbrev s_Reader_sees : Stmt := inClass (top 54) 1
abbrev s_Reader_take : Stmt := inClass (top 54) 2
abbrev s_read_list : Stmt := top 55
abbrev s_read_measures : Stmt := top 56
abbrev s_read_measure : Stmt := top 57
abbrev s_keep_name : Stmt := top 58
abbrev s_read_items : Stmt := top 59
abbrev s_read_merits : Stmt := top 60
abbrev s_read_value : Stmt := top 61
abbrev s_is_beaten : Stmt := top 63
abbrev s_just_set_chance : Stmt := top 64
abbrev s_bit_of : Stmt := top 65
abbrev s_bits_of : Stmt := top 66
abbrev s_items_of : Stmt := top 67
abbrev s_set_weights : Stmt := top 68
abbrev s_joined_by : Stmt := top 69
abbrev s_likeliest_set : Stmt := top 70
abbrev s_count_chances : Stmt := top 71
abbrev s_is_item : Stmt := top 76
abbrev s_set_chances : Stmt := top 77
abbrev s_are_chances : Stmt := top 78
abbrev s_tell_unbeaten : Stmt := top 79
abbrev s_tell_all : Stmt := top 80
abbrev s_counted : Stmt := top 81
abbrev s_tell_mean : Stmt := top 82
abbrev s_tell_just_set : Stmt := top 83
abbrev s_tell_likely : Stmt := top 84
abbrev s_tell_top : Stmt := top 85
abbrev s_tell_given : Stmt := top 86
abbrev s_tell_counts : Stmt := top 87
abbrev s_tell : Stmt := top 89
abbrev s_Call_init : Stmt := inClass (top 94) 0
abbrev s_Desk_init : Stmt := inClass (top 95) 0
abbrev s_call_at : Stmt := top 96
abbrev s_load : Stmt := top 97
abbrev s_answer : Stmt := top 98
abbrev s_answers : Stmt := top 99
/-- a def of the top that keeps its promise -/
def Df (P : Program) (w : World) (K : PySem.W.Frag) (mg : Str → Option Value) (base : Heap) (CX : CXT) (k : Nat) (x : Str) (ps : List Str) (sp : Sp) : Prop :=
  ∃ (f : Addr) (fd : FuncData), mg x = some (.ref f) ∧ FnOk P w K mg base CX k f fd ps sp ∧ PySem.W.keepIn K (.ref f) = true ∧ Binds K fd ps []
/-- Python's own names, untouched by the program -/
structure Blt (mg : Str → Option Value) : Prop where
  len : mg "len" = none
  zip : mg "zip" = none
  enumerate : mg "enumerate" = none
  range : mg "range" = none
  tuple : mg "tuple" = none
  list : mg "list" = none
  all : mg "all" = none
  ord : mg "ord" = none
  exc : mg "Exception" = none
  any : mg "any" = none
  sum : mg "sum" = none
  max : mg "max" = none
  set : mg "set" = none
  sorted : mg "sorted" = none
theorem if_t {c : Bool} {A B : Prop} (hc : c = true) (h : A) : if c = true then A else B := by
  rw [if_pos hc]
  exact h
theorem if_f {c : Bool} {A B : Prop} (hc : c = false) (h : B) : if c = true then A else B := by
  rw [hc, if_neg Bool.false_ne_true]
  exact h
/-- all that was tracked stands, but at r -/
def Kp (r : Addr) (H H' : Hp) : Prop := ∀ b o, H b = some o → b ≠ r → H' b = some o
theorem Kp.refl {r : Addr} {H : Hp} : Kp r H H := fun _ _ h _ => h
theorem Kp.trans {r : Addr} {H1 H2 H3 : Hp} (a : Kp r H1 H2) (b : Kp r H2 H3) : Kp r H1 H3 := fun x o h n => b x o (a x o h n) n
theorem Kp.same {r : Addr} {H1 H2 : Hp} (a : Same H1 H2) : Kp r H1 H2 := fun x o h _ => a x o h
theorem same_new {H : Hp} {a : Addr} {o : HO} (h : H a = none) : Same H (upd H a o) := fun b o' e => by
  rw [upd_ne (ne_of_none e h)]
  exact e
/-- the error's dict -/
def FltAt (H : Hp) (d : Addr) (f : VaskyBase.Fault) : Prop := H d = some (.xd [("place", .int f.place), ("code", .int f.code)])
section
variable {P : Program} {w : World} {K : PySem.W.Frag} {mg : Str → Option Value} {base : Heap}
/-! ### Fault -/
/-- Fault.__init__(self, code, place), self a new error at a -/
def spFault (C : Addr) : Sp := fun vs H Q _ => ∃ (a : Addr) (c p : Int), vs = [.ref a, .int c, .int p] ∧ H a = some (exo a C none) ∧
  ∀ dx, H dx = none → dx ≠ a → Q .non (upd (upd (upd H dx (exd dx [("code", .int c)])) a (exo a C (some dx))) dx (exd dx [("place", .int p), ("code", .int c)]))
structure FaultTxt (K : PySem.W.Frag) (mg : Str → Option Value) (C fI : Addr) : Prop where
  gC : mg "Fault" = some (.ref C)
  er : ErrC K C
  vE : PySem.W.findCls K (.type "Exception") (.type "type") "__init__" = some (.val (.builtin "Exception.__init__"))
  nC : PySem.W.findIn K (.ref C) "code" = some none
  nP : PySem.W.findIn K (.ref C) "place" = some none
  iC : PySem.W.findIn K (.ref C) "__init__" = some (some (.ref fI))
  tI : PySem.W.typeIn K (.ref fI) = some (.type "function")
  xf : XfC K C
  te : PySem.W.exmOne K (.ref C) (.ref C) = some true
theorem scFault : FnScope ["self", "code", "place"] ["self", "code", "place"] (defScope s_Fault_init) := ⟨rfl, rfl, rfl, by decide +kernel, rfl, by decide +kernel, by decide +kernel⟩
theorem ok_Fault {C f : Addr} {fd : FuncData} (F : Fun K "__init__" "Fault.__init__" s_Fault_init f fd) (T : FaultTxt K mg C f) (B : Blt mg) : FnOk P w K mg base CX0 1 f fd ["self", "code", "place"] (spFault C) := by
  refine F.ok scFault (fun vs H Q E h => ?_) (fun cdv A outer s H vs Q E hr h => ⟨_, pss_cons (ps_expr (pe_einit rfl B.exc T.vE (pa_cons (pv 0) pa_nil)))
    (pss_cons (ps_eset (pv 0) (pv 1)) (pss_one (ps_eset (pv 0) (pv 2)))), ?_⟩)
  · obtain ⟨a, c, p, rfl, _⟩ := h
    rfl
  · obtain ⟨a, c, p, rfl, ha, k⟩ := h
    refine ⟨_, rfl, a, C, [], rfl, by decide, T.er, ha, ?_⟩
    refine ⟨_, rfl, _, rfl, a, C, rfl, T.er, T.nC, .inl ⟨ha, fun dx hd ne => ?_⟩⟩
    refine ⟨_, rfl, _, rfl, a, C, rfl, T.er, T.nP, .inr ⟨dx, _, upd_same, (by rw [upd_ne ne]; exact upd_same), (by show 1 ≤ 900; decide), ?_⟩⟩
    exact k dx hd ne
end
end Off
end
section
set_option Elab.async false
set_option linter.all false
set_option maxRecDepth 100000
set_option maxHeartbeats 4000000
namespace Off
open PySem PySem.Spec PyProof.Rows L2
open VaskyBase (Bytes isLetter isDigit isBlank token Tok PTok Toks)
/-- a text's bytes as values -/
def tx (b : Bytes) : List V := b.map fun c => V.int (c.toNat : Int)
theorem tx_len (b : Bytes) : (tx b).length = b.length := List.length_map ..
theorem tx_get {b : Bytes} {i : Nat} {c : UInt8} (h : b[i]? = some c) : (tx b)[i]? = some (.int (c.toNat : Int)) := by
  rw [tx, List.getElem?_map, h]
  rfl
theorem tx_at {b : Bytes} {i : Nat} {c : UInt8} (h : b[i]? = some c) : atI (tx b) (i : Int) = some (.int (c.toNat : Int)) := atI_nat (tx_get h)
section
variable {P : Program} {w : World} {K : PySem.W.Frag} {mg : Str → Option Value} {base : Heap}
theorem r_chain {a b x : Int} {i : Nat} {σ : L2.St} {H : Hp} {Q : VK} (e : σ[i]? = some (some (.int x))) (h : Q (.bl (decide (a ≤ x) && decide (x ≤ b))) H) :
    tChain (rI0 fun i j => .bl (decide (i ≤ j))) (rI0 fun i j => .bl (decide (i ≤ j))) (tC (.int a)) (tVar i) (tC (.int b)) σ H Q := by
  refine ⟨_, e, a, x, rfl, rfl, _, rfl, ?_⟩
  cases q : decide (a ≤ x) with
  | false =>
    rw [q] at h
    exact if_f rfl h
  | true =>
    rw [q] at h
    exact if_t rfl ⟨x, b, rfl, rfl, h⟩
/-! ### is_letter, is_digit -/
def spLetter : Sp := fun vs H Q _ => ∃ c : UInt8, vs = [.int (c.toNat : Int)] ∧ Q (.bl (isLetter c)) H
def spDigit : Sp := fun vs H Q _ => ∃ c : UInt8, vs = [.int (c.toNat : Int)] ∧ Q (.bl (isDigit c)) H
theorem dec_nat {a b : Nat} : decide ((a : Int) ≤ (b : Int)) = decide (a ≤ b) := decide_eq_decide.mpr Int.ofNat_le
theorem isDigit_eq (c : UInt8) : isDigit c = (decide ((48 : Int) ≤ (c.toNat : Int)) && decide ((c.toNat : Int) ≤ 57)) := by
  rw [show (48 : Int) = ((48 : Nat) : Int) from rfl, show (57 : Int) = ((57 : Nat) : Int) from rfl, dec_nat, dec_nat, isDigit, Bool.decide_and]
theorem isLetter_eq (c : UInt8) : isLetter c = (decide ((65 : Int) ≤ (c.toNat : Int)) && decide ((c.toNat : Int) ≤ 90) || decide ((97 : Int) ≤ (c.toNat : Int)) && decide ((c.toNat : Int) ≤ 122)) := by
  rw [show (65 : Int) = ((65 : Nat) : Int) from rfl, show (90 : Int) = ((90 : Nat) : Int) from rfl, show (97 : Int) = ((97 : Nat) : Int) from rfl, show (122 : Int) = ((122 : Nat) : Int) from rfl, dec_nat, dec_nat, dec_nat, dec_nat, isLetter, Bool.decide_and, Bool.decide_and]
theorem scLetter : FnScope ["byte"] ["byte"] (defScope s_is_letter) := ⟨rfl, rfl, rfl, by decide +kernel, rfl, by decide +kernel, by decide +kernel⟩
theorem ok_letter {f : Addr} {fd : FuncData} (F : Fun K "is_letter" "is_letter" s_is_letter f fd) : FnOk P w K mg base CX0 1 f fd ["byte"] spLetter := by
  refine F.ok scLetter (fun vs H Q E h => ?_) (fun cdv A outer s H vs Q E hr h => ⟨_, pss_one (ps_ret (pe_or (pe_chain op_le op_le pe_int (pv 0) pe_int) (pe_one (pe_chain op_le op_le pe_int (pv 0) pe_int)))), ?_⟩)
  · obtain ⟨c, rfl, _⟩ := h
    rfl
  · obtain ⟨c, rfl, k⟩ := h
    refine r_chain (i := 0) rfl ⟨_, rfl, ?_⟩
    rw [isLetter_eq] at k
    cases e : decide ((65 : Int) ≤ (c.toNat : Int)) && decide ((c.toNat : Int) ≤ 90) with
    | true =>
      rw [e] at k
      exact if_t rfl k
    | false =>
      rw [e] at k
      exact if_f rfl (r_chain (i := 0) rfl k)
theorem scDigit : FnScope ["byte"] ["byte"] (defScope s_is_digit) := ⟨rfl, rfl, rfl, by decide +kernel, rfl, by decide +kernel, by decide +kernel⟩
theorem ok_digit {f : Addr} {fd : FuncData} (F : Fun K "is_digit" "is_digit" s_is_digit f fd) : FnOk P w K mg base CX0 1 f fd ["byte"] spDigit := by
  refine F.ok scDigit (fun vs H Q E h => ?_) (fun cdv A outer s H vs Q E hr h => ⟨_, pss_one (ps_ret (pe_chain op_le op_le pe_int (pv 0) pe_int)), ?_⟩)
  · obtain ⟨c, rfl, _⟩ := h
    rfl
  · obtain ⟨c, rfl, k⟩ := h
    refine r_chain (i := 0) rfl ?_
    rw [isDigit_eq] at k
    exact k
/-! ### behind_remark -/
def spRemark (K : PySem.W.Frag) : Sp := fun vs H Q _ => ∃ (a : Addr) (b : Bytes) (p : Nat), vs = [.ref a, .int (p : Int)] ∧ SqL K H a (tx b) ∧
  Q (.int ((p + ((b.drop p).takeWhile (· != 10)).length : Nat) : Int)) H
theorem scRemark : FnScope ["text", "place"] ["text", "place"] (defScope s_behind_remark) := ⟨rfl, rfl, rfl, by decide +kernel, rfl, by decide +kernel, by decide +kernel⟩
theorem ok_remark {f : Addr} {fd : FuncData} (F : Fun K "behind_remark" "behind_remark" s_behind_remark f fd) (B : Blt mg) (gR : ∃ t, mg "ROW_END" = some (.int 10 t)) :
    FnOk P w K mg base CX0 1 f fd ["text", "place"] (spRemark K) := by
  obtain ⟨t, gR⟩ := gR
  refine F.ok scRemark (fun vs H Q E h => ?_) (fun cdv A outer s H vs Q E hr h => ⟨_, pss_cons (ps_while PassesOwn.never
      (PW.pt (pw_and (pt_cmpR op_lt (pv 1) (pe_callB call_len_seq (by rfl) B.len PySem.boot_len (pa_cons (pv 0) pa_nil)) (nomark _))
        (pw_and1 (pt_cmpR op_ne (pe_ix ix_list (pv 0) (pv 1) (fun _ _ => rfl)) (pe_glob (v := .int 10) rfl gR ⟨_, rfl⟩) (nomark _)))))
      (pss_one (ps_aug (i := 1) scRemark.nd rfl (.inl rfl) pe_int ip_add)))
    (pss_one (ps_ret (pv 1))), ?_⟩)
  · obtain ⟨a, b, p, rfl, _⟩ := h
    rfl
  · obtain ⟨a, b, p, rfl, hS, k⟩ := h
    refine ⟨fun m σ H' => H' = H ∧ ∃ j, j ≤ ((b.drop p).takeWhile (· != 10)).length ∧ σ = [some (.ref a), some (.int ((p + j : Nat) : Int))] ∧ m = b.length - (p + j), ⟨_, rfl, 0, Nat.zero_le _, rfl, rfl⟩, ?_⟩
    rintro m σ H' ⟨rfl, j, hj, rfl, rfl⟩
    refine ⟨_, rfl, _, rfl, a, _, rfl, .inl hS, _, _, rfl, rfl, _, rfl, ?_⟩
    rw [tx_len]
    by_cases c : p + j < b.length
    · refine if_t (decide_eq_true (by omega)) ?_
      obtain ⟨z, hz⟩ : ∃ z, b[p + j]? = some z := ⟨b[p + j], by simp [c]⟩
      have hz' : (b.drop p)[j]? = some z := by rw [List.getElem?_drop]; exact hz
      refine ⟨_, rfl, _, rfl, _, _, _, _, rfl, rfl, hS, tx_at hz, rfl, _, rfl, ?_⟩
      by_cases e : z = 10
      · subst e
        refine if_f rfl ?_
        have : j = ((b.drop p).takeWhile (· != 10)).length := by
          rcases Nat.lt_or_ge j ((b.drop p).takeWhile (· != 10)).length with l | l
          · obtain ⟨c', h1, h2⟩ := tw_lt l
            rw [hz'] at h1
            cases h1
            cases h2
          · omega
        subst this
        exact ⟨_, rfl, k⟩
      · have ne : ¬ (z.toNat : Int) = 10 := fun q => e (UInt8.toNat_inj.mp (show z.toNat = (10 : UInt8).toNat by have : (10 : UInt8).toNat = 10 := rfl; omega))
        refine if_t (by simp [ne]) ⟨fun σ' H' => _, fun _ _ h => h, ?_⟩
        have lt : j < ((b.drop p).takeWhile (· != 10)).length := by
          rcases Nat.lt_or_ge j ((b.drop p).takeWhile (· != 10)).length with l | l
          · exact l
          · have : j = ((b.drop p).takeWhile (· != 10)).length := by omega
            rw [this] at hz'
            have := tw_end hz'
            simp at this
            exact absurd this e
        refine ⟨_, rfl, _, _, rfl, rfl, ?_⟩
        exact ⟨_, by omega, rfl, j + 1, lt, rfl, rfl⟩
    · refine if_f (decide_eq_false (by omega)) ?_
      refine if_f rfl ?_
      have h1 : ((b.drop p).takeWhile (· != 10)).length ≤ (b.drop p).length := takeWhile_le _ _
      rw [List.length_drop] at h1
      have : j = ((b.drop p).takeWhile (· != 10)).length := by omega
      subst this
      exact ⟨_, rfl, k⟩
/-! ### behind_blanks -/
def spBlanks (K : PySem.W.Frag) : Sp := fun vs H Q _ => ∃ (a : Addr) (b : Bytes) (p : Nat), vs = [.ref a, .int (p : Int)] ∧ SqL K H a (tx b) ∧ p ≤ b.length ∧
  Q (.int ((p + sk (b.drop p) : Nat) : Int)) H
theorem inV_blank (c : UInt8) : inV (.int (c.toNat : Int)) [.int 32, .int 9, .int 10] = isBlank c := by
  have key : ∀ n : UInt8, ((n.toNat : Int) == (c.toNat : Int)) = (c == n) := fun n => by
    by_cases e : c = n
    · subst e
      simp
    · have : ¬ n.toNat = c.toNat := fun q => e (UInt8.toNat_inj.mp q.symm)
      rw [show (c == n) = false from by simpa using e]
      exact beq_eq_false_iff_ne.mpr (by omega)
  have k1 := key 32
  have k2 := key 9
  have k3 := key 10
  show ((((32 : UInt8).toNat : Int) == (c.toNat : Int)) || ((((9 : UInt8).toNat : Int) == (c.toNat : Int)) || ((((10 : UInt8).toNat : Int) == (c.toNat : Int)) || false))) = _
  rw [k1, k2, k3, Bool.or_false, isBlank]
theorem scBlanks : FnScope ["text", "place"] ["text", "place"] (defScope s_behind_blanks) := ⟨rfl, rfl, rfl, by decide +kernel, rfl, by decide +kernel, by decide +kernel⟩
theorem ok_blanks {f : Addr} {fd : FuncData} (F : Fun K "behind_blanks" "behind_blanks" s_behind_blanks f fd) (B : Blt mg) (gR : ∃ t, mg "REMARK" = some (.int 35 t))
    (gB : ∃ aB, mg "BLANKS" = some (.ref aB) ∧ ∀ H, SqT K H aB [.int 32, .int 9, .int 10]) (DR : Df P w K mg base CX0 1 "behind_remark" ["text", "place"] (spRemark K)) :
    FnOk P w K mg base CX0 2 f fd ["text", "place"] (spBlanks K) := by
  obtain ⟨t, gR⟩ := gR
  obtain ⟨aB, gB, hB⟩ := gB
  obtain ⟨fR, fdR, mR, okR, kR, bR⟩ := DR
  refine F.ok scBlanks (fun vs H Q E h => ?_) (fun cdv A outer s H vs Q E hr h => ⟨_, pss_cons (ps_while PassesOwn.never
      (pt_cmpR op_lt (pv 1) (pe_callB call_len_seq (by rfl) B.len PySem.boot_len (pa_cons (pv 0) pa_nil)) (nomark _))
      (pss_one (ps_if (pt_cmpR op_eq (pe_ix ix_list (pv 0) (pv 1) (fun _ _ => rfl)) (pe_glob (v := .int 35) rfl gR ⟨_, rfl⟩) (nomark _))
        (pss_one (ps_set (i := 1) scBlanks.nd rfl (.inl rfl) (pe_call okR (hr.mono (by decide)) rfl mR kR bR .nil pass0 (pa_cons (pv 0) (pa_cons (pv 1) pa_nil)))))
        (pss_one (ps_if (pt_cmpR op_in_seq (pe_ix ix_list (pv 0) (pv 1) (fun _ _ => rfl)) (pe_glob (v := .ref aB) rfl gB rfl) (by rfl))
          (pss_one (ps_aug (i := 1) scBlanks.nd rfl (.inl rfl) pe_int ip_add))
          (pss_one (ps_ret (pv 1))))))))
    (pss_one (ps_ret (pv 1))), ?_⟩)
  · obtain ⟨a, b, p, rfl, _⟩ := h
    rfl
  · obtain ⟨a, b, p, rfl, hS, hp, k⟩ := h
    refine ⟨fun m σ H' => H' = H ∧ ∃ q, q ≤ b.length ∧ p + sk (b.drop p) = q + sk (b.drop q) ∧ σ = [some (.ref a), some (.int (q : Int))] ∧ m = b.length - q, ⟨_, rfl, p, hp, rfl, rfl, rfl⟩, ?_⟩
    rintro m σ H' ⟨rfl, q, hq, e, rfl, rfl⟩
    refine ⟨_, rfl, _, rfl, a, _, rfl, .inl hS, _, _, rfl, rfl, _, rfl, ?_⟩
    rw [tx_len]
    by_cases c : q < b.length
    · refine if_t (decide_eq_true (by omega)) ⟨fun σ' H' => _, fun _ _ h => h, ?_⟩
      obtain ⟨z, hz⟩ : ∃ z, b[q]? = some z := ⟨b[q], by simp [c]⟩
      have hd := drop_cons hz
      refine ⟨_, rfl, _, rfl, _, _, _, _, rfl, rfl, hS, tx_at hz, rfl, _, rfl, ?_⟩
      have z35 : decide (V.int (z.toNat : Int) = V.int 35) = (z == 35) := by
        by_cases e : z = 35
        · subst e
          rfl
        · have : ¬ z.toNat = 35 := fun q => e (UInt8.toNat_inj.mp q)
          rw [show (z == 35) = false from by simpa using e]
          exact decide_eq_false fun h => this (by have := V.int.inj h; omega)
      rw [z35]
      have tl : (b.drop q).length = b.length - q := List.length_drop ..
      cases h35 : (z == 35) with
      | true =>
        have hb : isBlank z = false := by
          rw [beq_iff_eq] at h35
          subst h35
          rfl
        refine if_t rfl ?_
        refine ⟨_, rfl, _, rfl, a, b, q, rfl, hS, ?_⟩
        have tw : (b.drop q).takeWhile (· != 10) = z :: (b.drop (q + 1)).takeWhile (· != 10) := by
          rw [hd, List.takeWhile_cons]
          have : (z != 10) = true := by
            rw [beq_iff_eq] at h35
            subst h35
            rfl
          rw [this]
          rfl
        have tw2 := takeWhile_le (· != 10) (b.drop q)
        rw [hd, sk_remark hb h35, ← drop_takeWhile, List.drop_drop] at e
        rw [tw] at tw2 ⊢
        rw [List.length_cons] at tw2 ⊢
        refine ⟨_, by omega, rfl, _, by omega, ?_, rfl, rfl⟩
        rw [e]
        have : q + (((b.drop (q + 1)).takeWhile (· != 10)).length + 1) = q + 1 + ((b.drop (q + 1)).takeWhile (· != 10)).length := by omega
        rw [this]
        omega
      | false =>
        refine if_f rfl ?_
        refine ⟨_, rfl, _, rfl, _, _, _, _, rfl, rfl, hS, tx_at hz, aB, _, rfl, .inr (hB _), rfl, rfl, _, rfl, ?_⟩
        show if inV (V.int ↑z.toNat) [V.int 32, V.int 9, V.int 10] = true then _ else _
        rw [inV_blank]
        cases hb : isBlank z with
        | true =>
          refine if_t rfl ?_
          refine ⟨_, rfl, _, _, rfl, rfl, ?_⟩
          rw [hd, sk_blank hb] at e
          exact ⟨_, by omega, rfl, q + 1, by omega, by omega, rfl, rfl⟩
        | false =>
          refine if_f rfl ?_
          rw [hd, sk_none hb h35] at e
          rw [e] at k
          exact ⟨_, rfl, k⟩
    · refine if_f (decide_eq_false (by omega)) ?_
      have : b.drop q = [] := List.drop_eq_nil_of_le (by omega)
      rw [this, sk_nil] at e
      rw [e] at k
      exact ⟨_, rfl, k⟩
end
end Off
end
section
set_option Elab.async false
set_option linter.all false
set_option maxRecDepth 100000
set_option maxHeartbeats 4000000
namespace Off
open PySem PySem.Spec PyProof.Rows L2
open VaskyBase (Bytes isLetter isDigit isBlank token Tok PTok Toks word)
theorem canL : ∀ ns : List Int, PyData.canLayAll0 (ns.map PyData.int) = true
  | [] => by simp only [List.map_nil, PyData.canLayAll0]
  | n :: ns => by
    rw [List.map_cons]
    simp only [PyData.canLayAll0, PyData.canLay0, Bool.true_and]
    exact canL ns
theorem depL : ∀ ns : List Int, PyData.depthAll (ns.map PyData.int) = 0
  | [] => by simp only [List.map_nil, PyData.depthAll]
  | n :: ns => by
    rw [List.map_cons]
    simp only [PyData.depthAll, PyData.depth, depL ns]
    rfl
theorem shapedL (ns : List Int) : SeqAt.shaped (.list (ns.map .int)) = true := by
  unfold SeqAt.shaped
  simp only [PyData.canLay0, canL, PyData.depth, depL, Bool.true_and]
  rfl
theorem eqvL : ∀ ns ms : List Int, PyData.eqvAll (ns.map PyData.int) (ms.map PyData.int) = (ns == ms)
  | [], [] => by simp only [List.map_nil, PyData.eqvAll]; rfl
  | [], m :: ms => by simp only [List.map_nil, List.map_cons, PyData.eqvAll]; rfl
  | n :: ns, [] => by simp only [List.map_nil, List.map_cons, PyData.eqvAll]; rfl
  | n :: ns, m :: ms => by
    rw [List.map_cons, List.map_cons]
    simp only [PyData.eqvAll, PyData.eqv, eqvL ns ms]
    rfl
theorem dpL {K : PySem.W.Frag} {H : Hp} : ∀ ns : List Int, DpAll K H (ns.map V.int) (ns.map PyData.int)
  | [] => .nil
  | n :: ns => .cons (.int n) (dpL ns)
/-! ### fields -/
theorem lk_here {k : Str} {v : V} {r : List (Str × V)} : List.lookup k ((k, v) :: r) = some v := by
  have e : (k == k) = true := beq_self_eq_true k
  simp only [List.lookup, e]
theorem lk_past {k g : Str} {v : V} {r : List (Str × V)} (h : (k == g) = false) : List.lookup k ((g, v) :: r) = List.lookup k r := by
  simp only [List.lookup, h]
theorem put_here {f : Str} {v x : V} {r : List (Str × V)} : putF f v ((f, x) :: r) = (f, v) :: r := if_pos rfl
theorem put_past {f g : Str} {v x : V} {r : List (Str × V)} (h : ¬ g = f) : putF f v ((g, x) :: r) = (g, x) :: putF f v r := if_neg h
section
variable {P : Program} {w : World} {K : PySem.W.Frag} {mg : Str → Option Value} {base : Heap}
/-! ### Token -/
structure TokTxt (K : PySem.W.Frag) (mg : Str → Option Value) (C fI : Addr) : Prop where
  cl : Cls K C
  n1 : NoAttr K C "kind"
  n2 : NoAttr K C "place"
  n3 : NoAttr K C "end"
  n4 : NoAttr K C "value"
  g : mg "Token" = some (.ref C)
  mkC : Mk K C fI
def fTok (k p e v : V) : List (Str × V) := [("kind", k), ("place", p), ("end", e), ("value", v)]
def spTok (C : Addr) : Sp := fun vs H Q _ => ∃ (a dx : Addr) (k p e v : V), vs = [.ref a, k, p, e, v] ∧ H a = some (.ins C dx []) ∧
  ∀ H' : Hp, H' a = some (.ins C dx (fTok k p e v)) → (∀ b o, H b = some o → b ≠ a → H' b = some o) → Q .non H'
theorem scTok : FnScope ["self", "kind", "place", "end", "value"] ["self", "kind", "place", "end", "value"] (defScope s_Token_init) := ⟨rfl, rfl, rfl, by decide +kernel, rfl, by decide +kernel, by decide +kernel⟩
theorem ok_Tok {C f : Addr} {fd : FuncData} (F : Fun K "__init__" "Token.__init__" s_Token_init f fd) (T : TokTxt K mg C f) : FnOk P w K mg base CX0 1 f fd ["self", "kind", "place", "end", "value"] (spTok C) := by
  refine F.ok scTok (fun vs H Q E h => ?_) (fun cdv A outer s H vs Q E hr h => ⟨_, pss_cons (ps_fld (pv 0) (pv 1) rfl) (pss_cons (ps_fld (pv 0) (pv 2) rfl) (pss_cons (ps_fld (pv 0) (pv 3) rfl) (pss_one (ps_fld (pv 0) (pv 4) rfl)))), ?_⟩)
  · obtain ⟨a, dx, k, p, e, v, rfl, _⟩ := h
    rfl
  · obtain ⟨a, dx, k, p, e, v, rfl, ha, q⟩ := h
    refine ⟨_, rfl, _, rfl, a, C, dx, _, rfl, ha, T.cl, T.n1, (by show 0 < 1000; decide), ?_⟩
    refine ⟨_, rfl, _, rfl, a, C, dx, _, rfl, upd_same, T.cl, T.n2, (by show 1 < 1000; decide), ?_⟩
    refine ⟨_, rfl, _, rfl, a, C, dx, _, rfl, upd_same, T.cl, T.n3, (by show 2 < 1000; decide), ?_⟩
    refine ⟨_, rfl, _, rfl, a, C, dx, _, rfl, upd_same, T.cl, T.n4, (by show 3 < 1000; decide), ?_⟩
    exact q _ upd_same fun b o e hb => by
      rw [upd_ne hb, upd_ne hb, upd_ne hb, upd_ne hb]
      exact e
/-! ### word_kind -/
def wMeasures : Str := "measures"
def wUp : Str := "up"
def wDown : Str := "down"
def wItem : Str := "item"
def wName : Str := "name"
/-- the kind of a word -/
def kindW (b : Bytes) : Str := if b = word "measures" then wMeasures else if b = word "up" then wUp else if b = word "down" then wDown else if b = word "item" then wItem else wName
def wTab : List (Str × Bytes) := [(wMeasures, word "measures"), (wUp, word "up"), (wDown, word "down"), (wItem, word "item")]
def kindL : List (Str × Bytes) → Bytes → Str
  | [], _ => wName
  | x :: r, b => if b = x.2 then x.1 else kindL r b
theorem kindW_eq (b : Bytes) : kindW b = kindL wTab b := rfl
theorem wTab_small : ∀ x ∈ wTab, x.1.cps.size < 100 := by decide +kernel
theorem wTab_ok : ∀ x ∈ wTab, (x.2.map fun c => c.toNat) = x.1.cps.toList := by decide +kernel
def spKind (K : PySem.W.Frag) : Sp := fun vs H Q _ => ∃ (a : Addr) (b : Bytes), vs = [.ref a] ∧ SqL K H a (tx b) ∧ ∀ H', Same H H' → Q (.str (kindW b)) H'
def bi (b : Bytes) : List Int := b.map fun c => (c.toNat : Int)
theorem tx_bi (b : Bytes) : tx b = (bi b).map V.int := by
  unfold tx bi
  rw [List.map_map]
  rfl
theorem bi_inj {a b : Bytes} (h : bi a = bi b) : a = b := by
  refine List.map_inj_right (f := fun c : UInt8 => (c.toNat : Int)) (fun x y e => ?_) |>.mp h
  exact UInt8.toNat_inj.mp (Int.ofNat.inj e)
theorem ok_take_map {α β : Type} {l : List α} {f : α → β} {i : Nat} {x : α} (h : l[i]? = some x) : (l.take i).map f ++ [f x] = (l.take (i + 1)).map f := by
  rw [List.take_succ, h, List.map_append]
  rfl
theorem scKind : FnScope ["spelling", "word", "letter"] ["spelling"] (defScope s_word_kind) := ⟨rfl, rfl, rfl, by decide +kernel, rfl, by decide +kernel, by decide +kernel⟩
theorem ok_kind {f : Addr} {fd : FuncData} (F : Fun K "word_kind" "word_kind" s_word_kind f fd) (B : Blt mg) (gW : ∃ a, mg "WORDS" = some (.ref a) ∧ ∀ H, SqT K H a [.str wMeasures, .str wUp, .str wDown, .str wItem]) :
    FnOk P w K mg base CX0 1 f fd ["spelling"] (spKind K) := by
  obtain ⟨aW, gW, hW⟩ := gW
  refine F.ok scKind (fun vs H Q E h => ?_) (fun cdv A outer s H vs Q E hr h => ⟨_, pss_cons (ps_for PassesOwn.never rfl (pi_tup (pe_glob (v := .ref aW) rfl gW rfl)) (pg_name (i := 1) scKind.nd rfl (Or.inl rfl))
      (pss_one (ps_if (pt_cmpR (op_eqD hr.units) (pv 0) (pe_lc (own := [("letter", 2)]) (g := gName 2) (tt := tYes) rfl scKind.nd (pi_str (pv 1))
          (blkOk_by (N := ["spelling", "word", "letter"]) (sc := defScope s_word_kind) (by decide +kernel)) (fun _ _ _ _ _ => pg_name (i := 2) scKind.nd rfl (Or.inl rfl)) (fun _ _ _ _ _ => pts_nil)
          (fun _ _ _ _ _ => pe_callB call_ord (by rfl) B.ord (by decide +kernel) (pa_cons (pv 2) pa_nil))) (nomark _))
        (pss_one (ps_ret (pv 1))) pss_nil)))
    (pss_one (ps_ret pe_str)), ?_⟩)
  · obtain ⟨a, b, rfl, _⟩ := h
    rfl
  · obtain ⟨a, b, rfl, hS, k⟩ := h
    refine ⟨aW, rfl, ⟨_, hW H⟩, for_tup (K := K) (a := aW) (xs := wTab.map fun x => .str x.1) (fun i σ H' => Same H H' ∧ (∃ v, σ = [some (.ref a), v, none]) ∧ kindL wTab b = kindL (wTab.drop i) b) ⟨Same.refl H, ⟨_, rfl⟩, rfl⟩ (fun _ _ _ _ _ => hW _) ?_ ?_⟩
    · rintro i x σ H' hx ⟨s1, ⟨v, rfl⟩, e⟩
      rw [List.getElem?_map] at hx
      cases hw : wTab[i]? with
      | none =>
        rw [hw] at hx
        cases hx
      | some zc =>
        obtain ⟨z, c⟩ := zc
        rw [hw] at hx
        cases hx
        have hz : (c.map fun c => c.toNat) = z.cps.toList := wTab_ok _ (List.mem_of_getElem? hw)
        rw [drop_cons hw] at e
        refine ⟨_, rfl, _, rfl, z, rfl, fun D hD => lc_it walk_str (fun i H2 => Same H' H2 ∧ H2 D = some (.lst ((z.cps.toList.take i).map fun n : Nat => V.int (n : Int)))) ⟨same_new hD, upd_same⟩ (fun _ _ _ _ => True.intro) ?_ ?_⟩
        · rintro j y H2 H3 hj ⟨s2, hD2⟩ ⟨rfl, n, hn, rfl⟩
          refine ⟨rfl, _, rfl, _, rfl, rfl, _, hD2, ?_, ?_, ?_⟩
          · rw [List.length_map, List.length_take, sizeLine_eq]
            have : z.cps.size < 100 := wTab_small _ (List.mem_of_getElem? hw)
            have : z.cps.toList.length = z.cps.size := Array.length_toList
            omega
          · exact fun b o h => by rw [upd_ne (ne_of_none h hD)]; exact s2 b o h
          · have hn' : z.cps.toList[j]? = some n := by rw [Array.getElem?_toList]; exact hn
            rw [← ok_take_map hn']
            exact upd_same
        · rintro H2 ⟨s2, hD2⟩
          have full : z.cps.toList.take z.cps.size = z.cps.toList := List.take_of_length_le (by rw [Array.length_toList]; exact Nat.le_refl _)
          rw [full, ← hz, List.map_map] at hD2
          have e1 : (c.map ((fun n : Nat => V.int (n : Int)) ∘ fun c : UInt8 => c.toNat)) = (bi c).map V.int := by
            rw [← tx_bi]
            rfl
          rw [e1] at hD2
          refine ⟨.list ((bi b).map .int), .list ((bi c).map .int), .lst ((s1.trans s2).seq hS) (tx_bi b ▸ dpL _), .lst (SqL.of hD2) (dpL _), shapedL _, shapedL _, _, rfl, ?_⟩
          rw [show PyData.eqv (.list ((bi b).map .int)) (.list ((bi c).map .int)) = PyData.eqvAll ((bi b).map .int) ((bi c).map .int) from by simp only [PyData.eqv], eqvL]
          by_cases q : b = c
          · subst q
            refine if_t (beq_self_eq_true _) ⟨_, rfl, ?_⟩
            have kk := k H2 (s1.trans s2)
            rw [kindW_eq, e] at kk
            show Q (.str z) H2
            have ez : kindL ((z, b) :: wTab.drop (i + 1)) b = z := if_pos rfl
            rw [ez] at kk
            exact kk
          · refine if_f (beq_eq_false_iff_ne.mpr fun z => q (bi_inj z)) ⟨s1.trans s2, ⟨_, rfl⟩, ?_⟩
            rw [e]
            exact if_neg q
    · rintro σ H' ⟨s1, ⟨v, rfl⟩, e⟩
      rw [kindW_eq] at k
      have := k H' s1
      rw [e] at this
      exact this
end
end Off
end
section
set_option Elab.async false
set_option linter.all false
set_option maxRecDepth 100000
set_option maxHeartbeats 4000000
namespace Off
open PySem PySem.Spec PyProof.Rows L2
open VaskyBase (Bytes isLetter isDigit isBlank token PTok Toks word)
theorem while_w {c : TT} {tb : TS} {D : Ends} {σ : L2.St} {H : Hp} (W : Nat → L2.St → Hp → Prop) (Post : L2.St → Hp → Prop) (h0 : ∃ m, W m σ H) (hpost : ∀ σ H, Post σ H → D.nx σ H)
    (hs : (∀ σ H, Post σ H → D.nx σ H) → ∀ m σ H, W m σ H → c σ H fun b H1 => if b = true then ∃ N : L2.St → Hp → Prop, (∀ σ' H', N σ' H' → ∃ m', m' < m ∧ W m' σ' H') ∧ tb { D with nx := N, ct := N, bk := D.nx } σ H1 else D.nx σ H1) :
    tWhile c tb D σ H := ⟨W, h0, hs hpost⟩
theorem fault_made {C : Addr} {H : Hp} {c p : Nat} {W : Value → Option Addr → Hp → Prop} (k : ∀ d H', Same H H' → FltAt H' d ⟨c, p⟩ → W (.ref C) (some d) H') :
    ([V.int c, V.int p] : List V).length ≤ 1000 ∧ ∀ a, H a = none → spFault C (.ref a :: ([V.int c, V.int p] ++ [])) (upd H a (exo a C none))
      (fun v H2 => v = .non ∧ ∃ (d : Addr) (fs : List (Str × V)), H2 a = some (exo a C (some d)) ∧ H2 d = some (exd d fs) ∧ H d = none ∧ W (.ref C) (some d) (upd (del H2 a) d (.xd fs))) (fun _ _ _ => False) := by
  refine ⟨(by show 2 ≤ 1000; decide), fun a ha => ⟨a, c, p, rfl, upd_same, fun dx hd ne => ⟨rfl, dx, _, ?_, upd_same, ?_, k dx _ ?_ upd_same⟩⟩⟩
  · rw [upd_ne (Ne.symm ne)]
    exact upd_same
  · rw [upd_ne ne] at hd
    exact hd
  · rw [upd_ne ne] at hd
    intro b o h
    have n1 := ne_of_none h hd
    have n2 := ne_of_none h ha
    rw [upd_ne n1, del_ne n2, upd_ne n1, upd_ne n2, upd_ne n1, upd_ne n2]
    exact h
/-- the value of a token -/
def ValAt (H : Hp) (v : V) : VaskyBase.Tok → Prop
  | .name b => ∃ q, v = .ref q ∧ H q = some (.tup (tx b))
  | .num n => v = .int (n : Int)
  | _ => True
def kStr : VaskyBase.Tok → Str
  | .name b => kindW b
  | .num _ => "number"
  | .sign c => if c = 44 then "," else if c = 58 then ":" else if c = 59 then ";" else "-"
  | .last => "end"
/-- a token's object, its end told -/
def TokAt (C : Addr) (H : Hp) (a : Addr) (t : PTok) (e : Nat) : Prop := ∃ (dx : Addr) (v : V), H a = some (.ins C dx (fTok (.str (kStr t.tok)) (.int (t.place : Int)) (.int (e : Int)) v)) ∧ ValAt H v t.tok
theorem ValAt.same {H H' : Hp} {v : V} (s : Same H H') : ∀ {t : VaskyBase.Tok}, ValAt H v t → ValAt H' v t
  | .name b, ⟨q, e, h⟩ => ⟨q, e, s _ _ h⟩
  | .num _, h => h
  | .sign _, _ => True.intro
  | .last, _ => True.intro
theorem TokAt.same {C : Addr} {H H' : Hp} {a : Addr} {t : PTok} {e : Nat} (s : Same H H') (h : TokAt C H a t e) : TokAt C H' a t e := by
  obtain ⟨dx, v, h1, h2⟩ := h
  exact ⟨dx, v, s _ _ h1, h2.same s⟩
theorem cutV_tx {b : Bytes} {p e : Nat} (hp : p ≤ b.length) (he : e ≤ b.length) : cutV (tx b) (some (p : Int)) (some (e : Int)) = tx ((b.drop p).take (e - p)) := by
  have h1 : HT.sIx (tx b).length 0 (some (p : Int)) = p := by rw [HT.sIx_nat, tx_len]; omega
  have h2 : HT.sIx (tx b).length (tx b).length (some (e : Int)) = e := by rw [HT.sIx_nat, tx_len]; omega
  rw [cutV, h1, h2]
  unfold tx
  rw [← List.map_drop, ← List.map_take]
section
variable {P : Program} {w : World} {K : PySem.W.Frag} {mg : Str → Option Value} {base : Heap} {CF fF CT fT : Addr} {fdF fdT : FuncData}
def isWord (c : UInt8) : Bool := isLetter c || isDigit c
/-! ### word_at -/
def spWord (K : PySem.W.Frag) (CF CT : Addr) : Sp := fun vs H Q E => ∃ (a : Addr) (b : Bytes) (p : Nat), vs = [.ref a, .int (p : Int)] ∧ SqL K H a (tx b) ∧ p ≤ b.length ∧
  (16 < ((b.drop p).takeWhile isWord).length → ∀ d H', Same H H' → FltAt H' d ⟨2, p⟩ → E (.ref CF) (some d) H') ∧
  (((b.drop p).takeWhile isWord).length ≤ 16 → ∀ q H', Same H H' → TokAt CT H' q ⟨p, .name ((b.drop p).takeWhile isWord)⟩ (p + ((b.drop p).takeWhile isWord).length) → Q (.ref q) H')
theorem scWord : FnScope ["text", "place", "end", "spelling"] ["text", "place"] (defScope s_word_at) := ⟨rfl, rfl, rfl, by decide +kernel, rfl, by decide +kernel, by decide +kernel⟩
theorem ok_word {f : Addr} {fd : FuncData} (F : Fun K "word_at" "word_at" s_word_at f fd) (B : Blt mg) (gM : ∃ t, mg "MOST_NAME_BYTES" = some (.int 16 t)) (gN : ∃ t, mg "NO_TOKEN" = some (.int 2 t))
    (TF : FaultTxt K mg CF fF) (oF : FnOk P w K mg base CX0 1 fF fdF ["self", "code", "place"] (spFault CF)) (bF : Binds K fdF ["self", "code", "place"] [])
    (TT : TokTxt K mg CT fT) (oT : FnOk P w K mg base CX0 1 fT fdT ["self", "kind", "place", "end", "value"] (spTok CT)) (bT : Binds K fdT ["self", "kind", "place", "end", "value"] [])
    (DL : Df P w K mg base CX0 1 "is_letter" ["byte"] spLetter) (DD : Df P w K mg base CX0 1 "is_digit" ["byte"] spDigit) (DK : Df P w K mg base CX0 1 "word_kind" ["spelling"] (spKind K)) :
    FnOk P w K mg base (L2.CX P w) 3 f fd ["text", "place"] (spWord K CF CT) := by
  obtain ⟨tM, gM⟩ := gM
  obtain ⟨tN, gN⟩ := gN
  obtain ⟨fL, fdL, mL, oL, kL, bL⟩ := DL
  obtain ⟨fD, fdD, mD, oD, kD, bD⟩ := DD
  obtain ⟨fK, fdK, mK, oK, kK, bK⟩ := DK
  refine F.okX scWord (fun vs H Q E h => ?_) (fun cdv A outer s H vs Q E hr h => ⟨_, pss_cons (ps_set (i := 2) scWord.nd rfl (.inl rfl) (pv 1))
    (pss_cons (ps_while (passes_of rfl)
      (PW.pt (pw_and (pt_cmpR op_lt (pv 2) (pe_callB call_len_seq (by rfl) B.len PySem.boot_len (pa_cons (pv 0) pa_nil)) (nomark _))
        (pw_and1 (PW.pt (pw_or (pt_val (pe_call oL (hr.mono (by decide)) rfl mL kL bL .nil pass0 (pa_cons (pe_ix ix_list (pv 0) (pv 2) (fun _ _ => rfl)) pa_nil)))
          (pw_or1 (pt_val (pe_call oD (hr.mono (by decide)) rfl mD kD bD .nil pass0 (pa_cons (pe_ix ix_list (pv 0) (pv 2) (fun _ _ => rfl)) pa_nil)))))))))
      (pss_one (ps_aug (i := 2) scWord.nd rfl (.inl rfl) pe_int ip_add)))
    (pss_cons (ps_if (pt_cmpR op_gt (pe_op op_sub (pv 2) (pv 1)) (pe_glob (v := .int 16) rfl gM ⟨_, rfl⟩) (nomark _))
      (pss_one (ps_raise rfl (takes_of rfl rfl rfl rfl) (pmk_err TF.er TF.iC TF.tI oF (hr.mono (by decide)) bF .nil pass0 rfl TF.gC (pa_cons (pe_glob (v := .int 2) rfl gN ⟨_, rfl⟩) (pa_cons (pv 1) pa_nil))))) pss_nil)
    (pss_cons (ps_set (i := 3) scWord.nd rfl (.inl rfl) (pe_slice sl_list (pv 0) (po_some (pv 1)) (po_some (pv 2))))
    (pss_one (ps_ret (pe_make TT.mkC oT (hr.mono (by decide)) rfl TT.g bT .nil pass0
      (pa_cons (pe_call oK (hr.mono (by decide)) rfl mK kK bK .nil pass0 (pa_cons (pv 3) pa_nil)) (pa_cons (pv 1) (pa_cons (pv 2) (pa_cons (pe_callTy call_tuple_of (by rfl) B.tuple (by decide +kernel) (pa_cons (pv 3) pa_nil)) pa_nil)))))))))), ?_⟩)
  · obtain ⟨a, b, p, rfl, _⟩ := h
    rfl
  · obtain ⟨a, b, p, rfl, hS, hp, kE, kQ⟩ := h
    have tl : ((b.drop p).takeWhile isWord).length ≤ b.length - p := by
      have := takeWhile_le isWord (b.drop p)
      rw [List.length_drop] at this
      exact this
    refine ⟨_, rfl, while_w (fun m σ H' => H' = H ∧ ∃ j, j ≤ ((b.drop p).takeWhile isWord).length ∧ σ = [some (.ref a), some (.int (p : Int)), some (.int ((p + j : Nat) : Int)), none] ∧ m = b.length - (p + j))
      (fun σ H' => H' = H ∧ σ = [some (.ref a), some (.int (p : Int)), some (.int ((p + ((b.drop p).takeWhile isWord).length : Nat) : Int)), none]) ⟨_, rfl, 0, Nat.zero_le _, rfl, rfl⟩ ?_ ?_⟩
    · rintro σ H' ⟨rfl, rfl⟩
      refine ⟨_, rfl, _, rfl, _, _, rfl, rfl, _, _, rfl, rfl, _, rfl, ?_⟩
      by_cases c : 16 < ((b.drop p).takeWhile isWord).length
      · refine if_t (decide_eq_true (by omega)) ?_
        exact ⟨_, rfl, fault_made (W := E) (kE c)⟩
      · refine if_f (decide_eq_false (by omega)) ?_
        refine ⟨_, rfl, _, rfl, _, rfl, _, rfl, _, rfl, a, _, rfl, hS, fun q hq => ?_⟩
        rw [cutV_tx hp (by omega), Nat.add_sub_cancel_left, tw_take]
        refine ⟨_, rfl, q, (b.drop p).takeWhile isWord, rfl, SqL.of upd_same, fun H1 s1 => ?_⟩
        refine ⟨_, rfl, _, rfl, _, rfl, q, _, rfl, .inl ⟨SqL.of (s1 _ _ upd_same), fun l hl => ?_⟩⟩
        intro x dx nx ndx ne
        refine ⟨x, dx, _, _, _, _, rfl, upd_same, fun H2 h2 k2 => ⟨rfl, ?_⟩⟩
        have s2 : Same (upd H1 l (.tup (tx ((b.drop p).takeWhile isWord)))) H2 := Same.made nx ndx k2
        refine kQ (by omega) x H2 (((same_new hq).trans s1).trans ((same_new hl).trans s2)) ⟨dx, _, h2, l, rfl, s2 _ _ upd_same⟩
    · rintro fin m σ H' ⟨rfl, j, hj, rfl, rfl⟩
      refine ⟨_, rfl, _, rfl, a, _, rfl, .inl hS, _, _, rfl, rfl, _, rfl, ?_⟩
      rw [tx_len]
      by_cases c : p + j < b.length
      · refine if_t (decide_eq_true (by omega)) ?_
        obtain ⟨z, hz⟩ : ∃ z, b[p + j]? = some z := ⟨b[p + j], by simp [c]⟩
        have hz' : (b.drop p)[j]? = some z := by rw [List.getElem?_drop]; exact hz
        have out : isWord z = false → j = ((b.drop p).takeWhile isWord).length := fun e => by
          rcases Nat.lt_or_ge j ((b.drop p).takeWhile isWord).length with l | l
          · obtain ⟨c', h1, h2⟩ := tw_lt l
            rw [hz'] at h1
            cases h1
            rw [e] at h2
            cases h2
          · omega
        have inn : isWord z = true → j < ((b.drop p).takeWhile isWord).length := fun e => by
          rcases Nat.lt_or_ge j ((b.drop p).takeWhile isWord).length with l | l
          · exact l
          · have : j = ((b.drop p).takeWhile isWord).length := by omega
            rw [this] at hz'
            have := tw_end hz'
            rw [e] at this
            cases this
        refine ⟨_, rfl, _, rfl, _, _, _, _, rfl, rfl, hS, tx_at hz, z, rfl, _, rfl, ?_⟩
        cases hl : isLetter z with
        | true =>
          refine if_t rfl (if_t rfl ⟨fun σ' H' => _, fun _ _ h => h, ?_⟩)
          exact ⟨_, rfl, _, _, rfl, rfl, _, by omega, rfl, j + 1, inn (by unfold isWord; rw [hl]; rfl), rfl, rfl⟩
        | false =>
          refine if_f rfl ⟨_, rfl, _, rfl, _, _, _, _, rfl, rfl, hS, tx_at hz, z, rfl, _, rfl, ?_⟩
          cases hd : isDigit z with
          | true =>
            refine if_t rfl ⟨fun σ' H' => _, fun _ _ h => h, ?_⟩
            exact ⟨_, rfl, _, _, rfl, rfl, _, by omega, rfl, j + 1, inn (by unfold isWord; rw [hl, hd]; rfl), rfl, rfl⟩
          | false =>
            refine if_f rfl (fin _ _ ⟨rfl, ?_⟩)
            rw [← out (by unfold isWord; rw [hl, hd]; rfl)]
      · refine if_f (decide_eq_false (by omega)) (if_f rfl (fin _ _ ⟨rfl, ?_⟩))
        have : j = ((b.drop p).takeWhile isWord).length := by omega
        rw [← this]
end
end Off
end
section
set_option Elab.async false
set_option linter.all false
set_option maxRecDepth 100000
set_option maxHeartbeats 4000000
namespace Off
open PySem PySem.Spec PyProof.Rows L2
open VaskyBase (Bytes isLetter isDigit isBlank token PTok Toks word decimal numberOf)
theorem digit_ge {c : UInt8} (h : isDigit c = true) : 48 ≤ c.toNat := (of_decide_eq_true h).1
theorem decimal_more {l : Bytes} {i : Nat} {c : UInt8} (h : l[i]? = some c) : decimal (l.take (i + 1)) = 10 * decimal (l.take i) + (c.toNat - 48) := by
  unfold decimal
  rw [List.take_succ, h, List.foldl_append]
  rfl
theorem numberOf_eq (l : Bytes) : numberOf l = if l = [] ∨ 10 < l.length ∨ (1 < l.length ∧ l.head? = some 48) ∨ 1000000000 < decimal l then none else some (decimal l) := rfl
theorem if_val {T : TT} {S1 S2 : TS} {D : Ends} {σ : L2.St} {H : Hp} (k : Bool) (ht : ∀ Qt : Bool → Hp → Prop, Qt k H → T σ H Qt) (h1 : k = true → S1 D σ H) (h2 : k = false → S2 D σ H) : tIfS T S1 S2 D σ H := by
  refine ht _ ?_
  cases k with
  | true => exact if_t rfl (h1 rfl)
  | false => exact if_f rfl (h2 rfl)
section
variable {P : Program} {w : World} {K : PySem.W.Frag} {mg : Str → Option Value} {base : Heap} {CF fF CT fT : Addr} {fdF fdT : FuncData}
/-! ### number_at -/
def spNumber (K : PySem.W.Frag) (CF CT : Addr) : Sp := fun vs H Q E => ∃ (a : Addr) (b : Bytes) (p : Nat) (c : UInt8), vs = [.ref a, .int (p : Int)] ∧ SqL K H a (tx b) ∧ b[p]? = some c ∧ isDigit c = true ∧
  (numberOf ((b.drop p).takeWhile isDigit) = none → ∀ d H', Same H H' → FltAt H' d ⟨2, p⟩ → E (.ref CF) (some d) H') ∧
  (∀ n, numberOf ((b.drop p).takeWhile isDigit) = some n → ∀ q H', Same H H' → TokAt CT H' q ⟨p, .num n⟩ (p + ((b.drop p).takeWhile isDigit).length) → Q (.ref q) H')
theorem sc_number_at : FnScope ["text", "place", "end", "digits", "value", "byte"] ["text", "place"] (defScope s_number_at) := ⟨rfl, rfl, rfl, by decide +kernel, rfl, by decide +kernel, by decide +kernel⟩
theorem ok_number {f : Addr} {fd : FuncData} (F : Fun K "number_at" "number_at" s_number_at f fd) (B : Blt mg) (gD : ∃ t, mg "MOST_DIGITS" = some (.int 10 t)) (gZ : ∃ t, mg "ZERO" = some (.int 48 t)) (gM : ∃ t, mg "MOST_NUMBER" = some (.int 1000000000 t)) (gN : ∃ t, mg "NO_TOKEN" = some (.int 2 t))
    (T_Fault : FaultTxt K mg CF fF) (o_Fault : FnOk P w K mg base CX0 1 fF fdF ["self", "code", "place"] (spFault CF)) (b_Fault : Binds K fdF ["self", "code", "place"] [])
    (T_Token : TokTxt K mg CT fT) (o_Token : FnOk P w K mg base CX0 1 fT fdT ["self", "kind", "place", "end", "value"] (spTok CT)) (b_Token : Binds K fdT ["self", "kind", "place", "end", "value"] [])
    (D_is_digit : Df P w K mg base CX0 1 "is_digit" ["byte"] spDigit) :
    FnOk P w K mg base (L2.CX P w) 3 f fd ["text", "place"] (spNumber K CF CT) := by
  obtain ⟨tM, g_MOST_NUMBER⟩ := gM
  obtain ⟨tN, g_NO_TOKEN⟩ := gN
  obtain ⟨tD, g_MOST_DIGITS⟩ := gD
  obtain ⟨tZ, g_ZERO⟩ := gZ
  obtain ⟨f_is_digit, fd_is_digit, m_is_digit, o_is_digit, k_is_digit, b_is_digit⟩ := D_is_digit
  refine F.okX sc_number_at (fun vs H Q E h => ?_) (fun cdv A outer s H vs Q E hr h => ⟨_, (pss_cons (ps_set (i := 2) sc_number_at.nd rfl (.inl rfl) (pv 1))
      (pss_cons (ps_while (passes_of rfl) (PW.pt (pw_and (pt_cmpR op_lt (pv 2) (pe_callB call_len_seq (by rfl) B.len PySem.boot_len (pa_cons (pv 0) pa_nil)) (nomark _)) (pw_and1 (pt_val (pe_call o_is_digit (hr.mono (by decide)) rfl m_is_digit k_is_digit b_is_digit .nil pass0 (pa_cons (pe_ix ix_list (pv 0) (pv 2) (fun _ _ => rfl)) pa_nil))))))
        (pss_one (ps_aug (i := 2) sc_number_at.nd rfl (.inl rfl) pe_int ip_add)))
      (pss_cons (ps_set (i := 3) sc_number_at.nd rfl (.inl rfl) (pe_op op_sub (pv 2) (pv 1)))
      (pss_cons (ps_if (PW.pt (pw_or (pt_cmpR op_gt (pv 3) (pe_glob (v := .int 10) rfl g_MOST_DIGITS ⟨_, rfl⟩) (nomark _)) (pw_or1 (PW.pt (pw_and (pt_cmpR op_gt (pv 3) pe_int (nomark _)) (pw_and1 (pt_cmpR op_eq (pe_ix ix_list (pv 0) (pv 1) (fun _ _ => rfl)) (pe_glob (v := .int 48) rfl g_ZERO ⟨_, rfl⟩) (nomark _))))))))
        (pss_one (ps_raise rfl (takes_of rfl rfl rfl rfl) (pmk_err T_Fault.er T_Fault.iC T_Fault.tI o_Fault (hr.mono (by decide)) b_Fault .nil pass0 rfl T_Fault.gC (pa_cons (pe_glob (v := .int 2) rfl g_NO_TOKEN ⟨_, rfl⟩) (pa_cons (pv 1) pa_nil)))))
        pss_nil)
      (pss_cons (ps_set (i := 4) sc_number_at.nd rfl (.inl rfl) pe_int)
      (pss_cons (ps_for (passes_of rfl) rfl (pi_list (pe_slice sl_list (pv 0) (po_some (pv 1)) (po_some (pv 2)))) (pg_name (i := 5) sc_number_at.nd rfl (Or.inl rfl))
        (pss_one (ps_set (i := 4) sc_number_at.nd rfl (.inl rfl) (pe_op op_sub (pe_op op_add (pe_op op_mul (pv 4) pe_int) (pv 5)) (pe_glob (v := .int 48) rfl g_ZERO ⟨_, rfl⟩)))))
      (pss_cons (ps_if (pt_cmpR op_gt (pv 4) (pe_glob (v := .int 1000000000) rfl g_MOST_NUMBER ⟨_, rfl⟩) (nomark _))
        (pss_one (ps_raise rfl (takes_of rfl rfl rfl rfl) (pmk_err T_Fault.er T_Fault.iC T_Fault.tI o_Fault (hr.mono (by decide)) b_Fault .nil pass0 rfl T_Fault.gC (pa_cons (pe_glob (v := .int 2) rfl g_NO_TOKEN ⟨_, rfl⟩) (pa_cons (pv 1) pa_nil)))))
        pss_nil)
      (pss_one (ps_ret (pe_make T_Token.mkC o_Token (hr.mono (by decide)) rfl T_Token.g b_Token .nil pass0 (pa_cons pe_str (pa_cons (pv 1) (pa_cons (pv 2) (pa_cons (pv 4) pa_nil)))))))))))))), ?_⟩)
  · obtain ⟨a, b, p, c, rfl, _⟩ := h
    rfl
  · obtain ⟨a, b, p, c0, rfl, hS, hc0, hd0, kE, kQ⟩ := h
    obtain ⟨hp, hpc⟩ := List.getElem?_eq_some_iff.mp hc0
    have tl : ((b.drop p).takeWhile isDigit).length ≤ b.length - p := by
      have := takeWhile_le isDigit (b.drop p)
      rw [List.length_drop] at this
      exact this
    have tc : (b.drop p).takeWhile isDigit = c0 :: (b.drop (p + 1)).takeWhile isDigit := by
      rw [drop_cons hc0, List.takeWhile_cons, hd0]
      rfl
    generalize hds : (b.drop p).takeWhile isDigit = ds at *
    refine ⟨_, rfl, while_w (fun m σ H' => H' = H ∧ ∃ j, j ≤ ds.length ∧ σ = [some (.ref a), some (.int (p : Int)), some (.int ((p + j : Nat) : Int)), none, none, none] ∧ m = b.length - (p + j))
      (fun σ H' => H' = H ∧ σ = [some (.ref a), some (.int (p : Int)), some (.int ((p + ds.length : Nat) : Int)), none, none, none]) ⟨_, rfl, 0, Nat.zero_le _, rfl, rfl⟩ ?_ ?_⟩
    · rintro σ H' ⟨rfl, rfl⟩
      have e0 : ((p + ds.length : Nat) : Int) - (p : Int) = (ds.length : Int) := by omega
      have hne : ds ≠ [] := by rw [tc]; exact List.cons_ne_nil _ _
      have hhd : ds.head? = some c0 := by rw [tc]; rfl
      have z48 : decide (V.int (c0.toNat : Int) = V.int 48) = decide (c0 = 48) := decide_eq_decide.mpr ⟨fun h => UInt8.toNat_inj.mp (by have := V.int.inj h; show c0.toNat = 48; omega), fun h => by subst h; rfl⟩
      refine ⟨_, rfl, _, rfl, _, _, rfl, rfl, ?_⟩
      dsimp only [gName, tSeq]
      refine if_val (decide (10 < ds.length ∨ (1 < ds.length ∧ c0 = 48))) (fun Qt q => ?_) (fun e => ?_) (fun e => ?_)
      · refine ⟨_, rfl, _, _, rfl, rfl, _, rfl, ?_⟩
        by_cases c1 : 10 < ds.length
        · rw [decide_eq_true (.inl c1)] at q
          exact if_t (decide_eq_true (by omega)) q
        · refine if_f (decide_eq_false (by omega)) ⟨_, rfl, _, _, rfl, rfl, _, rfl, ?_⟩
          by_cases c2 : 1 < ds.length
          · refine if_t (decide_eq_true (by omega)) ⟨_, rfl, _, rfl, _, _, _, _, rfl, rfl, hS, tx_at hc0, rfl, _, rfl, ?_⟩
            rw [z48]
            have : decide (c0 = 48) = decide (10 < ds.length ∨ (1 < ds.length ∧ c0 = 48)) := decide_eq_decide.mpr ⟨fun h => .inr ⟨c2, h⟩, fun h => h.elim (fun h => absurd h c1) (fun h => h.2)⟩
            rw [this]
            exact q
          · refine if_f (decide_eq_false (by omega)) ?_
            rw [decide_eq_false (fun h => h.elim c1 (fun h => c2 h.1))] at q
            exact q
      · have bad := of_decide_eq_true e
        refine ⟨_, rfl, fault_made (W := E) (kE ?_)⟩
        rw [numberOf_eq, hhd]
        exact if_pos (.inr (bad.elim .inl fun h => .inr (.inl ⟨h.1, congrArg some h.2⟩)))
      · have good := of_decide_eq_false e
        refine ⟨_, rfl, _, rfl, _, rfl, _, rfl, _, rfl, a, _, rfl, hS, fun q hq => ?_⟩
        rw [cutV_tx (by omega) (by omega), Nat.add_sub_cancel_left, ← hds, tw_take, hds]
        have sq : Same H' (upd H' q (.lst (tx ds))) := same_new hq
        refine ⟨q, rfl, ⟨_, SqL.of upd_same⟩, for_list (K := K) (a := q) (xs := tx ds) (fun i σ H1 => H1 = upd H' q (.lst (tx ds)) ∧ ∃ v x, σ = [some (.ref a), some (.int (p : Int)), some (.int ((p + ds.length : Nat) : Int)), some x, some (.int (decimal (ds.take i) : Int)), v])
          ⟨rfl, none, _, rfl⟩ (fun _ _ _ _ h => by rw [h.1]; exact SqL.of upd_same) ?_ ?_⟩
        · rintro i x σ H1 hx ⟨rfl, v, y, rfl⟩
          rw [tx, List.getElem?_map] at hx
          cases hc : ds[i]? with
          | none =>
            rw [hc] at hx
            cases hx
          | some c =>
            rw [hc] at hx
            cases hx
            have dc : isDigit c = true := by
              rw [← hds] at hc
              exact (tw_get hc).2
            have ge := digit_ge dc
            have dm := decimal_more hc
            refine ⟨_, rfl, _, _, rfl, rfl, .inr (by decide), _, rfl, _, _, rfl, rfl, _, _, rfl, rfl, ?_⟩
            refine ⟨rfl, some (.int (c.toNat : Int)), y, ?_⟩
            have ev : (decimal (ds.take i) : Int) * 10 + (c.toNat : Int) - 48 = (decimal (ds.take (i + 1)) : Int) := by omega
            rw [← ev]
            rfl
        · rintro σ H1 ⟨rfl, v, y, rfl⟩
          rw [tx_len, List.take_length]
          dsimp only [tSeq]
          refine if_val (decide (1000000000 < decimal ds)) (fun Qt q => ?_) (fun e => ?_) (fun e => ?_)
          · refine ⟨_, rfl, _, _, rfl, rfl, _, rfl, ?_⟩
            have : decide ((1000000000 : Int) < (decimal ds : Int)) = decide (1000000000 < decimal ds) := decide_eq_decide.mpr (by omega)
            rw [this]
            exact q
          · have bad := of_decide_eq_true e
            refine ⟨_, rfl, fault_made (W := E) fun d H2 s2 f2 => kE ?_ d H2 (sq.trans s2) f2⟩
            rw [numberOf_eq]
            exact if_pos (.inr (.inr (.inr bad)))
          · have good2 := of_decide_eq_false e
            refine ⟨_, rfl, _, rfl, _, rfl, ?_⟩
            intro x dx nx ndx ne
            refine ⟨x, dx, _, _, _, _, rfl, upd_same, fun H2 h2 k2 => ⟨rfl, ?_⟩⟩
            refine kQ (decimal ds) ?_ x H2 (sq.trans (Same.made nx ndx k2)) ⟨dx, _, h2, rfl⟩
            rw [numberOf_eq, hhd]
            refine if_neg fun h => ?_
            rcases h with h | h | ⟨h1, h2⟩ | h
            · exact hne h
            · exact good (.inl h)
            · exact good (.inr ⟨h1, Option.some.inj h2⟩)
            · exact good2 h
    · rintro fin m σ H' ⟨rfl, j, hj, rfl, rfl⟩
      refine ⟨_, rfl, _, rfl, a, _, rfl, .inl hS, _, _, rfl, rfl, _, rfl, ?_⟩
      rw [tx_len]
      by_cases c : p + j < b.length
      · refine if_t (decide_eq_true (by omega)) ?_
        obtain ⟨z, hz⟩ : ∃ z, b[p + j]? = some z := ⟨b[p + j], by simp [c]⟩
        have hz' : (b.drop p)[j]? = some z := by rw [List.getElem?_drop]; exact hz
        refine ⟨_, rfl, _, rfl, _, _, _, _, rfl, rfl, hS, tx_at hz, z, rfl, _, rfl, ?_⟩
        cases hd : isDigit z with
        | true =>
          have lt : j < ds.length := by
            rcases Nat.lt_or_ge j ds.length with l | l
            · exact l
            · have e : j = ds.length := by omega
              rw [e, ← hds] at hz'
              have := tw_end hz'
              rw [hd] at this
              cases this
          refine if_t rfl ⟨fun σ' H' => _, fun _ _ h => h, ?_⟩
          exact ⟨_, rfl, _, _, rfl, rfl, _, by omega, rfl, j + 1, lt, rfl, rfl⟩
        | false =>
          refine if_f rfl (fin _ _ ⟨rfl, ?_⟩)
          have : j = ds.length := by
            rcases Nat.lt_or_ge j ds.length with l | l
            · rw [← hds] at l
              obtain ⟨c', h1, h2⟩ := tw_lt l
              rw [hz'] at h1
              cases h1
              rw [hd] at h2
              cases h2
            · omega
          rw [← this]
      · refine if_f (decide_eq_false (by omega)) (if_f rfl (fin _ _ ⟨rfl, ?_⟩))
        have : j = ds.length := by omega
        rw [← this]
end
end Off
end
section
set_option Elab.async false
set_option linter.all false
set_option maxRecDepth 100000
set_option maxHeartbeats 4000000
/-! ### a dict that the top has written, with keys that are ints -/
namespace L2
open PySem PySem.Spec PyProof.Rows
def WD (K : PySem.W.Frag) (P : Program) (w : World) (d : Addr) (xs : List (Key × Value)) : Prop := (d == sysModules) = false ∧ ∀ h : Heap, K.In h → h.DictOf (mixKind P w) d xs
section
variable {X : Cx}
def rInW (X : Cx) : R2 := fun x y H Q => ∃ (d : Addr) (k : Key) (xs : List (Key × Value)), y = .ref d ∧ x = kV k ∧ WD X.K X.prog X.w d xs ∧ Q (.bl (valueAt xs k).isSome) H
theorem op_in_wd : OpR X (compareOp .In) (rInW X) := by
  intro pins s σ H x y v u Q I rx ry h
  obtain ⟨d, k, xs, rfl, rfl, ⟨hd, D⟩, q⟩ := h
  cases ry
  exact wpAny_in_of (kV_is rx) hd (D _ I.kIn).mapOf ⟨.bl _, H, I.tok _, rfl, q⟩
def rIxW (X : Cx) : R2 := fun x y H Q => ∃ (d : Addr) (k : Key) (xs : List (Key × Value)) (u : Value) (v : V), x = .ref d ∧ y = kV k ∧ WD X.K X.prog X.w d xs ∧ valueAt xs k = some u ∧ RelV v u ∧ Q v H
theorem ix_wd : IxR X (rIxW X) := by
  intro value slice pins s σ H x y v u Q I rx ry h hs
  obtain ⟨d, k, xs, u0, v0, rfl, rfl, ⟨hd, D⟩, e, r, q⟩ := h
  obtain rfl : v = Value.ref d := rx
  have hm := (D _ I.kIn).mapOf
  exact tail_any hm.typeIs slot_dict_getitem.lookup (wpAny_getItem_of (kV_is ry) hm e ⟨v0, H, I.tok _, r, q⟩) hs
end
end L2
namespace Off
open PySem PySem.Spec PyProof.Rows L2
open VaskyBase (Bytes isLetter isDigit isBlank token PTok Toks word decimal numberOf SIGNS)
section
variable {P : Program} {w : World} {K : PySem.W.Frag} {mg : Str → Option Value} {base : Heap} {CF fF CT fT : Addr} {fdF fdT : FuncData}
structure SignTxt (K : PySem.W.Frag) (P : Program) (w : World) (mg : Str → Option Value) (a : Addr) (xs : List (Key × Value)) : Prop where
  g : mg "SIGNS" = some (.ref a)
  wd : WD K P w a xs
  yes : ∀ c : UInt8, SIGNS.contains c = true → ∃ t, valueAt xs (.inl (c.toNat : Int)) = some (.str (kStr (.sign c.toNat)) t)
  no : ∀ c : UInt8, SIGNS.contains c = false → valueAt xs (.inl (c.toNat : Int)) = none
/-! ### token_at -/
def spToken (K : PySem.W.Frag) (CF CT : Addr) : Sp := fun vs H Q E => ∃ (a : Addr) (b : Bytes) (p : Nat), vs = [.ref a, .int (p : Int)] ∧ SqL K H a (tx b) ∧ p < b.length ∧
  (token (b.drop p) = none → ∀ d H', Same H H' → FltAt H' d ⟨2, p⟩ → E (.ref CF) (some d) H') ∧
  (∀ x, token (b.drop p) = some x → ∀ q H', Same H H' → TokAt CT H' q ⟨p, x.1⟩ (p + x.2) → Q (.ref q) H')
theorem sc_token_at : FnScope ["text", "place", "byte"] ["text", "place"] (defScope s_token_at) := ⟨rfl, rfl, rfl, by decide +kernel, rfl, by decide +kernel, by decide +kernel⟩

theorem ok_token_at {f aS : Addr} {xS : List (Key × Value)} {fd : FuncData} (F : Fun K "token_at" "token_at" s_token_at f fd) (gN : ∃ t, mg "NO_TOKEN" = some (.int 2 t)) (TS : SignTxt K P w mg aS xS)
    (T_Fault : FaultTxt K mg CF fF) (o_Fault : FnOk P w K mg base CX0 1 fF fdF ["self", "code", "place"] (spFault CF)) (b_Fault : Binds K fdF ["self", "code", "place"] [])
    (T_Token : TokTxt K mg CT fT) (o_Token : FnOk P w K mg base CX0 1 fT fdT ["self", "kind", "place", "end", "value"] (spTok CT)) (b_Token : Binds K fdT ["self", "kind", "place", "end", "value"] [])
    (D_is_letter : Df P w K mg base CX0 1 "is_letter" ["byte"] spLetter) (D_is_digit : Df P w K mg base CX0 1 "is_digit" ["byte"] spDigit)
    (D_word_at : Df P w K mg base (L2.CX P w) 3 "word_at" ["text", "place"] (spWord K CF CT)) (D_number_at : Df P w K mg base (L2.CX P w) 3 "number_at" ["text", "place"] (spNumber K CF CT)) :
    FnOk P w K mg base (L2.CX P w) 4 f fd ["text", "place"] (spToken K CF CT) := by
  obtain ⟨tN, g_NO_TOKEN⟩ := gN
  have g_SIGNS := TS.g
  obtain ⟨f_is_letter, fd_is_letter, m_is_letter, o_is_letter, k_is_letter, b_is_letter⟩ := D_is_letter
  obtain ⟨f_is_digit, fd_is_digit, m_is_digit, o_is_digit, k_is_digit, b_is_digit⟩ := D_is_digit
  obtain ⟨f_word_at, fd_word_at, m_word_at, o_word_at, k_word_at, b_word_at⟩ := D_word_at
  obtain ⟨f_number_at, fd_number_at, m_number_at, o_number_at, k_number_at, b_number_at⟩ := D_number_at
  refine F.okX sc_token_at (fun vs H Q E h => ?_) (fun cdv A outer s H vs Q E hr h => ⟨_, (pss_cons (ps_set (i := 2) sc_token_at.nd rfl (.inl rfl) (pe_ix ix_list (pv 0) (pv 1) (fun _ _ => rfl)))
      (pss_cons (ps_if (pt_val (pe_call o_is_letter (hr.mono (by decide)) rfl m_is_letter k_is_letter b_is_letter .nil pass0 (pa_cons (pv 2) pa_nil)))
        (pss_one (ps_ret (pe_call o_word_at (hr.mono (by decide)) rfl m_word_at k_word_at b_word_at .nil (passes_call (takes_of rfl rfl rfl rfl) (fun _ _ _ _ h => h)) (pa_cons (pv 0) (pa_cons (pv 1) pa_nil)))))
        pss_nil)
      (pss_cons (ps_if (pt_val (pe_call o_is_digit (hr.mono (by decide)) rfl m_is_digit k_is_digit b_is_digit .nil pass0 (pa_cons (pv 2) pa_nil)))
        (pss_one (ps_ret (pe_call o_number_at (hr.mono (by decide)) rfl m_number_at k_number_at b_number_at .nil (passes_call (takes_of rfl rfl rfl rfl) (fun _ _ _ _ h => h)) (pa_cons (pv 0) (pa_cons (pv 1) pa_nil)))))
        pss_nil)
      (pss_cons (ps_if (pt_cmpR op_in_wd (pv 2) (pe_glob (v := .ref aS) rfl g_SIGNS rfl) (by rfl))
        (pss_one (ps_ret (pe_make T_Token.mkC o_Token (hr.mono (by decide)) rfl T_Token.g b_Token .nil pass0 (pa_cons (pe_ix ix_wd (pe_glob (v := .ref aS) rfl g_SIGNS rfl) (pv 2) (fun _ _ => rfl)) (pa_cons (pv 1) (pa_cons (pe_op op_add (pv 1) pe_int) (pa_cons pe_int pa_nil)))))))
        pss_nil)
      (pss_one (ps_raise rfl (takes_of rfl rfl rfl rfl) (pmk_err T_Fault.er T_Fault.iC T_Fault.tI o_Fault (hr.mono (by decide)) b_Fault .nil pass0 rfl T_Fault.gC (pa_cons (pe_glob (v := .int 2) rfl g_NO_TOKEN ⟨_, rfl⟩) (pa_cons (pv 1) pa_nil))))))))), ?_⟩)
  · obtain ⟨a, b, p, rfl, _⟩ := h
    rfl
  · obtain ⟨a, b, p, rfl, hS, hp, kE, kQ⟩ := h
    obtain ⟨c, hc⟩ : ∃ c, b[p]? = some c := ⟨b[p], by simp [hp]⟩
    have hd := drop_cons hc
    refine ⟨_, rfl, _, rfl, _, _, _, _, rfl, rfl, hS, tx_at hc, ?_⟩
    refine ⟨_, rfl, c, rfl, _, rfl, ?_⟩
    cases hl : isLetter c with
    | true =>
      rw [hd, token_letter hl, ← hd] at kE kQ
      refine if_t rfl ⟨_, rfl, _, rfl, a, b, p, rfl, hS, Nat.le_of_lt hp, fun h16 => kE (if_pos h16), fun h16 q H' s1 t1 => kQ _ (if_neg (Nat.not_lt.mpr h16)) q H' s1 t1⟩
    | false =>
      refine if_f rfl ⟨_, rfl, c, rfl, _, rfl, ?_⟩
      cases hg : isDigit c with
      | true =>
        rw [hd, token_digit hl hg, ← hd] at kE kQ
        refine if_t rfl ⟨_, rfl, _, rfl, a, b, p, c, rfl, hS, hc, hg, fun e => kE (by rw [e]; rfl), fun n e q H' s1 t1 => kQ (.num n, ((b.drop p).takeWhile isDigit).length) (by rw [e]; rfl) q H' s1 t1⟩
      | false =>
        rw [hd, token_sign hl hg] at kE kQ
        refine if_f rfl ⟨_, rfl, aS, .inl (c.toNat : Int), xS, rfl, rfl, TS.wd, _, rfl, ?_⟩
        cases hs : SIGNS.contains c with
        | true =>
          obtain ⟨t, hv⟩ := TS.yes c hs
          rw [hv]
          rw [hs] at kQ
          refine if_t rfl ⟨_, rfl, aS, .inl (c.toNat : Int), xS, _, .str (kStr (.sign c.toNat)), rfl, rfl, TS.wd, hv, ⟨t, rfl⟩, _, rfl, _, rfl, _, _, rfl, rfl, ?_⟩
          intro x dx nx ndx ne
          refine ⟨x, dx, _, _, _, _, rfl, upd_same, fun H2 h2 k2 => ⟨rfl, ?_⟩⟩
          exact kQ (.sign c.toNat, 1) (if_pos rfl) x H2 (Same.made nx ndx k2) ⟨dx, _, h2, True.intro⟩
        | false =>
          rw [TS.no c hs]
          rw [hs] at kE
          exact if_f rfl ⟨_, rfl, fault_made (W := E) (kE (if_neg Bool.false_ne_true))⟩
end
end Off
end
section
set_option Elab.async false
set_option linter.all false
set_option maxRecDepth 100000
set_option maxHeartbeats 4000000
namespace Off
open PySem PySem.Spec PyProof.Rows L2
open VaskyBase (Bytes isLetter isDigit isBlank token PTok Toks word decimal numberOf SIGNS)
/-- the tokens' objects -/
def ToksAt (C : Addr) (H : Hp) (as : List Addr) (ts : List PTok) : Prop := as.length = ts.length ∧ ∀ (i : Nat) (t : PTok), ts[i]? = some t → ∃ a e, as[i]? = some a ∧ TokAt C H a t e
theorem ToksAt.same {C : Addr} {H H' : Hp} {as : List Addr} {ts : List PTok} (s : Same H H') (h : ToksAt C H as ts) : ToksAt C H' as ts :=
  ⟨h.1, fun i t e => by
    obtain ⟨a, n, h1, h2⟩ := h.2 i t e
    exact ⟨a, n, h1, h2.same s⟩⟩
theorem ValAt.lst {H : Hp} {D : Addr} {xs : List V} {o : HO} {v : V} (hD : H D = some (.lst xs)) : ∀ {t : VaskyBase.Tok}, ValAt H v t → ValAt (upd H D o) v t
  | .name b, ⟨q, e, h⟩ => ⟨q, e, by rw [upd_ne (ne_of h hD (by intro z; cases z))]; exact h⟩
  | .num _, h => h
  | .sign _, _ => True.intro
  | .last, _ => True.intro
theorem TokAt.lst {C : Addr} {H : Hp} {D : Addr} {xs : List V} {o : HO} {a : Addr} {t : PTok} {e : Nat} (hD : H D = some (.lst xs)) (h : TokAt C H a t e) : TokAt C (upd H D o) a t e := by
  obtain ⟨dx, v, h1, h2⟩ := h
  exact ⟨dx, v, by rw [upd_ne (ne_of h1 hD (by intro z; cases z))]; exact h1, h2.lst hD⟩
theorem ToksAt.lst {C : Addr} {H : Hp} {D : Addr} {xs : List V} {o : HO} {as : List Addr} {ts : List PTok} (hD : H D = some (.lst xs)) (h : ToksAt C H as ts) : ToksAt C (upd H D o) as ts :=
  ⟨h.1, fun i t e => by
    obtain ⟨a, n, h1, h2⟩ := h.2 i t e
    exact ⟨a, n, h1, h2.lst hD⟩⟩
theorem ToksAt.snoc {C : Addr} {H : Hp} {as : List Addr} {ts : List PTok} {a : Addr} {t : PTok} {e : Nat} (h : ToksAt C H as ts) (ht : TokAt C H a t e) : ToksAt C H (as ++ [a]) (ts ++ [t]) := by
  refine ⟨by rw [List.length_append, List.length_append, h.1]; rfl, fun i u hi => ?_⟩
  rcases Nat.lt_or_ge i ts.length with l | l
  · rw [List.getElem?_append_left l] at hi
    obtain ⟨b, n, h1, h2⟩ := h.2 i u hi
    exact ⟨b, n, by rw [List.getElem?_append_left (by rw [h.1]; exact l)]; exact h1, h2⟩
  · rw [List.getElem?_append_right l] at hi
    have : i - ts.length = 0 := by
      have := (List.getElem?_eq_some_iff.mp hi).1
      rw [List.length_singleton] at this
      omega
    rw [this] at hi
    cases hi
    exact ⟨a, e, by rw [List.getElem?_append_right (by rw [h.1]; exact l), h.1, this]; rfl, ht⟩
theorem map_map_ok {A B C : Type} (x : Except VaskyBase.Fault A) (f : A → B) (g : B → C) : (x.map f).map g = x.map fun a => g (f a) := by
  cases x <;> rfl
section
variable {P : Program} {w : World} {K : PySem.W.Frag} {mg : Str → Option Value} {base : Heap} {CF fF CT fT : Addr} {fdF fdT : FuncData}
theorem tok_end_fld (k p e v : V) : (fTok k p e v).lookup ("end" : Str) = some e := (lk_past (by decide +kernel)).trans ((lk_past (by decide +kernel)).trans lk_here)
theorem tok_kind_fld (k p e v : V) : (fTok k p e v).lookup ("kind" : Str) = some k := lk_here
theorem tok_place_fld (k p e v : V) : (fTok k p e v).lookup ("place" : Str) = some p := (lk_past (by decide +kernel)).trans lk_here
theorem tok_value_fld (k p e v : V) : (fTok k p e v).lookup ("value" : Str) = some v := (lk_past (by decide +kernel)).trans ((lk_past (by decide +kernel)).trans ((lk_past (by decide +kernel)).trans lk_here))
/-! ### tokens_of -/
def spTokens (K : PySem.W.Frag) (CF CT : Addr) : Sp := fun vs H Q E => ∃ (a : Addr) (b : Bytes), vs = [.ref a] ∧ SqL K H a (tx b) ∧ b.length ≤ 100000 ∧
  (∀ f, lexW 0 b = .error f → ∀ d H', Same H H' → FltAt H' d f → E (.ref CF) (some d) H') ∧
  (∀ ts, lexW 0 b = .ok ts → ∀ (q : Addr) (as : List Addr) H', Same H H' → H' q = some (.lst (as.map V.ref)) → ToksAt CT H' as ts → Q (.ref q) H')
theorem sc_tokens_of : FnScope ["text", "tokens", "place", "token"] ["text"] (defScope s_tokens_of) := ⟨rfl, rfl, rfl, by decide +kernel, rfl, by decide +kernel, by decide +kernel⟩

theorem ok_tokens_of {f : Addr} {fd : FuncData} (F : Fun K "tokens_of" "tokens_of" s_tokens_of f fd) (B : Blt mg)
    (T_Token : TokTxt K mg CT fT) (o_Token : FnOk P w K mg base CX0 1 fT fdT ["self", "kind", "place", "end", "value"] (spTok CT)) (b_Token : Binds K fdT ["self", "kind", "place", "end", "value"] [])
    (D_behind_blanks : Df P w K mg base CX0 2 "behind_blanks" ["text", "place"] (spBlanks K))
    (D_token_at : Df P w K mg base (L2.CX P w) 4 "token_at" ["text", "place"] (spToken K CF CT)) :
    FnOk P w K mg base (L2.CX P w) 5 f fd ["text"] (spTokens K CF CT) := by
  obtain ⟨f_behind_blanks, fd_behind_blanks, m_behind_blanks, o_behind_blanks, k_behind_blanks, b_behind_blanks⟩ := D_behind_blanks
  obtain ⟨f_token_at, fd_token_at, m_token_at, o_token_at, k_token_at, b_token_at⟩ := D_token_at
  refine F.okX sc_tokens_of (fun vs H Q E h => ?_) (fun cdv A outer s H vs Q E hr h => ⟨_, (pss_cons (ps_set (i := 1) sc_tokens_of.nd rfl (.inl rfl) (pe_lst pa_nil))
      (pss_cons (ps_set (i := 2) sc_tokens_of.nd rfl (.inl rfl) (pe_call o_behind_blanks (hr.mono (by decide)) rfl m_behind_blanks k_behind_blanks b_behind_blanks .nil pass0 (pa_cons (pv 0) (pa_cons pe_int pa_nil))))
      (pss_cons (ps_while (passes_of rfl) (pt_cmpR op_lt (pv 2) (pe_callB call_len_seq (by rfl) B.len PySem.boot_len (pa_cons (pv 0) pa_nil)) (nomark _))
        (pss_cons (ps_set (i := 3) sc_tokens_of.nd rfl (.inl rfl) (pe_call o_token_at (hr.mono (by decide)) rfl m_token_at k_token_at b_token_at .nil (passes_call (takes_of rfl rfl rfl rfl) (fun _ _ _ _ h => h)) (pa_cons (pv 0) (pa_cons (pv 2) pa_nil))))
      (pss_cons (ps_expr (pe_bm PySem.F.plainAttrs_list PySem.F.slot_list_append PySem.F.type_list_append mt_append (pv 1) (pa_cons (pv 3) pa_nil)))
      (pss_one (ps_set (i := 2) sc_tokens_of.nd rfl (.inl rfl) (pe_call o_behind_blanks (hr.mono (by decide)) rfl m_behind_blanks k_behind_blanks b_behind_blanks .nil pass0 (pa_cons (pv 0) (pa_cons (pe_fld (pv 3) rfl) pa_nil))))))))
      (pss_cons (ps_expr (pe_bm PySem.F.plainAttrs_list PySem.F.slot_list_append PySem.F.type_list_append mt_append (pv 1) (pa_cons (pe_make T_Token.mkC o_Token (hr.mono (by decide)) rfl T_Token.g b_Token .nil pass0 (pa_cons pe_str (pa_cons (pe_callB call_len_seq (by rfl) B.len PySem.boot_len (pa_cons (pv 0) pa_nil)) (pa_cons (pe_callB call_len_seq (by rfl) B.len PySem.boot_len (pa_cons (pv 0) pa_nil)) (pa_cons pe_int pa_nil))))) pa_nil)))
      (pss_one (ps_ret (pv 1))))))), ?_⟩)
  · obtain ⟨a, b, rfl, _⟩ := h
    rfl
  · obtain ⟨a, b, rfl, hS, hlen, kE, kQ⟩ := h
    refine ⟨by decide, fun D hD => ?_⟩
    have sD : Same H (upd H D (.lst [])) := same_new hD
    refine ⟨_, rfl, a, b, 0, rfl, sD.seq hS, Nat.zero_le _, ?_⟩
    have st0 := sk_stop b
    have l0 := lexW_skip 0 b
    rw [Nat.zero_add] at l0
    have sb := sk_bound b
    refine while_w (fun m σ H' => ∃ (p : Nat) (as : List Addr) (ts : List PTok) (v : Option V), σ = [some (.ref a), some (.ref D), some (.int (p : Int)), v] ∧ m = b.length - p ∧ p ≤ b.length ∧ as.length ≤ p ∧
        (∀ b o, H b = some o → H' b = some o) ∧ H' D = some (.lst (as.map V.ref)) ∧ ToksAt CT H' as ts ∧ (∀ c r, b.drop p = c :: r → isBlank c = false ∧ (c == 35) = false) ∧ lexW 0 b = (lexW p (b.drop p)).map (ts ++ ·))
      (fun σ H' => ∃ (as : List Addr) (ts : List PTok) (x : Option V) (v : Option V), σ = [some (.ref a), some (.ref D), x, v] ∧ as.length ≤ b.length ∧
        (∀ b o, H b = some o → H' b = some o) ∧ H' D = some (.lst (as.map V.ref)) ∧ ToksAt CT H' as ts ∧ lexW 0 b = .ok (ts ++ [⟨b.length, .last⟩]))
      ⟨_, 0 + sk (b.drop 0), [], [], none, rfl, rfl, by rw [List.drop_zero]; omega, Nat.zero_le _, sD, upd_same, ⟨rfl, fun i t e => by cases e⟩, by rw [List.drop_zero, Nat.zero_add]; exact st0, ?_⟩ ?_ ?_
    · rw [List.drop_zero, Nat.zero_add, l0]
      cases lexW (sk b) (List.drop (sk b) b) <;> rfl
    · rintro σ H' ⟨as, ts, x, v, rfl, hl, s1, h1, t1, e⟩
      refine ⟨_, rfl, .inl ⟨rfl, _, SqL.of h1⟩, ?_⟩
      refine ⟨_, rfl, a, _, rfl, .inl ((show Same H H' from s1).seq hS), _, rfl, a, _, rfl, .inl ((show Same H H' from s1).seq hS), ?_⟩
      intro x dx nx ndx ne
      rw [tx_len]
      refine ⟨x, dx, _, _, _, _, rfl, upd_same, fun H2 h2 k2 => ⟨rfl, ?_⟩⟩
      have s2 : Same H' H2 := Same.made nx ndx k2
      refine ⟨D, _, _, rfl, rfl, s2 _ _ h1, (by rw [List.length_map, sizeLine_eq]; omega), ?_⟩
      refine ⟨_, rfl, ?_⟩
      have hD2 := s2 _ _ h1
      refine kQ _ e D (as ++ [x]) _ (fun b o h => ?_) ?_ ?_
      · rw [upd_ne (ne_of_none h hD)]
        exact s2 _ _ (s1 _ _ h)
      · rw [List.map_append]
        exact upd_same
      · refine ((t1.same s2).lst hD2).snoc (e := b.length) (TokAt.lst hD2 ⟨dx, _, h2, True.intro⟩)
    · rintro fin m σ H' ⟨p, as, ts, v, rfl, rfl, hp, hl, s1, h1, t1, st, e⟩
      refine ⟨_, rfl, _, rfl, a, _, rfl, .inl ((show Same H H' from s1).seq hS), _, _, rfl, rfl, _, rfl, ?_⟩
      rw [tx_len]
      by_cases c : p < b.length
      · refine if_t (decide_eq_true (by omega)) ⟨fun σ' H' => _, fun _ _ h => h, ?_⟩
        obtain ⟨z, hz⟩ : ∃ z, b[p]? = some z := ⟨b[p], by simp [c]⟩
        have hd := drop_cons hz
        obtain ⟨nb, n35⟩ := st z _ hd
        refine ⟨_, rfl, _, rfl, a, b, p, rfl, (show Same H H' from s1).seq hS, c, fun ht d H1 s2 f1 => ?_, fun x ht q H1 s2 q1 => ?_⟩
        · refine kE ⟨2, p⟩ ?_ d H1 (Same.trans s1 s2) f1
          rw [hd] at ht
          rw [e, hd, lexW_bad nb n35 ht]
          rfl
        · refine ⟨_, rfl, .inl ⟨rfl, _, SqL.of (s2 _ _ h1)⟩, _, rfl, D, _, _, rfl, rfl, s2 _ _ h1, (by rw [List.length_map, sizeLine_eq]; omega), ?_⟩
          have hD2 := s2 _ _ h1
          have q2 := TokAt.lst (o := .lst (as.map V.ref ++ [.ref q])) hD2 q1
          obtain ⟨dx, v', hq, _⟩ := q2
          have tp := token_pos ht
          rw [List.length_drop] at tp
          have s3 : ∀ b o, H b = some o → upd H1 D (.lst (as.map V.ref ++ [.ref q])) b = some o := fun b o h => by
            rw [upd_ne (ne_of_none h hD)]
            exact s2 _ _ (s1 _ _ h)
          refine ⟨_, rfl, _, rfl, q, CT, dx, _, _, rfl, hq, T_Token.cl, T_Token.n3, tok_end_fld _ _ _ _, a, b, p + x.2, rfl, (show Same H _ from s3).seq hS, by omega, ?_⟩
          have sb2 := sk_bound (b.drop (p + x.2))
          rw [List.length_drop] at sb2
          refine ⟨_, by omega, p + x.2 + sk (b.drop (p + x.2)), as ++ [q], ts ++ [⟨p, x.1⟩], _, rfl, rfl, by omega, by rw [List.length_append, List.length_singleton]; omega, s3, by rw [List.map_append]; exact upd_same, ?_, ?_, ?_⟩
          · exact ((t1.same s2).lst hD2).snoc (q1.lst hD2)
          · rw [← List.drop_drop]
            exact sk_stop _
          · rw [hd] at ht
            rw [e, hd, lexW_tok nb n35 ht, ← hd, List.drop_drop, map_map_ok, lexW_skip, List.drop_drop]
            cases lexW (p + x.2 + sk (List.drop (p + x.2) b)) (List.drop (p + x.2 + sk (List.drop (p + x.2) b)) b) with
            | error f => rfl
            | ok l =>
              show Except.ok (ts ++ (⟨p, x.1⟩ :: l)) = Except.ok ((ts ++ [⟨p, x.1⟩]) ++ l)
              rw [List.append_assoc]
              rfl
      · refine if_f (decide_eq_false (by omega)) (fin _ _ ⟨as, ts, _, v, rfl, by omega, s1, h1, t1, ?_⟩)
        have : p = b.length := by omega
        subst this
        rw [e, List.drop_eq_nil_of_le (Nat.le_refl _), lexW_nil]
        rfl
end
end Off
end
section
set_option Elab.async false
set_option linter.all false
set_option maxRecDepth 100000
set_option maxHeartbeats 4000000
namespace Off
open PySem PySem.Spec PyProof.Rows L2
open VaskyBase (Bytes isLetter isDigit isBlank token PTok Toks word decimal numberOf SIGNS tokEq)
/-! ### kinds -/
def SgOk : VaskyBase.Tok → Prop
  | .sign c => c = 44 ∨ c = 58 ∨ c = 59 ∨ c = 45
  | _ => True
def Ends (l : List PTok) : Prop := ∃ pre p, l = pre ++ [⟨p, .last⟩]
theorem Ends.next {t : PTok} {l : List PTok} (h : Ends (t :: l)) (n : t.tok ≠ .last) : Ends l := by
  obtain ⟨pre, p, e⟩ := h
  cases pre with
  | nil =>
    cases e
    exact absurd rfl n
  | cons x pre =>
    cases e
    exact ⟨pre, p, rfl⟩
theorem Ends.ne {l : List PTok} (h : Ends l) : ∃ t r, l = t :: r := by
  obtain ⟨pre, p, rfl⟩ := h
  cases pre with
  | nil => exact ⟨_, _, rfl⟩
  | cons x pre => exact ⟨_, _, rfl⟩
theorem token_sg {l : Bytes} {x : VaskyBase.Tok × Nat} (h : token l = some x) : SgOk x.1 ∧ x.1 ≠ .last := by
  cases l with
  | nil => cases h
  | cons b r =>
    cases hl : isLetter b with
    | true =>
      rw [token_letter hl] at h
      split at h
      · cases h
      · cases h
        exact ⟨True.intro, fun z => by cases z⟩
    | false =>
      cases hd : isDigit b with
      | true =>
        rw [token_digit hl hd] at h
        cases e : numberOf ((b :: r).takeWhile isDigit) with
        | none =>
          rw [e] at h
          cases h
        | some n =>
          rw [e] at h
          cases h
          exact ⟨True.intro, fun z => by cases z⟩
      | false =>
        rw [token_sign hl hd] at h
        split at h
        · rename_i hc
          cases h
          refine ⟨?_, fun z => by cases z⟩
          have hm : b ∈ SIGNS := List.contains_iff_mem.mp hc
          simp only [SIGNS, List.mem_cons, List.not_mem_nil, or_false] at hm
          rcases hm with rfl | rfl | rfl | rfl
          · exact .inl rfl
          · exact .inr (.inl rfl)
          · exact .inr (.inr (.inl rfl))
          · exact .inr (.inr (.inr rfl))
        · cases h
theorem lexW_ok : ∀ (n a : Nat) (l : Bytes) (ts : Toks), l.length ≤ n → lexW a l = .ok ts → Ends ts ∧ ∀ t ∈ ts, SgOk t.tok := by
  intro n
  induction n with
  | zero =>
    intro a l ts hn h
    have : l = [] := List.eq_nil_of_length_eq_zero (Nat.le_zero.mp hn)
    subst this
    rw [lexW_nil] at h
    cases h
    exact ⟨⟨[], a, rfl⟩, fun t ht => by rw [List.mem_singleton] at ht; subst ht; exact True.intro⟩
  | succ n ih =>
    intro a l ts hn h
    cases l with
    | nil =>
      rw [lexW_nil] at h
      cases h
      exact ⟨⟨[], a, rfl⟩, fun t ht => by rw [List.mem_singleton] at ht; subst ht; exact True.intro⟩
    | cons c r =>
      have hr : r.length ≤ n := Nat.le_of_succ_le_succ hn
      cases hb : isBlank c with
      | true =>
        rw [lexW_blank hb] at h
        exact ih _ _ _ hr h
      | false =>
        cases h3 : (c == 35) with
        | true =>
          rw [lexW_remark hb h3] at h
          exact ih _ _ _ (Nat.le_trans (dropWhile_le _ _) hr) h
        | false =>
          cases ht : token (c :: r) with
          | none =>
            rw [lexW_bad hb h3 ht] at h
            cases h
          | some x =>
            rw [lexW_tok hb h3 ht] at h
            have tp := token_pos ht
            have sg := token_sg ht
            cases e : lexW (a + x.2) ((c :: r).drop x.2) with
            | error f =>
              rw [e] at h
              cases h
            | ok l =>
              rw [e] at h
              cases h
              obtain ⟨⟨pre, p, hp⟩, hs⟩ := ih _ _ _ (by rw [List.length_drop, List.length_cons]; omega) e
              refine ⟨⟨⟨a, x.1⟩ :: pre, p, by rw [hp]; rfl⟩, fun t ht => ?_⟩
              rcases List.mem_cons.mp ht with rfl | ht
              · exact sg.1
              · exact hs t ht
theorem kindW_up (b : Bytes) : (kindW b = wUp) ↔ b = word "up" := by
  unfold kindW
  constructor
  · intro h
    by_cases e1 : b = word "measures"
    · rw [if_pos e1] at h; exact absurd h (by decide +kernel)
    · rw [if_neg e1] at h
      by_cases e2 : b = word "up"
      · exact e2
      · rw [if_neg e2] at h
        by_cases e3 : b = word "down"
        · rw [if_pos e3] at h; exact absurd h (by decide +kernel)
        · rw [if_neg e3] at h
          by_cases e4 : b = word "item"
          · rw [if_pos e4] at h; exact absurd h (by decide +kernel)
          · rw [if_neg e4] at h; exact absurd h (by decide +kernel)
  · intro h
    subst h
    decide +kernel
theorem kindW_down (b : Bytes) : (kindW b = wDown) ↔ b = word "down" := by
  unfold kindW
  constructor
  · intro h
    by_cases e1 : b = word "measures"
    · rw [if_pos e1] at h; exact absurd h (by decide +kernel)
    · rw [if_neg e1] at h
      by_cases e2 : b = word "up"
      · rw [if_pos e2] at h; exact absurd h (by decide +kernel)
      · rw [if_neg e2] at h
        by_cases e3 : b = word "down"
        · exact e3
        · rw [if_neg e3] at h
          by_cases e4 : b = word "item"
          · rw [if_pos e4] at h; exact absurd h (by decide +kernel)
          · rw [if_neg e4] at h; exact absurd h (by decide +kernel)
  · intro h
    subst h
    decide +kernel
theorem kindW_item (b : Bytes) : (kindW b = wItem) ↔ b = word "item" := by
  unfold kindW
  constructor
  · intro h
    by_cases e1 : b = word "measures"
    · rw [if_pos e1] at h; exact absurd h (by decide +kernel)
    · rw [if_neg e1] at h
      by_cases e2 : b = word "up"
      · rw [if_pos e2] at h; exact absurd h (by decide +kernel)
      · rw [if_neg e2] at h
        by_cases e3 : b = word "down"
        · rw [if_pos e3] at h; exact absurd h (by decide +kernel)
        · rw [if_neg e3] at h
          by_cases e4 : b = word "item"
          · exact e4
          · rw [if_neg e4] at h; exact absurd h (by decide +kernel)
  · intro h
    subst h
    decide +kernel
theorem kindW_measures (b : Bytes) : (kindW b = wMeasures) ↔ b = word "measures" := by
  unfold kindW
  constructor
  · intro h
    by_cases e1 : b = word "measures"
    · exact e1
    · rw [if_neg e1] at h
      by_cases e2 : b = word "up"
      · rw [if_pos e2] at h; exact absurd h (by decide +kernel)
      · rw [if_neg e2] at h
        by_cases e3 : b = word "down"
        · rw [if_pos e3] at h; exact absurd h (by decide +kernel)
        · rw [if_neg e3] at h
          by_cases e4 : b = word "item"
          · rw [if_pos e4] at h; exact absurd h (by decide +kernel)
          · rw [if_neg e4] at h; exact absurd h (by decide +kernel)
  · intro h
    subst h
    decide +kernel
theorem kindW_name (b : Bytes) : (kindW b = wName) ↔ VaskyBase.RESERVED.contains b = false := by
  have hr : VaskyBase.RESERVED.contains b = decide (b = word "measures" ∨ b = word "up" ∨ b = word "down" ∨ b = word "item") := by
    rw [Bool.eq_iff_iff, List.contains_iff_mem, decide_eq_true_iff]
    show b ∈ [word "measures", word "up", word "down", word "item"] ↔ _
    simp only [List.mem_cons, List.not_mem_nil, or_false]
  rw [hr, decide_eq_false_iff_not]
  unfold kindW
  constructor
  · intro h e
    by_cases e1 : b = word "measures"
    · rw [if_pos e1] at h; exact absurd h (by decide +kernel)
    · rw [if_neg e1] at h
      by_cases e2 : b = word "up"
      · rw [if_pos e2] at h; exact absurd h (by decide +kernel)
      · rw [if_neg e2] at h
        by_cases e3 : b = word "down"
        · rw [if_pos e3] at h; exact absurd h (by decide +kernel)
        · rw [if_neg e3] at h
          by_cases e4 : b = word "item"
          · rw [if_pos e4] at h; exact absurd h (by decide +kernel)
          · exact e.elim e1 (fun e => e.elim e2 (fun e => e.elim e3 e4))
  · intro h
    rw [if_neg fun e => h (.inl e), if_neg fun e => h (.inr (.inl e)), if_neg fun e => h (.inr (.inr (.inl e))), if_neg fun e => h (.inr (.inr (.inr e)))]
/-- a kind that is asked for, and the token that it means -/
structure KindIs (k : Str) (t0 : VaskyBase.Tok) : Prop where
  is : ∀ t, SgOk t → (kStr t = k ↔ tokEq t t0 = true)
  nl : t0 ≠ .last
theorem word_is {k : Str} {w0 : Bytes} (h : ∀ b, kindW b = k ↔ b = w0) (n1 : ¬ ("number" : Str) = k) (n2 : ¬ ("," : Str) = k) (n3 : ¬ (":" : Str) = k) (n4 : ¬ (";" : Str) = k) (n5 : ¬ ("-" : Str) = k) (n6 : ¬ ("end" : Str) = k) : KindIs k (.name w0) := by
  refine ⟨fun t st => ?_, fun z => by cases z⟩
  cases t with
  | name b => exact (h b).trans (beq_iff_eq (a := b) (b := w0)).symm
  | num n => exact ⟨fun e => absurd e n1, fun e => by cases e⟩
  | last => exact ⟨fun e => absurd e n6, fun e => by cases e⟩
  | sign c =>
    rcases st with rfl | rfl | rfl | rfl
    · exact ⟨fun e => absurd e n2, fun e => by cases e⟩
    · exact ⟨fun e => absurd e n3, fun e => by cases e⟩
    · exact ⟨fun e => absurd e n4, fun e => by cases e⟩
    · exact ⟨fun e => absurd e n5, fun e => by cases e⟩
theorem is_up : KindIs wUp (.name (word "up")) := word_is kindW_up (by decide +kernel) (by decide +kernel) (by decide +kernel) (by decide +kernel) (by decide +kernel) (by decide +kernel)
theorem is_down : KindIs wDown (.name (word "down")) := word_is kindW_down (by decide +kernel) (by decide +kernel) (by decide +kernel) (by decide +kernel) (by decide +kernel) (by decide +kernel)
theorem is_item : KindIs wItem (.name (word "item")) := word_is kindW_item (by decide +kernel) (by decide +kernel) (by decide +kernel) (by decide +kernel) (by decide +kernel) (by decide +kernel)
theorem is_measures : KindIs wMeasures (.name (word "measures")) := word_is kindW_measures (by decide +kernel) (by decide +kernel) (by decide +kernel) (by decide +kernel) (by decide +kernel) (by decide +kernel)
theorem kindW_mem (b : Bytes) : kindW b = wMeasures ∨ kindW b = wUp ∨ kindW b = wDown ∨ kindW b = wItem ∨ kindW b = wName := by
  unfold kindW
  split
  · exact .inl rfl
  · split
    · exact .inr (.inl rfl)
    · split
      · exact .inr (.inr (.inl rfl))
      · split
        · exact .inr (.inr (.inr (.inl rfl)))
        · exact .inr (.inr (.inr (.inr rfl)))
theorem not_word {k : Str} (b : Bytes) (n1 : ¬ wMeasures = k) (n2 : ¬ wUp = k) (n3 : ¬ wDown = k) (n4 : ¬ wItem = k) (n5 : ¬ wName = k) : ¬ kindW b = k := fun e => by
  rcases kindW_mem b with h | h | h | h | h <;> rw [h] at e
  · exact n1 e
  · exact n2 e
  · exact n3 e
  · exact n4 e
  · exact n5 e
theorem sign_is {k : Str} {c0 : Nat} (hc : ∀ c, (c = 44 ∨ c = 58 ∨ c = 59 ∨ c = 45) → (kStr (.sign c) = k ↔ c = c0)) (n1 : ¬ wMeasures = k) (n2 : ¬ wUp = k) (n3 : ¬ wDown = k) (n4 : ¬ wItem = k) (n5 : ¬ wName = k) (n6 : ¬ ("number" : Str) = k) (n7 : ¬ ("end" : Str) = k) : KindIs k (.sign c0) := by
  refine ⟨fun t st => ?_, fun z => by cases z⟩
  cases t with
  | name b => exact ⟨fun e => absurd e (not_word b n1 n2 n3 n4 n5), fun e => by cases e⟩
  | num n => exact ⟨fun e => absurd e n6, fun e => by cases e⟩
  | last => exact ⟨fun e => absurd e n7, fun e => by cases e⟩
  | sign c => exact (hc c st).trans (beq_iff_eq (a := c) (b := c0)).symm
theorem is_comma : KindIs "," (.sign 44) := sign_is (fun c h => by rcases h with rfl | rfl | rfl | rfl <;> decide +kernel) (by decide +kernel) (by decide +kernel) (by decide +kernel) (by decide +kernel) (by decide +kernel) (by decide +kernel) (by decide +kernel)
theorem is_colon : KindIs ":" (.sign 58) := sign_is (fun c h => by rcases h with rfl | rfl | rfl | rfl <;> decide +kernel) (by decide +kernel) (by decide +kernel) (by decide +kernel) (by decide +kernel) (by decide +kernel) (by decide +kernel) (by decide +kernel)
theorem is_semi : KindIs ";" (.sign 59) := sign_is (fun c h => by rcases h with rfl | rfl | rfl | rfl <;> decide +kernel) (by decide +kernel) (by decide +kernel) (by decide +kernel) (by decide +kernel) (by decide +kernel) (by decide +kernel) (by decide +kernel)
theorem is_minus : KindIs "-" (.sign 45) := sign_is (fun c h => by rcases h with rfl | rfl | rfl | rfl <;> decide +kernel) (by decide +kernel) (by decide +kernel) (by decide +kernel) (by decide +kernel) (by decide +kernel) (by decide +kernel) (by decide +kernel)
theorem is_num (t : VaskyBase.Tok) (st : SgOk t) : kStr t = "number" ↔ ∃ n, t = .num n := by
  cases t with
  | name b => exact ⟨fun e => absurd e (not_word b (by decide +kernel) (by decide +kernel) (by decide +kernel) (by decide +kernel) (by decide +kernel)), fun ⟨n, e⟩ => by cases e⟩
  | num n => exact ⟨fun _ => ⟨n, rfl⟩, fun _ => rfl⟩
  | last => exact ⟨fun e => absurd e (by decide +kernel), fun ⟨n, e⟩ => by cases e⟩
  | sign c => rcases st with rfl | rfl | rfl | rfl <;> exact ⟨fun e => absurd e (by decide +kernel), fun ⟨n, e⟩ => by cases e⟩
theorem is_name (t : VaskyBase.Tok) (st : SgOk t) : kStr t = wName ↔ ∃ b, t = .name b ∧ VaskyBase.RESERVED.contains b = false := by
  cases t with
  | name b => exact ⟨fun e => ⟨b, rfl, (kindW_name b).mp e⟩, fun ⟨b', e, h⟩ => by cases e; exact (kindW_name b).mpr h⟩
  | num n => exact ⟨fun e => absurd e (show ¬ ("number" : Str) = wName by decide +kernel), fun ⟨n, e, _⟩ => by cases e⟩
  | last => exact ⟨fun e => absurd e (by decide +kernel), fun ⟨n, e, _⟩ => by cases e⟩
  | sign c => rcases st with rfl | rfl | rfl | rfl <;> exact ⟨fun e => absurd e (by decide +kernel), fun ⟨n, e, _⟩ => by cases e⟩
theorem is_last (t : VaskyBase.Tok) (st : SgOk t) : kStr t = "end" ↔ t = .last := by
  cases t with
  | name b => exact ⟨fun e => absurd e (not_word b (by decide +kernel) (by decide +kernel) (by decide +kernel) (by decide +kernel) (by decide +kernel)), fun e => by cases e⟩
  | num n => exact ⟨fun e => absurd e (show ¬ ("number" : Str) = "end" by decide +kernel), fun e => by cases e⟩
  | last => exact ⟨fun _ => rfl, fun _ => rfl⟩
  | sign c => rcases st with rfl | rfl | rfl | rfl <;> exact ⟨fun e => absurd e (by decide +kernel), fun e => by cases e⟩
end Off
end
section
set_option Elab.async false
set_option linter.all false
set_option maxRecDepth 100000
set_option maxHeartbeats 4000000
namespace Off
open PySem PySem.Spec PyProof.Rows L2
open VaskyBase (Bytes isLetter isDigit isBlank token PTok Toks word decimal numberOf SIGNS tokEq)
/-! ### Reader -/
def fRd (D : Addr) (i : Nat) : List (Str × V) := [("tokens", .ref D), ("at", .int (i : Int))]
structure RdTxt (K : PySem.W.Frag) (mg : Str → Option Value) (C fI fS fT : Addr) : Prop where
  cl : Cls K C
  n1 : NoAttr K C "tokens"
  n2 : NoAttr K C "at"
  g : mg "Reader" = some (.ref C)
  mkC : Mk K C fI
  mS : Meth K C "sees" fS
  mT : Meth K C "take" fT
/-- the reader at r: its tokens lie in the list at D; it stands at the i-th -/
def RdIs (C : Addr) (H : Hp) (r D : Addr) (i : Nat) : Prop := ∃ dx, H r = some (.ins C dx (fRd D i))
def TksIs (CT : Addr) (H : Hp) (D : Addr) (ts : List PTok) : Prop := ∃ as : List Addr, H D = some (.lst (as.map V.ref)) ∧ ToksAt CT H as ts
theorem ValAt.kp {H H' : Hp} {r C dx : Addr} {fs : List (Str × V)} {v : V} (hr : H r = some (.ins C dx fs)) (s : Kp r H H') : ∀ {t : VaskyBase.Tok}, ValAt H v t → ValAt H' v t
  | .name b, ⟨q, e, h⟩ => ⟨q, e, s _ _ h (ne_of h hr (by intro z; cases z))⟩
  | .num _, h => h
  | .sign _, _ => True.intro
  | .last, _ => True.intro
theorem TokAt.kp {CR CT : Addr} {H H' : Hp} {r D a : Addr} {i : Nat} {t : PTok} {e : Nat} (hr : RdIs CR H r D i) (s : Kp r H H') (h : TokAt CT H a t e) : TokAt CT H' a t e := by
  obtain ⟨dr, hr⟩ := hr
  obtain ⟨dx, v, h1, h2⟩ := h
  refine ⟨dx, v, s _ _ h1 fun z => ?_, h2.kp hr s⟩
  rw [z, hr] at h1
  cases h1
theorem TksIs.kp {CR CT : Addr} {H H' : Hp} {r D D' : Addr} {i : Nat} {ts : List PTok} (hr : RdIs CR H r D' i) (s : Kp r H H') (h : TksIs CT H D ts) : TksIs CT H' D ts := by
  have hr' := hr
  obtain ⟨dr, hr'⟩ := hr'
  obtain ⟨as, h1, h2, h3⟩ := h
  refine ⟨as, s _ _ h1 (ne_of h1 hr' (by intro z; cases z)), h2, fun i t e => ?_⟩
  obtain ⟨a, n, e1, e2⟩ := h3 i t e
  exact ⟨a, n, e1, e2.kp hr s⟩
theorem TksIs.same {CT : Addr} {H H' : Hp} {D : Addr} {ts : List PTok} (s : Same H H') (h : TksIs CT H D ts) : TksIs CT H' D ts := by
  obtain ⟨as, h1, h2⟩ := h
  exact ⟨as, s _ _ h1, h2.same s⟩
theorem rd_tokens (D : Addr) (i : Nat) : (fRd D i).lookup ("tokens" : Str) = some (.ref D) := lk_here
theorem rd_at (D : Addr) (i : Nat) : (fRd D i).lookup ("at" : Str) = some (.int (i : Int)) := (lk_past (by decide +kernel)).trans lk_here
theorem rd_sees (D : Addr) (i : Nat) : (fRd D i).lookup ("sees" : Str) = none := (lk_past (by decide +kernel)).trans ((lk_past (by decide +kernel)).trans rfl)
theorem rd_take (D : Addr) (i : Nat) : (fRd D i).lookup ("take" : Str) = none := (lk_past (by decide +kernel)).trans ((lk_past (by decide +kernel)).trans rfl)
theorem rd_put (D : Addr) (i j : Nat) : putF "at" (.int (j : Int)) (fRd D i) = fRd D j := (put_past (by decide +kernel)).trans (congrArg _ put_here)
section
variable {P : Program} {w : World} {K : PySem.W.Frag} {mg : Str → Option Value} {base : Heap} {CF fF CT fT CR fRI fRS fRT : Addr} {fdF fdT : FuncData}
def spRdInit (C : Addr) : Sp := fun vs H Q _ => ∃ (a dx D : Addr), vs = [.ref a, .ref D] ∧ H a = some (.ins C dx []) ∧
  ∀ H' : Hp, H' a = some (.ins C dx (fRd D 0)) → (∀ b o, H b = some o → b ≠ a → H' b = some o) → Q .non H'
theorem sc_Reader_init : FnScope ["self", "tokens"] ["self", "tokens"] (defScope s_Reader_init) := ⟨rfl, rfl, rfl, by decide +kernel, rfl, by decide +kernel, by decide +kernel⟩
theorem ok_Reader_init {f : Addr} {fd : FuncData} (F : Fun K "__init__" "Reader.__init__" s_Reader_init f fd) (T_Reader : RdTxt K mg CR fRI fRS fRT) : FnOk P w K mg base CX0 1 f fd ["self", "tokens"] (spRdInit CR) := by
  refine F.ok sc_Reader_init (fun vs H Q E h => ?_) (fun cdv A outer s H vs Q E hr h => ⟨_, (pss_cons (ps_fld (pv 0) (pv 1) rfl)
      (pss_one (ps_fld (pv 0) pe_int rfl))), ?_⟩)
  · obtain ⟨a, dx, D, rfl, _⟩ := h
    rfl
  · obtain ⟨a, dx, D, rfl, ha, q⟩ := h
    refine ⟨_, rfl, _, rfl, a, CR, dx, _, rfl, ha, T_Reader.cl, T_Reader.n1, (by show 0 < 1000; decide), ?_⟩
    refine ⟨_, rfl, a, CR, dx, _, rfl, upd_same, T_Reader.cl, T_Reader.n2, (by show 1 < 1000; decide), ?_⟩
    exact q _ upd_same fun b o e hb => by
      rw [upd_ne hb, upd_ne hb]
      exact e
/-- reader.sees(kind) -/
def spSees (CR CT : Addr) : Sp := fun vs H Q _ => ∃ (r D : Addr) (i : Nat) (ts : List PTok) (k : Str) (t : PTok), vs = [.ref r, .str k] ∧ RdIs CR H r D i ∧ TksIs CT H D ts ∧ ts[i]? = some t ∧ Q (.bl (decide (kStr t.tok = k))) H
theorem sc_Reader_sees : FnScope ["self", "kind"] ["self", "kind"] (defScope s_Reader_sees) := ⟨rfl, rfl, rfl, by decide +kernel, rfl, by decide +kernel, by decide +kernel⟩
theorem ok_Reader_sees {f : Addr} {fd : FuncData} (F : Fun K "sees" "Reader.sees" s_Reader_sees f fd) (T_Reader : RdTxt K mg CR fRI fRS fRT) (T_Token : TokTxt K mg CT fT) : FnOk P w K mg base CX0 1 f fd ["self", "kind"] (spSees CR CT) := by
  refine F.ok sc_Reader_sees (fun vs H Q E h => ?_) (fun cdv A outer s H vs Q E hr h => ⟨_, (pss_one (ps_ret (pe_cmpR op_eq (pe_fld (pe_ix ix_list (pe_fld (pv 0) rfl) (pe_fld (pv 0) rfl) (fun _ _ => rfl)) rfl) (pv 1) (nomark _)))), ?_⟩)
  · obtain ⟨r, D, i, ts, k, t, rfl, _⟩ := h
    rfl
  · obtain ⟨r, D, i, ts, k, t, rfl, ⟨dr, hr1⟩, ⟨as, hD, hT⟩, hi, q⟩ := h
    obtain ⟨a, e, ha, dx, v, h1, _⟩ := hT.2 i t hi
    have hat : (as.map V.ref)[i]? = some (.ref a) := by rw [List.getElem?_map, ha]; rfl
    refine ⟨_, rfl, r, CR, dr, _, _, rfl, hr1, T_Reader.cl, T_Reader.n1, rd_tokens D i, ?_⟩
    refine ⟨_, rfl, r, CR, dr, _, _, rfl, hr1, T_Reader.cl, T_Reader.n2, rd_at D i, D, _, _, _, rfl, rfl, SqL.of hD, atI_nat hat, ?_⟩
    refine ⟨a, CT, dx, _, _, rfl, h1, T_Token.cl, T_Token.n1, tok_kind_fld _ _ _ _, _, rfl, rfl, ?_⟩
    have : decide (V.str (kStr t.tok) = V.str k) = decide (kStr t.tok = k) := decide_eq_decide.mpr ⟨fun h => V.str.inj h, fun h => by rw [h]⟩
    rw [this]
    exact q
/-- reader.take(kind) -/
def spTake (CF CR CT : Addr) : Sp := fun vs H Q E => ∃ (r D : Addr) (i : Nat) (ts : List PTok) (k : Str) (t : PTok), vs = [.ref r, .str k] ∧ RdIs CR H r D i ∧ TksIs CT H D ts ∧ ts[i]? = some t ∧
  (¬ kStr t.tok = k → ∀ d H', Same H H' → FltAt H' d ⟨3, t.place⟩ → E (.ref CF) (some d) H') ∧
  (kStr t.tok = k → ∀ q e H', Kp r H H' → RdIs CR H' r D (i + 1) → TokAt CT H' q t e → Q (.ref q) H')
theorem sc_Reader_take : FnScope ["self", "kind", "token"] ["self", "kind"] (defScope s_Reader_take) := ⟨rfl, rfl, rfl, by decide +kernel, rfl, by decide +kernel, by decide +kernel⟩

theorem ok_Reader_take {f : Addr} {fd : FuncData} (F : Fun K "take" "Reader.take" s_Reader_take f fd) (gN : ∃ t, mg "NOT_ALLOWED" = some (.int 3 t)) (T_Reader : RdTxt K mg CR fRI fRS fRT) (T_Token : TokTxt K mg CT fT)
    (T_Fault : FaultTxt K mg CF fF) (o_Fault : FnOk P w K mg base CX0 1 fF fdF ["self", "code", "place"] (spFault CF)) (b_Fault : Binds K fdF ["self", "code", "place"] []) : FnOk P w K mg base (L2.CX P w) 3 f fd ["self", "kind"] (spTake CF CR CT) := by
  obtain ⟨tN, g_NOT_ALLOWED⟩ := gN
  refine F.okX sc_Reader_take (fun vs H Q E h => ?_) (fun cdv A outer s H vs Q E hr h => ⟨_, (pss_cons (ps_set (i := 2) sc_Reader_take.nd rfl (.inl rfl) (pe_ix ix_list (pe_fld (pv 0) rfl) (pe_fld (pv 0) rfl) (fun _ _ => rfl)))
      (pss_cons (ps_if (pt_cmpR op_ne (pe_fld (pv 2) rfl) (pv 1) (nomark _))
        (pss_one (ps_raise rfl (takes_of rfl rfl rfl rfl) (pmk_err T_Fault.er T_Fault.iC T_Fault.tI o_Fault (hr.mono (by decide)) b_Fault .nil pass0 rfl T_Fault.gC (pa_cons (pe_glob (v := .int 3) rfl g_NOT_ALLOWED ⟨_, rfl⟩) (pa_cons (pe_fld (pv 2) rfl) pa_nil)))))
        pss_nil)
      (pss_cons (ps_fldaug (pv 0) pe_int in_add)
      (pss_one (ps_ret (pv 2)))))), ?_⟩)
  · obtain ⟨r, D, i, ts, k, t, rfl, _⟩ := h
    rfl
  · obtain ⟨r, D, i, ts, k, t, rfl, ⟨dr, hr1⟩, ⟨as, hD, hT⟩, hi, kE, kQ⟩ := h
    obtain ⟨a, e, ha, dx, v, h1, h2⟩ := hT.2 i t hi
    have hat : (as.map V.ref)[i]? = some (.ref a) := by rw [List.getElem?_map, ha]; rfl
    refine ⟨_, rfl, r, CR, dr, _, _, rfl, hr1, T_Reader.cl, T_Reader.n1, rd_tokens D i, ?_⟩
    refine ⟨_, rfl, r, CR, dr, _, _, rfl, hr1, T_Reader.cl, T_Reader.n2, rd_at D i, D, _, _, _, rfl, rfl, SqL.of hD, atI_nat hat, ?_⟩
    refine ⟨_, rfl, a, CT, dx, _, _, rfl, h1, T_Token.cl, T_Token.n1, tok_kind_fld _ _ _ _, _, rfl, rfl, _, rfl, ?_⟩
    have : decide (V.str (kStr t.tok) = V.str k) = decide (kStr t.tok = k) := decide_eq_decide.mpr ⟨fun h => V.str.inj h, fun h => by rw [h]⟩
    rw [this]
    by_cases c : kStr t.tok = k
    · refine if_f (by rw [decide_eq_true c]; rfl) ?_
      refine ⟨_, rfl, r, CR, dr, _, _, rfl, hr1, T_Reader.cl, T_Reader.n2, rd_at D i, _, _, rfl, rfl, dr, _, hr1, (by show 2 < 1000; decide), ?_⟩
      refine ⟨_, rfl, ?_⟩
      have ep : putF ("at" : Str) (V.int ((i : Int) + 1)) (fRd D i) = fRd D (i + 1) := rd_put D i (i + 1)
      have kp : Kp r H (upd H r (.ins CR dr (fRd D (i + 1)))) := fun b o hb ne => by rw [upd_ne ne]; exact hb
      have hu : upd H r (.ins CR dr (putF ("at" : Str) (V.int ((i : Int) + 1)) (fRd D i))) = upd H r (.ins CR dr (fRd D (i + 1))) := by rw [ep]
      show Q (.ref a) (upd H r (.ins CR dr (putF ("at" : Str) (V.int ((i : Int) + 1)) (fRd D i))))
      rw [hu]
      exact kQ c a e _ kp ⟨dr, upd_same⟩ (TokAt.kp ⟨dr, hr1⟩ kp ⟨dx, v, h1, h2⟩)
    · refine if_t (by rw [decide_eq_false c]; rfl) ?_
      exact ⟨_, rfl, a, CT, dx, _, _, rfl, h1, T_Token.cl, T_Token.n2, tok_place_fld _ _ _ _, fault_made (W := E) (kE c)⟩
end
end Off
end
section
set_option Elab.async false
set_option linter.all false
set_option maxRecDepth 100000
set_option maxHeartbeats 4000000
namespace Off
open PySem PySem.Spec PyProof.Rows L2
open VaskyBase (Bytes isLetter isDigit isBlank token PTok Toks word decimal numberOf SIGNS tokEq next taken here takeName takeSign takeWord nextWord wrong)
open Vaskya (takeInt takeValues)
/-- the reader's state: what is still to be read -/
structure St (CR CT : Addr) (H : Hp) (r D : Addr) (ts : List PTok) (i : Nat) (l : List PTok) : Prop where
  rd : RdIs CR H r D i
  tk : TksIs CT H D ts
  sg : ∀ t ∈ ts, SgOk t.tok
  dr : ts.drop i = l
  en : Ends l
theorem St.head {CR CT : Addr} {H : Hp} {r D : Addr} {ts : List PTok} {i : Nat} {l : List PTok} (S : St CR CT H r D ts i l) : ∃ t r, l = t :: r ∧ ts[i]? = some t ∧ SgOk t.tok ∧ ts.drop (i + 1) = r := by
  obtain ⟨t, r, e⟩ := S.en.ne
  have h := S.dr.trans e
  have hi : ts[i]? = some t := by
    have := congrArg (fun l : List PTok => l[0]?) h
    simpa using this
  refine ⟨t, r, e, hi, S.sg t (List.mem_of_getElem? hi), ?_⟩
  rw [drop_cons hi] at h
  exact (List.cons.inj h).2
theorem St.kp {CR CT : Addr} {H H' : Hp} {r D : Addr} {ts : List PTok} {i j : Nat} {l l' : List PTok} (S : St CR CT H r D ts i l) (k : Kp r H H') (h : RdIs CR H' r D j) (hd : ts.drop j = l') (he : Ends l') : St CR CT H' r D ts j l' :=
  ⟨h, S.tk.kp S.rd k, S.sg, hd, he⟩
theorem St.same {CR CT : Addr} {H H' : Hp} {r D : Addr} {ts : List PTok} {i : Nat} {l : List PTok} (S : St CR CT H r D ts i l) (s : Same H H') : St CR CT H' r D ts i l := by
  obtain ⟨dx, h⟩ := S.rd
  exact ⟨⟨dx, s _ _ h⟩, S.tk.same s, S.sg, S.dr, S.en⟩
theorem a1 {v : V} {σ : L2.St} {H : Hp} {K : List V → Hp → Prop} (h : K [v] H) : tCons (tC v) tNil σ H K := h
section
variable {CF CR CT : Addr} {H : Hp} {r D : Addr} {ts : List PTok} {i : Nat} {l : List PTok} {Q : VK} {E : XK}
theorem sees_as {k : Str} {t0 : VaskyBase.Tok} (kk : KindIs k t0) (S : St CR CT H r D ts i l) (h : Q (.bl (next t0 l)) H) : spSees CR CT [.ref r, .str k] H Q E := by
  obtain ⟨t, rr, e, hi, sg, _⟩ := S.head
  refine ⟨r, D, i, ts, k, t, rfl, S.rd, S.tk, hi, ?_⟩
  have : decide (kStr t.tok = k) = next t0 l := by
    rw [e]
    show _ = tokEq t.tok t0
    rw [Bool.eq_iff_iff, decide_eq_true_iff]
    exact kk.is _ sg
  rw [this]
  exact h
theorem tokEq_last {t t0 : VaskyBase.Tok} (h : tokEq t t0 = true) (n : t0 ≠ .last) : t ≠ .last := fun z => by
  subst z
  cases t0 with
  | last => exact n rfl
  | name _ => cases h
  | num _ => cases h
  | sign _ => cases h
theorem take_as {k : Str} {t0 : VaskyBase.Tok} (kk : KindIs k t0) (S : St CR CT H r D ts i l) (hE : ∀ f, taken t0 l = .error f → ∀ d H', Kp r H H' → FltAt H' d f → E (.ref CF) (some d) H')
    (hQ : ∀ l', taken t0 l = .ok l' → ∀ q H', Kp r H H' → St CR CT H' r D ts (i + 1) l' → Q (.ref q) H') : spTake CF CR CT [.ref r, .str k] H Q E := by
  obtain ⟨t, rr, e, hi, sg, hd⟩ := S.head
  subst e
  refine ⟨r, D, i, ts, k, t, rfl, S.rd, S.tk, hi, fun n d H' s f => hE ⟨3, t.place⟩ ?_ d H' (Kp.same s) f, fun y q e H' k1 rd tk => ?_⟩
  · unfold taken
    exact if_neg fun z => n ((kk.is _ sg).mpr z)
  · have y' := (kk.is _ sg).mp y
    refine hQ rr ?_ q H' k1 (S.kp k1 rd hd (S.en.next (tokEq_last y' kk.nl)))
    unfold taken
    exact if_pos y'
theorem take_nm (S : St CR CT H r D ts i l) (hE : ∀ f, takeName l = .error f → ∀ d H', Kp r H H' → FltAt H' d f → E (.ref CF) (some d) H')
    (hQ : ∀ x l', takeName l = .ok (x, l') → ∀ q e H', Kp r H H' → St CR CT H' r D ts (i + 1) l' → TokAt CT H' q ⟨x.place, .name x.name⟩ e → Q (.ref q) H') : spTake CF CR CT [.ref r, .str wName] H Q E := by
  obtain ⟨t, rr, e, hi, sg, hd⟩ := S.head
  subst e
  refine ⟨r, D, i, ts, wName, t, rfl, S.rd, S.tk, hi, fun n d H' s f => hE ⟨3, t.place⟩ ?_ d H' (Kp.same s) f, fun y q e H' k1 rd tk => ?_⟩
  · obtain ⟨p, tk⟩ := t
    cases tk with
    | name b =>
      show (if VaskyBase.RESERVED.contains b = true then wrong _ else _) = _
      have : VaskyBase.RESERVED.contains b = true := by
        cases h : VaskyBase.RESERVED.contains b with
        | true => rfl
        | false => exact absurd ((kindW_name b).mpr h) n
      rw [if_pos this]
      rfl
    | num _ => rfl
    | sign _ => rfl
    | last => rfl
  · obtain ⟨b, hb, hr⟩ := (is_name _ sg).mp y
    obtain ⟨p, tk0⟩ := t
    dsimp only at hb
    subst hb
    refine hQ ⟨p, b⟩ rr ?_ q e H' k1 (S.kp k1 rd hd (S.en.next (fun z => by cases z))) tk
    show (if VaskyBase.RESERVED.contains b = true then wrong _ else _) = _
    rw [hr]
    rfl
theorem take_num (S : St CR CT H r D ts i l) (hE : (∀ q n rr, l ≠ ⟨q, .num n⟩ :: rr) → ∀ d H', Kp r H H' → FltAt H' d ⟨3, here l⟩ → E (.ref CF) (some d) H')
    (hQ : ∀ p n l', l = ⟨p, .num n⟩ :: l' → ∀ q e H', Kp r H H' → St CR CT H' r D ts (i + 1) l' → TokAt CT H' q ⟨p, .num n⟩ e → Q (.ref q) H') : spTake CF CR CT [.ref r, .str "number"] H Q E := by
  obtain ⟨t, rr, e, hi, sg, hd⟩ := S.head
  subst e
  refine ⟨r, D, i, ts, _, t, rfl, S.rd, S.tk, hi, fun n d H' s f => hE (fun q m rr z => ?_) d H' (Kp.same s) f, fun y q e H' k1 rd tk => ?_⟩
  · cases z
    exact n rfl
  · obtain ⟨n, hn⟩ := (is_num _ sg).mp y
    obtain ⟨p, tk0⟩ := t
    dsimp only at hn
    subst hn
    exact hQ p n rr rfl q e H' k1 (S.kp k1 rd hd (S.en.next (fun z => by cases z))) tk
theorem take_end (S : St CR CT H r D ts i l) (hE : next .last l = false → ∀ d H', Kp r H H' → FltAt H' d ⟨3, here l⟩ → E (.ref CF) (some d) H')
    (hQ : next .last l = true → ∀ q H', Kp r H H' → Q (.ref q) H') : spTake CF CR CT [.ref r, .str "end"] H Q E := by
  obtain ⟨t, rr, e, hi, sg, hd⟩ := S.head
  subst e
  refine ⟨r, D, i, ts, _, t, rfl, S.rd, S.tk, hi, fun n d H' s f => hE ?_ d H' (Kp.same s) f, fun y q e H' k1 rd tk => hQ ?_ q H' k1⟩
  · cases h : next .last (t :: rr) with
    | false => rfl
    | true =>
      have h' : tokEq t.tok .last = true := h
      refine absurd ((is_last _ sg).mpr ?_) n
      cases ht : t.tok <;> rw [ht] at h' <;> first | rfl | cases h'
  · have := (is_last _ sg).mp y
    show tokEq t.tok .last = true
    rw [this]
    rfl
end
section
variable {P : Program} {w : World} {K : PySem.W.Frag} {mg : Str → Option Value} {base : Heap} {CF fF CT fT CR fRI fRS fRT : Addr} {fdF fdT fdS fdK : FuncData}
/-! ### read_value -/
def spValue (CF CR CT : Addr) : Sp := fun vs H Q E => ∃ (r D : Addr) (i : Nat) (ts l : List PTok), vs = [.ref r] ∧ St CR CT H r D ts i l ∧
  (∀ f, takeInt l = .error f → ∀ d H', Kp r H H' → FltAt H' d f → E (.ref CF) (some d) H') ∧
  (∀ z l', takeInt l = .ok (z, l') → ∀ j H', Kp r H H' → St CR CT H' r D ts j l' → Q (.int z) H')
theorem sc_read_value : FnScope ["reader", "sign", "token"] ["reader"] (defScope s_read_value) := ⟨rfl, rfl, rfl, by decide +kernel, rfl, by decide +kernel, by decide +kernel⟩

theorem takeInt_eq (l : Toks) : takeInt l = match (if next (.sign 45) l = true then l.drop 1 else l) with
    | ⟨q, .num n⟩ :: r => if 1000 < n then .error ⟨7, q⟩ else .ok (if next (.sign 45) l = true then -(n : Int) else (n : Int), r)
    | m => wrong m := rfl
theorem ok_read_value {f : Addr} {fd : FuncData} (F : Fun K "read_value" "read_value" s_read_value f fd) (gN : ∃ t, mg "TOO_GREAT" = some (.int 7 t)) (gM : ∃ t, mg "MOST_VALUE" = some (.int 1000 t))
    (T_Reader : RdTxt K mg CR fRI fRS fRT) (T_Token : TokTxt K mg CT fT) (T_Fault : FaultTxt K mg CF fF) (o_Fault : FnOk P w K mg base CX0 1 fF fdF ["self", "code", "place"] (spFault CF)) (b_Fault : Binds K fdF ["self", "code", "place"] [])
    (o_Reader_sees : FnOk P w K mg base CX0 1 fRS fdS ["self", "kind"] (spSees CR CT)) (b_Reader_sees : Binds K fdS ["self", "kind"] [])
    (o_Reader_take : FnOk P w K mg base (L2.CX P w) 3 fRT fdK ["self", "kind"] (spTake CF CR CT)) (b_Reader_take : Binds K fdK ["self", "kind"] []) :
    FnOk P w K mg base (L2.CX P w) 4 f fd ["reader"] (spValue CF CR CT) := by
  obtain ⟨tN, g_TOO_GREAT⟩ := gN
  obtain ⟨tM, g_MOST_VALUE⟩ := gM
  have M_Reader_sees := T_Reader.mS
  have M_Reader_take := T_Reader.mT
  refine F.okX sc_read_value (fun vs H Q E h => ?_) (fun cdv A outer s H vs Q E hr h => ⟨_, (pss_cons (ps_set (i := 1) sc_read_value.nd rfl (.inl rfl) pe_int)
      (pss_cons (ps_if (pt_val (pe_meth (pv 0) T_Reader.cl M_Reader_sees o_Reader_sees (hr.mono (by decide)) b_Reader_sees .nil pass0 (pa_cons pe_str pa_nil)))
        (pss_cons (ps_expr (pe_meth (pv 0) T_Reader.cl M_Reader_take o_Reader_take (hr.mono (by decide)) b_Reader_take .nil (passes_call (takes_of rfl rfl rfl rfl) (fun _ _ _ _ h => h)) (pa_cons pe_str pa_nil)))
      (pss_one (ps_set (i := 1) sc_read_value.nd rfl (.inl rfl) (pe_un un_neg pe_int))))
        pss_nil)
      (pss_cons (ps_set (i := 2) sc_read_value.nd rfl (.inl rfl) (pe_meth (pv 0) T_Reader.cl M_Reader_take o_Reader_take (hr.mono (by decide)) b_Reader_take .nil (passes_call (takes_of rfl rfl rfl rfl) (fun _ _ _ _ h => h)) (pa_cons pe_str pa_nil)))
      (pss_cons (ps_if (pt_cmpR op_gt (pe_fld (pv 2) rfl) (pe_glob (v := .int 1000) rfl g_MOST_VALUE ⟨_, rfl⟩) (nomark _))
        (pss_one (ps_raise rfl (takes_of rfl rfl rfl rfl) (pmk_err T_Fault.er T_Fault.iC T_Fault.tI o_Fault (hr.mono (by decide)) b_Fault .nil pass0 rfl T_Fault.gC (pa_cons (pe_glob (v := .int 7) rfl g_TOO_GREAT ⟨_, rfl⟩) (pa_cons (pe_fld (pv 2) rfl) pa_nil)))))
        pss_nil)
      (pss_one (ps_ret (pe_op op_mul (pv 1) (pe_fld (pv 2) rfl)))))))), ?_⟩)
  · obtain ⟨r, D, i, ts, l, rfl, _⟩ := h
    rfl
  · obtain ⟨r, D, i, ts, l, rfl, S, kE, kQ⟩ := h
    rw [takeInt_eq] at kE kQ
    obtain ⟨dr, hr1⟩ := S.rd
    refine ⟨_, rfl, r, dr, _, rfl, hr1, rd_sees D i, a1 ?_⟩
    refine sees_as is_minus S ⟨_, rfl, ?_⟩
    cases hn : next (.sign 45) l with
    | true =>
      refine if_t rfl ?_
      rw [hn] at kE kQ
      rw [if_pos rfl] at kE kQ
      refine ⟨_, rfl, r, dr, _, rfl, hr1, rd_take D i, a1 ?_⟩
      refine take_as is_minus S (fun f e => ?_) (fun l' e q H1 k1 S1 => ?_)
      · unfold taken at e
        rw [hn] at e
        cases e
      · have el : l' = l.drop 1 := by
          unfold taken at e
          rw [hn] at e
          exact (Except.ok.inj e).symm
        subst el
        refine ⟨1, rfl, ?_⟩
        obtain ⟨dr1, hr2⟩ := S1.rd
        refine ⟨_, rfl, r, dr1, _, rfl, hr2, rd_take D _, a1 ?_⟩
        refine take_num S1 (fun no d H2 k2 f2 => kE _ ?_ d H2 (k1.trans k2) f2) (fun p n l' el q e H2 k2 S2 t2 => ?_)
        · split
          · rename_i heq
            exact absurd heq (no _ _ _)
          · rfl
        · rw [el] at kE kQ
          obtain ⟨dx, v, h1, hv⟩ := t2
          have hv' : v = .int (n : Int) := hv
          subst hv'
          refine ⟨_, rfl, q, CT, dx, _, _, rfl, h1, T_Token.cl, T_Token.n4, tok_value_fld _ _ _ _, _, _, rfl, rfl, _, rfl, ?_⟩
          by_cases c : 1000 < n
          · refine if_t (decide_eq_true (by omega)) ?_
            refine ⟨_, rfl, q, CT, dx, _, _, rfl, h1, T_Token.cl, T_Token.n2, tok_place_fld _ _ _ _, fault_made (W := E) fun d H3 s3 f3 => kE _ (if_pos c) d H3 (k1.trans (k2.trans (Kp.same s3))) f3⟩
          · refine if_f (decide_eq_false (by omega)) ?_
            refine ⟨_, rfl, _, rfl, q, CT, dx, _, _, rfl, h1, T_Token.cl, T_Token.n4, tok_value_fld _ _ _ _, _, _, rfl, rfl, .inl ⟨by decide, by decide⟩, ?_⟩
            have := kQ _ _ (if_neg c) _ H2 (k1.trans k2) S2
            have e1 : (-(1 : Int)) * (n : Int) = -(n : Int) := by omega
            rw [← e1] at this
            exact this
    | false =>
      refine if_f rfl ?_
      rw [hn] at kE kQ
      rw [if_neg Bool.false_ne_true] at kE kQ
      refine ⟨_, rfl, r, dr, _, rfl, hr1, rd_take D _, a1 ?_⟩
      refine take_num S (fun no d H2 k2 f2 => kE _ ?_ d H2 k2 f2) (fun p n l' el q e H2 k2 S2 t2 => ?_)
      · split
        · exact absurd rfl (no _ _ _)
        · rfl
      · rw [el] at kE kQ
        obtain ⟨dx, v, h1, hv⟩ := t2
        have hv' : v = .int (n : Int) := hv
        subst hv'
        refine ⟨_, rfl, q, CT, dx, _, _, rfl, h1, T_Token.cl, T_Token.n4, tok_value_fld _ _ _ _, _, _, rfl, rfl, _, rfl, ?_⟩
        by_cases c : 1000 < n
        · refine if_t (decide_eq_true (by omega)) ?_
          refine ⟨_, rfl, q, CT, dx, _, _, rfl, h1, T_Token.cl, T_Token.n2, tok_place_fld _ _ _ _, fault_made (W := E) fun d H3 s3 f3 => kE _ (if_pos c) d H3 (k2.trans (Kp.same s3)) f3⟩
        · refine if_f (decide_eq_false (by omega)) ?_
          refine ⟨_, rfl, _, rfl, q, CT, dx, _, _, rfl, h1, T_Token.cl, T_Token.n4, tok_value_fld _ _ _ _, _, _, rfl, rfl, .inl ⟨by decide, by decide⟩, ?_⟩
          have := kQ _ _ (if_neg c) _ H2 k2 S2
          rw [if_neg Bool.false_ne_true] at this
          have e1 : (1 : Int) * (n : Int) = (n : Int) := by omega
          rw [← e1] at this
          exact this
end
end Off
end
section
set_option Elab.async false
set_option linter.all false
set_option maxRecDepth 100000
set_option maxHeartbeats 4000000
namespace Off
open PySem PySem.Spec PyProof.Rows L2
open VaskyBase (Bytes isLetter isDigit isBlank token PTok Toks word decimal numberOf SIGNS tokEq next taken here takeName takeSign takeWord nextWord wrong)
open Vaskya (takeInt takeValues Measure)
/-! ### names that were told -/
def keyOf (b : Bytes) : List Key := b.map fun c => Sum.inl (c.toNat : Int)
theorem keyOf_tx (b : Bytes) : (keyOf b).map kV = tx b := by
  unfold keyOf tx
  rw [List.map_map]
  rfl
theorem keyOf_inj {a b : Bytes} (h : keyOf a = keyOf b) : a = b := by
  refine List.map_inj_right (f := fun c : UInt8 => (Sum.inl (c.toNat : Int) : Key)) (fun x y e => ?_) |>.mp h
  exact UInt8.toNat_inj.mp (Int.ofNat.inj (Sum.inl.inj e))
def kvN (ns : List Bytes) : List (List Key × V) := ns.map fun b => (keyOf b, V.bl true)
def NmIs (H : Hp) (d : Addr) (ns : List Bytes) : Prop := H d = some (.dT (kvN ns))
theorem kvN_any (ns : List Bytes) (b : Bytes) : ((kvN ns).any fun kv => decide (kv.1 = keyOf b)) = ns.any (· == b) := by
  unfold kvN
  rw [List.any_map]
  refine congrArg (fun p => ns.any p) (funext fun x => ?_)
  show decide (keyOf x = keyOf b) = (x == b)
  by_cases h : x = b
  · subst h
    simp
  · rw [decide_eq_false fun z => h (keyOf_inj z)]
    exact (beq_eq_false_iff_ne.mpr h).symm
theorem valV_some (ns : List Bytes) (b : Bytes) : (valV (kvN ns) (keyOf b)).isSome = ns.any (· == b) := by
  rw [← valV_any, kvN_any]
theorem putK_new {ns : List Bytes} {b : Bytes} (h : ns.any (· == b) = false) : putK (kvN ns) (keyOf b) (.bl true) = kvN (ns ++ [b]) := by
  unfold putK
  rw [kvN_any, h, if_neg Bool.false_ne_true]
  unfold kvN
  rw [List.map_append]
  rfl
/-- all that was tracked stands, but at r and at d -/
def Kp2 (r d : Addr) (H H' : Hp) : Prop := ∀ b o, H b = some o → b ≠ r → b ≠ d → H' b = some o
theorem Kp.two {r d : Addr} {H H' : Hp} (k : Kp r H H') : Kp2 r d H H' := fun b o h n _ => k b o h n
theorem Kp2.trans {r d : Addr} {H1 H2 H3 : Hp} (a : Kp2 r d H1 H2) (b : Kp2 r d H2 H3) : Kp2 r d H1 H3 := fun x o h n m => b x o (a x o h n m) n m
theorem NmIs.kp {CR : Addr} {H H' : Hp} {r D d : Addr} {i : Nat} {ns : List Bytes} (hr : RdIs CR H r D i) (k : Kp r H H') (h : NmIs H d ns) : NmIs H' d ns := by
  obtain ⟨dr, hr⟩ := hr
  exact k _ _ h (ne_of h hr (by intro z; cases z))
theorem ValAt.dt {H : Hp} {d : Addr} {kvs : List (List Key × V)} {o : HO} {v : V} (hD : H d = some (.dT kvs)) : ∀ {t : VaskyBase.Tok}, ValAt H v t → ValAt (upd H d o) v t
  | .name b, ⟨q, e, h⟩ => ⟨q, e, by rw [upd_ne (ne_of h hD (by intro z; cases z))]; exact h⟩
  | .num _, h => h
  | .sign _, _ => True.intro
  | .last, _ => True.intro
theorem TokAt.dt {C : Addr} {H : Hp} {d : Addr} {kvs : List (List Key × V)} {o : HO} {a : Addr} {t : PTok} {e : Nat} (hD : H d = some (.dT kvs)) (h : TokAt C H a t e) : TokAt C (upd H d o) a t e := by
  obtain ⟨dx, v, h1, h2⟩ := h
  exact ⟨dx, v, by rw [upd_ne (ne_of h1 hD (by intro z; cases z))]; exact h1, h2.dt hD⟩
theorem St.dt {CR CT : Addr} {H : Hp} {r D d : Addr} {kvs : List (List Key × V)} {o : HO} {ts : List PTok} {i : Nat} {l : List PTok} (hD : H d = some (.dT kvs)) (S : St CR CT H r D ts i l) : St CR CT (upd H d o) r D ts i l := by
  obtain ⟨dx, h⟩ := S.rd
  obtain ⟨as, h1, h2, h3⟩ := S.tk
  refine ⟨⟨dx, by rw [upd_ne (ne_of h hD (by intro z; cases z))]; exact h⟩, ⟨as, by rw [upd_ne (ne_of h1 hD (by intro z; cases z))]; exact h1, h2, fun i t e => ?_⟩, S.sg, S.dr, S.en⟩
  obtain ⟨a, n, e1, e2⟩ := h3 i t e
  exact ⟨a, n, e1, e2.dt hD⟩
section
variable {P : Program} {w : World} {K : PySem.W.Frag} {mg : Str → Option Value} {base : Heap} {CF fF CT fT CR fRI fRS fRT : Addr} {fdF fdT fdS fdK : FuncData}
/-! ### keep_name -/
def spKeep (CF CT : Addr) : Sp := fun vs H Q E => ∃ (d q : Addr) (nm : Bytes) (p e : Nat) (ns : List Bytes), vs = [.ref d, .ref q] ∧ NmIs H d ns ∧ TokAt CT H q ⟨p, .name nm⟩ e ∧ ns.length ≤ 1000 ∧
  (ns.any (· == nm) = true → ∀ dd H', Same H H' → FltAt H' dd ⟨5, p⟩ → E (.ref CF) (some dd) H') ∧
  (ns.any (· == nm) = false → Q .non (upd H d (.dT (kvN (ns ++ [nm])))))
theorem sc_keep_name : FnScope ["names", "token"] ["names", "token"] (defScope s_keep_name) := ⟨rfl, rfl, rfl, by decide +kernel, rfl, by decide +kernel, by decide +kernel⟩

theorem ok_keep_name {f : Addr} {fd : FuncData} (F : Fun K "keep_name" "keep_name" s_keep_name f fd) (gN : ∃ t, mg "NAME_AGAIN" = some (.int 5 t)) (T_Token : TokTxt K mg CT fT)
    (T_Fault : FaultTxt K mg CF fF) (o_Fault : FnOk P w K mg base CX0 1 fF fdF ["self", "code", "place"] (spFault CF)) (b_Fault : Binds K fdF ["self", "code", "place"] []) :
    FnOk P w K mg base (L2.CX P w) 3 f fd ["names", "token"] (spKeep CF CT) := by
  obtain ⟨tN, g_NAME_AGAIN⟩ := gN
  refine F.okX sc_keep_name (fun vs H Q E h => ?_) (fun cdv A outer s H vs Q E hr h => ⟨_, (pss_cons (ps_if (pt_cmp (pc_din (hu_of hr) (pe_fld (pv 1) rfl) (pv 0)))
        (pss_one (ps_raise rfl (takes_of rfl rfl rfl rfl) (pmk_err T_Fault.er T_Fault.iC T_Fault.tI o_Fault (hr.mono (by decide)) b_Fault .nil pass0 rfl T_Fault.gC (pa_cons (pe_glob (v := .int 5) rfl g_NAME_AGAIN ⟨_, rfl⟩) (pa_cons (pe_fld (pv 1) rfl) pa_nil)))))
        pss_nil)
      (pss_one (ps_dput (hu_of hr) (pv 0) (pe_fld (pv 1) rfl) pe_bl rfl))), ?_⟩)
  · obtain ⟨d, q, nm, p, e, ns, rfl, _⟩ := h
    rfl
  · obtain ⟨d, q, nm, p, e, ns, rfl, hN, ⟨dx, v, h1, hv⟩, hl, kE, kQ⟩ := h
    obtain ⟨b, rfl, hb⟩ : ∃ b, v = .ref b ∧ H b = some (.tup (tx nm)) := hv
    rw [← keyOf_tx] at hb
    have g : DGet H d (.ref b) (valV (kvN ns) (keyOf nm)) := DGet.t hN hb
    refine ⟨_, rfl, q, CT, dx, _, _, rfl, h1, T_Token.cl, T_Token.n4, tok_value_fld _ _ _ _, _, rfl, d, _, rfl, g, _, rfl, ?_⟩
    rw [valV_some]
    cases c : ns.any (· == nm) with
    | true =>
      refine if_t rfl ?_
      exact ⟨_, rfl, q, CT, dx, _, _, rfl, h1, T_Token.cl, T_Token.n2, tok_place_fld _ _ _ _, fault_made (W := E) (kE c)⟩
    | false =>
      refine if_f rfl ?_
      refine ⟨_, rfl, _, rfl, q, CT, dx, _, _, rfl, h1, T_Token.cl, T_Token.n4, tok_value_fld _ _ _ _, d, _, rfl, DPut.t hN hb (by unfold kvN; rw [List.length_map, sizeLine_eq]; omega), ?_⟩
      rw [putK_new c]
      exact kQ c
end
end Off
end
section
set_option Elab.async false
set_option linter.all false
set_option maxRecDepth 100000
set_option maxHeartbeats 4000000
namespace Off
open PySem PySem.Spec PyProof.Rows L2
open VaskyBase (Bytes isLetter isDigit isBlank token PTok Toks word decimal numberOf SIGNS tokEq next taken here takeName takeSign takeWord nextWord wrong)
open Vaskya (takeInt takeValues Measure)
def turnOf (m : Measure) : Int := if m.up = true then 1 else -1
def nmsM (ms : List Measure) : List Bytes := ms.map fun m => m.name
theorem nmsM_any (ms : List Measure) (b : Bytes) : (nmsM ms).any (· == b) = ms.any fun m => m.name == b := by
  unfold nmsM
  rw [List.any_map]
  rfl
section
variable {P : Program} {w : World} {K : PySem.W.Frag} {mg : Str → Option Value} {base : Heap} {CF fF CT fT CR fRI fRS fRT : Addr} {fdF fdT fdS fdK : FuncData}
/-! ### read_measure -/
def spMeasure (CF CR CT : Addr) : Sp := fun vs H Q E => ∃ (r D d : Addr) (i : Nat) (ts l : List PTok) (ms : List Measure), vs = [.ref r, .ref d] ∧ St CR CT H r D ts i l ∧ NmIs H d (nmsM ms) ∧ ms.length ≤ 4 ∧
  (∀ f, measure1 ms l = .error f → ∀ dd H', Kp2 r d H H' → FltAt H' dd f → E (.ref CF) (some dd) H') ∧
  (∀ m l', measure1 ms l = .ok (m, l') → ms.length < 4 → ∀ j H', Kp2 r d H H' → St CR CT H' r D ts j l' → NmIs H' d (nmsM (ms ++ [m])) → Q (.int (turnOf m)) H')
theorem sc_read_measure : FnScope ["reader", "names", "token"] ["reader", "names"] (defScope s_read_measure) := ⟨rfl, rfl, rfl, by decide +kernel, rfl, by decide +kernel, by decide +kernel⟩

theorem ok_read_measure {f : Addr} {fd : FuncData} (F : Fun K "read_measure" "read_measure" s_read_measure f fd) (B : Blt mg) (gN : ∃ t, mg "TOO_MANY" = some (.int 4 t)) (gM : ∃ t, mg "MOST_MEASURES" = some (.int 4 t))
    (T_Reader : RdTxt K mg CR fRI fRS fRT) (T_Token : TokTxt K mg CT fT) (T_Fault : FaultTxt K mg CF fF) (o_Fault : FnOk P w K mg base CX0 1 fF fdF ["self", "code", "place"] (spFault CF)) (b_Fault : Binds K fdF ["self", "code", "place"] [])
    (o_Reader_sees : FnOk P w K mg base CX0 1 fRS fdS ["self", "kind"] (spSees CR CT)) (b_Reader_sees : Binds K fdS ["self", "kind"] [])
    (o_Reader_take : FnOk P w K mg base (L2.CX P w) 3 fRT fdK ["self", "kind"] (spTake CF CR CT)) (b_Reader_take : Binds K fdK ["self", "kind"] [])
    (D_keep_name : Df P w K mg base (L2.CX P w) 3 "keep_name" ["names", "token"] (spKeep CF CT)) :
    FnOk P w K mg base (L2.CX P w) 4 f fd ["reader", "names"] (spMeasure CF CR CT) := by
  obtain ⟨tN, g_TOO_MANY⟩ := gN
  obtain ⟨tM, g_MOST_MEASURES⟩ := gM
  have M_Reader_sees := T_Reader.mS
  have M_Reader_take := T_Reader.mT
  obtain ⟨f_keep_name, fd_keep_name, m_keep_name, o_keep_name, k_keep_name, b_keep_name⟩ := D_keep_name
  refine F.okX sc_read_measure (fun vs H Q E h => ?_) (fun cdv A outer s H vs Q E hr h => ⟨_, (pss_cons (ps_set (i := 2) sc_read_measure.nd rfl (.inl rfl) (pe_meth (pv 0) T_Reader.cl M_Reader_take o_Reader_take (hr.mono (by decide)) b_Reader_take .nil (passes_call (takes_of rfl rfl rfl rfl) (fun _ _ _ _ h => h)) (pa_cons pe_str pa_nil)))
      (pss_cons (ps_if (pt_cmpR op_eq (pe_callB call_len_dT (by rfl) B.len PySem.boot_len (pa_cons (pv 1) pa_nil)) (pe_glob (v := .int 4) rfl g_MOST_MEASURES ⟨_, rfl⟩) (nomark _))
        (pss_one (ps_raise rfl (takes_of rfl rfl rfl rfl) (pmk_err T_Fault.er T_Fault.iC T_Fault.tI o_Fault (hr.mono (by decide)) b_Fault .nil pass0 rfl T_Fault.gC (pa_cons (pe_glob (v := .int 4) rfl g_TOO_MANY ⟨_, rfl⟩) (pa_cons (pe_fld (pv 2) rfl) pa_nil)))))
        pss_nil)
      (pss_cons (ps_expr (pe_call o_keep_name (hr.mono (by decide)) rfl m_keep_name k_keep_name b_keep_name .nil (passes_call (takes_of rfl rfl rfl rfl) (fun _ _ _ _ h => h)) (pa_cons (pv 1) (pa_cons (pv 2) pa_nil))))
      (pss_cons (ps_if (pt_val (pe_meth (pv 0) T_Reader.cl M_Reader_sees o_Reader_sees (hr.mono (by decide)) b_Reader_sees .nil pass0 (pa_cons pe_str pa_nil)))
        (pss_cons (ps_expr (pe_meth (pv 0) T_Reader.cl M_Reader_take o_Reader_take (hr.mono (by decide)) b_Reader_take .nil (passes_call (takes_of rfl rfl rfl rfl) (fun _ _ _ _ h => h)) (pa_cons pe_str pa_nil)))
      (pss_one (ps_ret (pe_un un_neg pe_int))))
        pss_nil)
      (pss_cons (ps_expr (pe_meth (pv 0) T_Reader.cl M_Reader_take o_Reader_take (hr.mono (by decide)) b_Reader_take .nil (passes_call (takes_of rfl rfl rfl rfl) (fun _ _ _ _ h => h)) (pa_cons pe_str pa_nil)))
      (pss_one (ps_ret pe_int))))))), ?_⟩)
  · obtain ⟨r, D, d, i, ts, l, ms, rfl, _⟩ := h
    rfl
  · obtain ⟨r, D, d, i, ts, l, ms, rfl, S, hN, hm, kE, kQ⟩ := h
    obtain ⟨dr, hr1⟩ := S.rd
    unfold measure1 at kE kQ
    refine ⟨_, rfl, r, dr, _, rfl, hr1, rd_take D i, a1 ?_⟩
    refine take_nm S (fun f e dd H' k fl => kE f (by rw [e]; rfl) dd H' k.two fl) (fun x l1 e q e1 H1 k1 S1 t1 => ?_)
    rw [e, bind_ok] at kE kQ
    have hN1 := hN.kp S.rd k1
    have t1' := t1
    obtain ⟨dx, v, h1, hv⟩ := t1
    refine ⟨_, rfl, d, _, rfl, hN1, rfl, _, rfl, ?_⟩
    have hl : (kvN (nmsM ms)).length = ms.length := by unfold kvN nmsM; rw [List.length_map, List.length_map]
    by_cases c : 4 ≤ ms.length
    · rw [if_pos (show Vaskya.MEASURES ≤ ms.length from c)] at kE
      refine if_t (decide_eq_true (by rw [hl]; exact congrArg V.int (by omega))) ?_
      exact ⟨_, rfl, q, CT, dx, _, _, rfl, h1, T_Token.cl, T_Token.n2, tok_place_fld _ _ _ _, fault_made (W := E) fun dd H' s fl => kE _ rfl dd H' (k1.trans (Kp.same s)).two fl⟩
    · rw [if_neg (show ¬ Vaskya.MEASURES ≤ ms.length from c)] at kE kQ
      refine if_f (decide_eq_false fun z => c (by have := V.int.inj z; rw [hl] at this; omega)) ?_
      refine ⟨_, rfl, _, rfl, d, q, x.name, x.place, e1, nmsM ms, rfl, hN1, t1', by unfold nmsM; rw [List.length_map]; omega, fun y dd H' s fl => ?_, fun y => ?_⟩
      · rw [nmsM_any] at y
        rw [if_pos y] at kE
        exact kE _ rfl dd H' (k1.trans (Kp.same s)).two fl
      · rw [nmsM_any] at y
        rw [if_neg (by rw [y]; exact Bool.false_ne_true)] at kE kQ
        have S2 : St CR CT (upd H1 d (.dT (kvN (nmsM ms ++ [x.name])))) r D ts (i + 1) l1 := S1.dt hN1
        have N2 : NmIs (upd H1 d (.dT (kvN (nmsM ms ++ [x.name])))) d (nmsM ms ++ [x.name]) := upd_same
        have k2 : Kp2 r d H (upd H1 d (.dT (kvN (nmsM ms ++ [x.name])))) := fun b o hb n m => by
          rw [upd_ne m]
          exact k1 b o hb n
        generalize upd H1 d (.dT (kvN (nmsM ms ++ [x.name]))) = H2 at S2 N2 k2
        obtain ⟨dr2, hr2⟩ := S2.rd
        refine ⟨_, rfl, r, dr2, _, rfl, hr2, rd_sees D _, a1 ?_⟩
        refine sees_as is_down S2 ⟨_, rfl, ?_⟩
        have nms : ∀ m : Measure, m.name = x.name → nmsM (ms ++ [m]) = nmsM ms ++ [x.name] := fun m e => by
          unfold nmsM
          rw [List.map_append, ← e]
          rfl
        have wy : way l1 = if nextWord "up" l1 = true then .ok (true, l1.drop 1) else (takeWord "down" l1).map fun r => (false, r) := rfl
        cases hd : next (.name (word "down")) l1 with
        | true =>
          have nu : nextWord "up" l1 = false := by
            obtain ⟨t, rr, e2, _⟩ := S2.head
            subst e2
            have hd' : tokEq t.tok (.name (word "down")) = true := hd
            show tokEq t.tok (.name (word "up")) = false
            cases ht : t.tok with
            | name b =>
              rw [ht] at hd'
              have : b = word "down" := beq_iff_eq.mp hd'
              subst this
              decide +kernel
            | num _ => rfl
            | sign _ => rfl
            | last => rfl
          have wd : way l1 = .ok (false, l1.drop 1) := by
            rw [wy, nu, if_neg Bool.false_ne_true]
            show (taken (.name (word "down")) l1).map _ = _
            unfold taken
            rw [if_pos hd]
            rfl
          rw [wd, bind_ok] at kQ
          refine if_t rfl ?_
          refine ⟨_, rfl, r, dr2, _, rfl, hr2, rd_take D _, a1 ?_⟩
          refine take_as is_down S2 (fun f e => ?_) (fun l' e q2 H3 k3 S3 => ?_)
          · unfold taken at e
            rw [hd] at e
            cases e
          · have el : l' = l1.drop 1 := by
              unfold taken at e
              rw [hd] at e
              exact (Except.ok.inj e).symm
            subst el
            refine ⟨1, rfl, ?_⟩
            exact kQ _ _ rfl (by omega) _ H3 (k2.trans k3.two) S3 (by rw [nms _ rfl]; exact N2.kp S2.rd k3)
        | false =>
          refine if_f rfl ?_
          refine ⟨_, rfl, r, dr2, _, rfl, hr2, rd_take D _, a1 ?_⟩
          have wu : way l1 = (taken (.name (word "up")) l1).map fun r => (true, r) := by
            rw [wy]
            cases hu : nextWord "up" l1 with
            | true =>
              have hu' : next (.name (word "up")) l1 = true := hu
              rw [if_pos rfl]
              unfold taken
              rw [if_pos hu']
              rfl
            | false =>
              have hu' : next (.name (word "up")) l1 = false := hu
              rw [if_neg Bool.false_ne_true]
              show (taken (.name (word "down")) l1).map _ = _
              unfold taken
              rw [hd, hu']
              rfl
          rw [wu] at kE kQ
          refine take_as is_up S2 (fun f e dd H' k fl => ?_) (fun l' e q2 H3 k3 S3 => ?_)
          · rw [e] at kE
            exact kE f rfl dd H' (k2.trans k.two) fl
          · rw [e] at kQ
            refine kQ _ _ rfl (by omega) _ H3 (k2.trans k3.two) S3 (by rw [nms _ rfl]; exact N2.kp S2.rd k3)
end
end Off
end
section
set_option Elab.async false
set_option linter.all false
set_option maxRecDepth 100000
set_option maxHeartbeats 4000000
namespace Off
open PySem PySem.Spec PyProof.Rows L2
open VaskyBase (Bytes isLetter isDigit isBlank token PTok Toks word decimal numberOf SIGNS tokEq next taken here takeName takeSign takeWord nextWord wrong)
open Vaskya (takeInt takeValues Measure)
/-- what follows a measure -/
def contW (ms : List Measure) (l : Toks) : Except VaskyBase.Fault (List Measure × Toks) := if next (.sign 44) l = true then measuresW ms (l.drop 1) else (takeSign 59 l).map fun m => (ms, m)
theorem measuresW_cont (ms : List Measure) (l : Toks) : measuresW ms l = (measure1 ms l).bind fun x => contW (ms ++ [x.1]) x.2 := measuresW_eq ms l
theorem St.lst {CR CT : Addr} {H : Hp} {r D t : Addr} {xs : List V} {o : HO} {ts : List PTok} {i : Nat} {l : List PTok} (hT : H t = some (.lst xs)) (ne : D ≠ t) (S : St CR CT H r D ts i l) : St CR CT (upd H t o) r D ts i l := by
  obtain ⟨dx, h⟩ := S.rd
  obtain ⟨as, h1, h2⟩ := S.tk
  exact ⟨⟨dx, by rw [upd_ne (ne_of h hT (by intro z; cases z))]; exact h⟩, ⟨as, by rw [upd_ne ne]; exact h1, h2.lst hT⟩, S.sg, S.dr, S.en⟩
theorem NmIs.lst {H : Hp} {t d : Addr} {xs : List V} {o : HO} {ns : List Bytes} (hT : H t = some (.lst xs)) (h : NmIs H d ns) : NmIs (upd H t o) d ns := (upd_ne (ne_of h hT (by intro z; cases z))).trans h
section
variable {P : Program} {w : World} {K : PySem.W.Frag} {mg : Str → Option Value} {base : Heap} {CF fF CT fT CR fRI fRS fRT : Addr} {fdF fdT fdS fdK : FuncData}
/-! ### read_measures -/
def spMeasures (CF CR CT : Addr) : Sp := fun vs H Q E => ∃ (r D : Addr) (i : Nat) (ts l : List PTok), vs = [.ref r] ∧ St CR CT H r D ts i l ∧
  (∀ f, ((takeWord "measures" l).bind fun l1 => measuresW [] l1) = .error f → ∀ dd H', Kp r H H' → FltAt H' dd f → E (.ref CF) (some dd) H') ∧
  (∀ ms l', ((takeWord "measures" l).bind fun l1 => measuresW [] l1) = .ok (ms, l') → ms.length ≤ 4 → ∀ (t : Addr) j H', Kp r H H' → St CR CT H' r D ts j l' → H t = none → H' t = some (.lst (ms.map fun m => V.int (turnOf m))) → Q (.ref t) H')
theorem sc_read_measures : FnScope ["reader", "names", "turns"] ["reader"] (defScope s_read_measures) := ⟨rfl, rfl, rfl, by decide +kernel, rfl, by decide +kernel, by decide +kernel⟩

theorem ok_read_measures {f : Addr} {fd : FuncData} (F : Fun K "read_measures" "read_measures" s_read_measures f fd) (T_Reader : RdTxt K mg CR fRI fRS fRT)
    (o_Reader_sees : FnOk P w K mg base CX0 1 fRS fdS ["self", "kind"] (spSees CR CT)) (b_Reader_sees : Binds K fdS ["self", "kind"] [])
    (o_Reader_take : FnOk P w K mg base (L2.CX P w) 3 fRT fdK ["self", "kind"] (spTake CF CR CT)) (b_Reader_take : Binds K fdK ["self", "kind"] [])
    (D_read_measure : Df P w K mg base (L2.CX P w) 4 "read_measure" ["reader", "names"] (spMeasure CF CR CT)) :
    FnOk P w K mg base (L2.CX P w) 5 f fd ["reader"] (spMeasures CF CR CT) := by
  have M_Reader_sees := T_Reader.mS
  have M_Reader_take := T_Reader.mT
  obtain ⟨f_read_measure, fd_read_measure, m_read_measure, o_read_measure, k_read_measure, b_read_measure⟩ := D_read_measure
  refine F.okX sc_read_measures (fun vs H Q E h => ?_) (fun cdv A outer s H vs Q E hr h => ⟨_, (pss_cons (ps_expr (pe_meth (pv 0) T_Reader.cl M_Reader_take o_Reader_take (hr.mono (by decide)) b_Reader_take .nil (passes_call (takes_of rfl rfl rfl rfl) (fun _ _ _ _ h => h)) (pa_cons pe_str pa_nil)))
      (pss_cons (ps_set (i := 1) sc_read_measures.nd rfl (.inl rfl) pe_dnewT)
      (pss_cons (ps_set (i := 2) sc_read_measures.nd rfl (.inl rfl) (pe_lst (pa_cons (pe_call o_read_measure (hr.mono (by decide)) rfl m_read_measure k_read_measure b_read_measure .nil (passes_call (takes_of rfl rfl rfl rfl) (fun _ _ _ _ h => h)) (pa_cons (pv 0) (pa_cons (pv 1) pa_nil))) pa_nil)))
      (pss_cons (ps_while (passes_of rfl) (pt_val (pe_meth (pv 0) T_Reader.cl M_Reader_sees o_Reader_sees (hr.mono (by decide)) b_Reader_sees .nil pass0 (pa_cons pe_str pa_nil)))
        (pss_cons (ps_expr (pe_meth (pv 0) T_Reader.cl M_Reader_take o_Reader_take (hr.mono (by decide)) b_Reader_take .nil (passes_call (takes_of rfl rfl rfl rfl) (fun _ _ _ _ h => h)) (pa_cons pe_str pa_nil)))
      (pss_one (ps_expr (pe_bm PySem.F.plainAttrs_list PySem.F.slot_list_append PySem.F.type_list_append mt_append (pv 2) (pa_cons (pe_call o_read_measure (hr.mono (by decide)) rfl m_read_measure k_read_measure b_read_measure .nil (passes_call (takes_of rfl rfl rfl rfl) (fun _ _ _ _ h => h)) (pa_cons (pv 0) (pa_cons (pv 1) pa_nil))) pa_nil))))))
      (pss_cons (ps_expr (pe_meth (pv 0) T_Reader.cl M_Reader_take o_Reader_take (hr.mono (by decide)) b_Reader_take .nil (passes_call (takes_of rfl rfl rfl rfl) (fun _ _ _ _ h => h)) (pa_cons pe_str pa_nil)))
      (pss_one (ps_ret (pv 2)))))))), ?_⟩)
  · obtain ⟨r, D, i, ts, l, rfl, _⟩ := h
    rfl
  · obtain ⟨r, D, i, ts, l, rfl, S, kE, kQ⟩ := h
    obtain ⟨dr, hr1⟩ := S.rd
    refine ⟨_, rfl, r, dr, _, rfl, hr1, rd_take D i, a1 ?_⟩
    refine take_as is_measures S (fun f e dd H' k fl => kE f (by show (taken _ l).bind _ = _; rw [e]; rfl) dd H' k fl) (fun l1 e q H1 k1 S1 => ?_)
    rw [show takeWord "measures" l = .ok l1 from e, bind_ok, measuresW_cont] at kE kQ
    intro d hd
    have s2 : Same H1 (upd H1 d (.dT [])) := same_new hd
    have S2 := S1.same s2
    have N2 : NmIs (upd H1 d (.dT [])) d (nmsM []) := upd_same
    have d0 : H d = none := by
      cases h0 : H d with
      | none => rfl
      | some o =>
        rcases Nat.decEq d r with n | n
        · rw [k1 d o h0 n] at hd
          cases hd
        · obtain ⟨dr1, hr2⟩ := S1.rd
          rw [← n, hd] at hr2
          cases hr2
    have k2 : Kp r H (upd H1 d (.dT [])) := k1.trans (Kp.same s2)
    generalize upd H1 d (.dT []) = H2 at S2 N2 k2
    refine ⟨_, rfl, _, rfl, r, D, d, _, ts, l1, [], rfl, S2, N2, Nat.zero_le _, fun f e2 dd H' k fl => kE f (by rw [e2]; rfl) dd H' (fun b o hb n => k b o (k2 b o hb n) n (ne_of_none hb d0)) fl, fun m l3 e2 _ j H3 k3 S3 N3 => ?_⟩
    rw [e2, bind_ok] at kE kQ
    refine ⟨by show 1 ≤ sizeLine; rw [sizeLine_eq]; omega, fun t ht => ?_⟩
    have k3' : ∀ b o, H b = some o → b ≠ r → H3 b = some o := fun b o hb n => k3 b o (k2 b o hb n) n (ne_of_none hb d0)
    have t0 : H t = none := by
      cases h0 : H t with
      | none => rfl
      | some o =>
        rcases Nat.decEq t r with n | n
        · rw [k3' t o h0 n] at ht
          cases ht
        · obtain ⟨dr1, hr2⟩ := S3.rd
          rw [← n, ht] at hr2
          cases hr2
    have s4 : Same H3 (upd H3 t (.lst [V.int (turnOf m)])) := same_new ht
    refine while_w (fun n σ H' => ∃ (ms : List Measure) (j : Nat) (lj : List PTok), σ = [some (.ref r), some (.ref d), some (.ref t)] ∧ n = lj.length ∧ ms.length ≤ 4 ∧ Kp r H H' ∧ St CR CT H' r D ts j lj ∧ NmIs H' d (nmsM ms) ∧ H' t = some (.lst (ms.map fun m => V.int (turnOf m))) ∧
        contW ([] ++ [m]) l3 = contW ms lj)
      (fun σ H' => ∃ (ms : List Measure) (j : Nat) (lj : List PTok), σ = [some (.ref r), some (.ref d), some (.ref t)] ∧ ms.length ≤ 4 ∧ Kp r H H' ∧ St CR CT H' r D ts j lj ∧ H' t = some (.lst (ms.map fun m => V.int (turnOf m))) ∧
        contW ([] ++ [m]) l3 = (takeSign 59 lj).map fun m => (ms, m))
      ⟨_, [m], j, l3, rfl, rfl, by show 1 ≤ 4; decide, fun b o hb n => by rw [upd_ne (ne_of_none hb t0)]; exact k3' b o hb n, S3.same s4, s4 _ _ N3, upd_same, rfl⟩ ?_ ?_
    · rintro σ H' ⟨ms, j, lj, rfl, hm, k, Sj, hT, ec⟩
      obtain ⟨dr5, hr5⟩ := Sj.rd
      refine ⟨_, rfl, r, dr5, _, rfl, hr5, rd_take D _, a1 ?_⟩
      rw [ec] at kE kQ
      refine take_as is_semi Sj (fun f e dd H' k' fl => kE f (by show (taken _ lj).map _ = _; rw [e]; rfl) dd H' (k.trans k') fl) (fun l6 e q H6 k6 S6 => ?_)
      refine ⟨_, rfl, ?_⟩
      exact kQ ms l6 (by show (taken _ lj).map _ = _; rw [e]; rfl) hm t _ H6 (k.trans k6) S6 t0 (k6 _ _ hT (ne_of hT hr5 (by intro z; cases z)))
    · rintro fin n σ H' ⟨ms, j, lj, rfl, rfl, hm, k, Sj, Nj, hT, ec⟩
      obtain ⟨dr5, hr5⟩ := Sj.rd
      refine ⟨_, rfl, r, dr5, _, rfl, hr5, rd_sees D _, a1 ?_⟩
      refine sees_as is_comma Sj ⟨_, rfl, ?_⟩
      cases hc : next (.sign 44) lj with
      | false =>
        refine if_f rfl (fin _ _ ⟨ms, j, lj, rfl, hm, k, Sj, hT, ?_⟩)
        rw [ec]
        unfold contW
        rw [hc, if_neg Bool.false_ne_true]
      | true =>
        have ec' : contW ([] ++ [m]) l3 = measuresW ms (lj.drop 1) := by
          rw [ec]
          unfold contW
          rw [hc, if_pos rfl]
        rw [measuresW_cont] at ec'
        refine if_t rfl ⟨fun σ' H' => _, fun _ _ h => h, ?_⟩
        refine ⟨_, rfl, r, dr5, _, rfl, hr5, rd_take D _, a1 ?_⟩
        refine take_as is_comma Sj (fun f e => ?_) (fun l6 e q H6 k6 S6 => ?_)
        · unfold taken at e
          rw [hc] at e
          cases e
        · have el : l6 = lj.drop 1 := by
            unfold taken at e
            rw [hc] at e
            exact (Except.ok.inj e).symm
          subst el
          have hT6 := k6 _ _ hT (ne_of hT hr5 (by intro z; cases z))
          have N6 := Nj.kp Sj.rd k6
          refine ⟨_, rfl, .inl ⟨rfl, _, SqL.of hT6⟩, ?_⟩
          refine ⟨_, rfl, _, rfl, r, D, d, _, ts, _, ms, rfl, S6, N6, hm, fun f e2 dd H' k7 fl => ?_, fun m7 l7 e2 lt j7 H7 k7 S7 N7 => ?_⟩
          · rw [e2] at ec'
            exact kE f ec' dd H' (fun b o hb n => k7 b o ((k.trans k6) b o hb n) n (ne_of_none hb d0)) fl
          · rw [e2, bind_ok] at ec'
            obtain ⟨dr7, hr7⟩ := S7.rd
            obtain ⟨dr6, hr6⟩ := S6.rd
            have hT7 := k7 _ _ hT6 (ne_of hT6 hr6 (by intro z; cases z)) (ne_of hT6 N6 (by intro z; cases z))
            refine ⟨t, _, _, rfl, rfl, hT7, by rw [List.length_map, sizeLine_eq]; omega, ?_⟩
            have sh : l7.length < (List.drop 1 lj).length := measure1_short e2
            have dl : (List.drop 1 lj).length ≤ lj.length := by rw [List.length_drop]; omega
            have kk : Kp r H (upd H7 t (.lst (ms.map (fun m => V.int (turnOf m)) ++ [V.int (turnOf m7)]))) := fun b o hb n => by
              rw [upd_ne (ne_of_none hb t0)]
              exact k7 b o ((k.trans k6) b o hb n) n (ne_of_none hb d0)
            obtain ⟨as0, hD0, _⟩ := S.tk
            have em : (ms.map fun m => V.int (turnOf m)) ++ [V.int (turnOf m7)] = (ms ++ [m7]).map fun m => V.int (turnOf m) := by rw [List.map_append]; rfl
            refine ⟨_, by omega, ms ++ [m7], j7, l7, rfl, rfl, by rw [List.length_append, List.length_singleton]; omega, kk, S7.lst hT7 (ne_of_none hD0 t0), N7.lst hT7, ?_, ec'⟩
            rw [← em]
            exact upd_same
end
end Off
end
section
set_option Elab.async false
set_option linter.all false
set_option maxRecDepth 100000
set_option maxHeartbeats 4000000
namespace Off
open PySem PySem.Spec PyProof.Rows L2
open VaskyBase (Bytes isLetter isDigit isBlank token PTok Toks word decimal numberOf SIGNS tokEq next taken here takeName takeSign takeWord nextWord wrong)
open Vaskya (takeInt takeValues Measure Item goodOf)
theorem goodOf_snoc {ms : List Measure} {zs : List Int} {m : Measure} {z : Int} (h : ms[zs.length]? = some m) : goodOf ms (zs ++ [z]) = goodOf ms zs ++ [turnOf m * z] := by
  have key : ∀ (ms : List Measure) (zs : List Int), ms[zs.length]? = some m → ms.zip (zs ++ [z]) = ms.zip zs ++ [(m, z)] := by
    intro ms
    induction ms with
    | nil => intro zs h; cases h
    | cons a ms ih =>
      intro zs h
      cases zs with
      | nil =>
        cases h
        show (m, z) :: ms.zip [] = [] ++ [(m, z)]
        rw [List.zip_nil_right]
        rfl
      | cons y zs =>
        show (a, y) :: ms.zip (zs ++ [z]) = (a, y) :: ms.zip zs ++ [(m, z)]
        rw [ih zs h]
        rfl
  unfold goodOf
  rw [key ms zs h, List.map_append]
  congr 1
  show [if m.up = true then z else -z] = [turnOf m * z]
  unfold turnOf
  cases m.up
  · rw [if_neg Bool.false_ne_true, if_neg Bool.false_ne_true, Int.neg_one_mul]
  · rw [if_pos rfl, if_pos rfl, Int.one_mul]
theorem goodOf_len {ms : List Measure} {zs : List Int} (h : zs.length = ms.length) : (goodOf ms zs).length = ms.length := by
  unfold goodOf
  rw [List.length_map, List.length_zip]
  omega
section
variable {P : Program} {w : World} {K : PySem.W.Frag} {mg : Str → Option Value} {base : Heap} {CF fF CT fT CR fRI fRS fRT : Addr} {fdF fdT fdS fdK : FuncData}
theorem fresh_kp {CR : Addr} {H H' : Hp} {r D t : Addr} {j : Nat} (k : Kp r H H') (hr : RdIs CR H' r D j) (ht : H' t = none) : H t = none := by
  cases h0 : H t with
  | none => rfl
  | some o =>
    rcases Nat.decEq t r with n | n
    · rw [k t o h0 n] at ht
      cases ht
    · obtain ⟨dr, hr⟩ := hr
      rw [← n, ht] at hr
      cases hr
theorem a0 {σ : L2.St} {H : Hp} {K : List V → Hp → Prop} (h : K [] H) : tNil σ H K := h
theorem spValue_mono {CF CR CT : Addr} {vs : List V} {H : Hp} {Q Q' : VK} {E : XK} (h : spValue CF CR CT vs H Q E) (m : ∀ y H, Q y H → Q' y H) : spValue CF CR CT vs H Q' E := by
  obtain ⟨r, D, i, ts, l, e, S, kE, kQ⟩ := h
  exact ⟨r, D, i, ts, l, e, S, kE, fun z l' e1 j H' k S' => m _ _ (kQ z l' e1 j H' k S')⟩
/-! ### read_merits -/
def spMerits (CF CR CT : Addr) : Sp := fun vs H Q E => ∃ (r D t : Addr) (i : Nat) (ts l : List PTok) (ms : List Measure), vs = [.ref r, .ref t] ∧ St CR CT H r D ts i l ∧ H t = some (.lst (ms.map fun m => V.int (turnOf m))) ∧ ms.length ≤ 4 ∧
  (∀ f, takeValues ms.length [] l = .error f → ∀ dd H', Kp r H H' → FltAt H' dd f → E (.ref CF) (some dd) H') ∧
  (∀ zs l', takeValues ms.length [] l = .ok (zs, l') → zs.length = ms.length → ∀ (q : Addr) j H', Kp r H H' → St CR CT H' r D ts j l' → H q = none → H' q = some (.lst ((goodOf ms zs).map V.int)) → Q (.ref q) H')
theorem sc_read_merits : FnScope ["reader", "turns", "merits", "turn"] ["reader", "turns"] (defScope s_read_merits) := ⟨rfl, rfl, rfl, by decide +kernel, rfl, by decide +kernel, by decide +kernel⟩

theorem ok_read_merits {f : Addr} {fd : FuncData} (F : Fun K "read_merits" "read_merits" s_read_merits f fd) (B : Blt mg) (T_Reader : RdTxt K mg CR fRI fRS fRT)
    (o_Reader_take : FnOk P w K mg base (L2.CX P w) 3 fRT fdK ["self", "kind"] (spTake CF CR CT)) (b_Reader_take : Binds K fdK ["self", "kind"] [])
    (D_read_value : Df P w K mg base (L2.CX P w) 4 "read_value" ["reader"] (spValue CF CR CT)) :
    FnOk P w K mg base (L2.CX P w) 5 f fd ["reader", "turns"] (spMerits CF CR CT) := by
  have M_Reader_take := T_Reader.mT
  obtain ⟨f_read_value, fd_read_value, m_read_value, o_read_value, k_read_value, b_read_value⟩ := D_read_value
  refine F.okX sc_read_merits (fun vs H Q E h => ?_) (fun cdv A outer s H vs Q E hr h => ⟨_, (pss_cons (ps_set (i := 2) sc_read_merits.nd rfl (.inl rfl) (pe_lst pa_nil))
      (pss_cons (ps_for (passes_of rfl) rfl (pi_list (pv 1)) (pg_name (i := 3) sc_read_merits.nd rfl (Or.inl rfl))
        (pss_cons (ps_if (pt_cmpR op_gt (pe_callB call_len_seq (by rfl) B.len PySem.boot_len (pa_cons (pv 2) pa_nil)) pe_int (nomark _))
        (pss_one (ps_expr (pe_meth (pv 0) T_Reader.cl M_Reader_take o_Reader_take (hr.mono (by decide)) b_Reader_take .nil (passes_call (takes_of rfl rfl rfl rfl) (fun _ _ _ _ h => h)) (pa_cons pe_str pa_nil))))
        pss_nil)
      (pss_one (ps_expr (pe_bm PySem.F.plainAttrs_list PySem.F.slot_list_append PySem.F.type_list_append mt_append (pv 2) (pa_cons (pe_op op_mul (pv 3) (pe_call o_read_value (hr.mono (by decide)) rfl m_read_value k_read_value b_read_value .nil (passes_call (takes_of rfl rfl rfl rfl) (fun _ _ _ _ h => h)) (pa_cons (pv 0) pa_nil))) pa_nil))))))
      (pss_one (ps_ret (pv 2))))), ?_⟩)
  · obtain ⟨r, D, t, i, ts, l, ms, rfl, _⟩ := h
    rfl
  · obtain ⟨r, D, t, i, ts, l, ms, rfl, S, hT, hm, kE, kQ⟩ := h
    refine ⟨by show 0 ≤ sizeLine; exact Nat.zero_le _, fun q hq => ?_⟩
    have s0 : Same H (upd H q (.lst [])) := same_new hq
    obtain ⟨dr0, hr0⟩ := S.rd
    obtain ⟨as0, hD0, _⟩ := S.tk
    refine ⟨_, rfl, t, rfl, ⟨_, SqL.of (s0 _ _ hT)⟩, for_list (K := K) (a := t) (xs := ms.map fun m => V.int (turnOf m))
      (fun n σ H' => ∃ (zs : List Int) (j : Nat) (lj : List PTok) (v : Option V), σ = [some (.ref r), some (.ref t), some (.ref q), v] ∧ zs.length = n ∧ n ≤ ms.length ∧ Kp r H H' ∧ St CR CT H' r D ts j lj ∧ H' q = some (.lst ((goodOf ms zs).map V.int)) ∧
        takeValues ms.length [] l = takeValues (ms.length - n) zs lj)
      ⟨[], i, l, none, rfl, rfl, Nat.zero_le _, Kp.same s0, S.same s0, by rw [upd_same]; unfold goodOf; rw [List.zip_nil_right]; rfl, rfl⟩ (fun n σ H' _ ⟨zs, j, lj, v, _, _, _, k, _⟩ => SqL.of (k _ _ hT (ne_of hT hr0 (by intro z; cases z)))) ?_ ?_⟩
    · rintro n x σ H' hx ⟨zs, j, lj, v, rfl, hz, hn, k, Sj, hQ, e⟩
      rw [List.getElem?_map] at hx
      cases hmn : ms[n]? with
      | none =>
        rw [hmn] at hx
        cases hx
      | some m =>
        rw [hmn] at hx
        cases hx
        have lt : n < ms.length := (List.getElem?_eq_some_iff.mp hmn).1
        have gl : (goodOf ms zs).length = n := by
          unfold goodOf
          rw [List.length_map, List.length_zip]
          omega
        rw [show ms.length - n = (ms.length - (n + 1)) + 1 from by omega, takeValues_succ] at e
        obtain ⟨drj, hrj⟩ := Sj.rd
        have qr : q ≠ r := ne_of hQ hrj (by intro z; cases z)
        -- the value and what follows it, from any state of the reader
        have step : ∀ (Hc : Hp) (jc : Nat) (lc : List PTok), Kp r H Hc → St CR CT Hc r D ts jc lc → Hc q = some (.lst ((goodOf ms zs).map V.int)) →
            takeValues ms.length [] l = ((takeInt lc).bind fun x => takeValues (ms.length - (n + 1)) (zs ++ [x.1]) x.2) →
            spValue CF CR CT [.ref r] Hc (fun y H2 => ∃ (z : Int), y = .int z ∧ ∀ H3, H3 = upd H2 q (.lst ((goodOf ms zs).map V.int ++ [.int (turnOf m * z)])) → H2 q = some (.lst ((goodOf ms zs).map V.int)) ∧ 
              ∃ (zs' : List Int) (j : Nat) (lj : List PTok), zs'.length = n + 1 ∧ Kp r H H3 ∧ St CR CT H3 r D ts j lj ∧ H3 q = some (.lst ((goodOf ms zs').map V.int)) ∧ takeValues ms.length [] l = takeValues (ms.length - (n + 1)) zs' lj) E := by
          intro Hc jc lc kc Sc hqc ec
          refine ⟨r, D, jc, ts, lc, rfl, Sc, fun f e1 dd H' k' fl => kE f (by rw [ec, e1]; rfl) dd H' (kc.trans k') fl, fun z l2 e1 j2 H2 k2 S2 => ?_⟩
          rw [e1, bind_ok] at ec
          obtain ⟨drc, hrc⟩ := Sc.rd
          have hq2 := k2 _ _ hqc qr
          refine ⟨z, rfl, fun H3 e3 => ⟨hq2, zs ++ [z], j2, l2, by rw [List.length_append, hz]; rfl, ?_, ?_, ?_, ec⟩⟩
          · subst e3
            exact fun b o hb nr => by
              rw [upd_ne (ne_of_none hb hq)]
              exact k2 _ _ (kc b o hb nr) nr
          · subst e3
            exact S2.lst hq2 (ne_of_none hD0 hq)
          · subst e3
            rw [goodOf_snoc (by rw [hz]; exact hmn), List.map_append]
            exact upd_same
        refine ⟨_, rfl, q, _, rfl, .inl (SqL.of hQ), _, _, rfl, rfl, _, rfl, ?_⟩
        rw [List.length_map, gl]
        by_cases c : 0 < n
        · have ez : zs.isEmpty = false := by cases zs with
            | nil => rw [← hz] at c; exact absurd c (Nat.lt_irrefl _)
            | cons _ _ => rfl
          rw [ez, if_neg Bool.false_ne_true] at e
          refine if_t (decide_eq_true (by omega)) ?_
          refine ⟨_, rfl, r, drj, _, rfl, hrj, rd_take D _, a1 ?_⟩
          refine take_as is_comma Sj (fun f e1 dd H' k' fl => kE f (by rw [e]; show (taken _ lj).bind _ = _; rw [e1]; rfl) dd H' (k.trans k') fl) (fun l1 e1 q1 H1 k1 S1 => ?_)
          rw [show takeSign 44 lj = .ok l1 from e1, bind_ok] at e
          refine ⟨_, rfl, .inl ⟨rfl, _, SqL.of (k1 _ _ hQ qr)⟩, _, rfl, _, rfl, a0 ?_⟩
          refine spValue_mono (step H1 _ l1 (k.trans k1) S1 (k1 _ _ hQ qr) e) fun y H2 hy => ?_
          obtain ⟨z, rfl, hy⟩ := hy
          obtain ⟨hq2, zs', j', lj', a1, a2, a3, a4, a5⟩ := hy _ rfl
          refine ⟨_, _, rfl, rfl, .inl ?_, q, _, _, rfl, rfl, hq2, by rw [List.length_map, gl, sizeLine_eq]; omega, ?_⟩
          · unfold turnOf
            split <;> constructor <;> decide
          · exact ⟨zs', j', lj', _, rfl, a1, lt, a2, a3, a4, a5⟩
        · have n0 : n = 0 := by omega
          obtain rfl : zs = [] := List.eq_nil_of_length_eq_zero (hz.trans n0)
          refine if_f (decide_eq_false (by omega)) ?_
          refine ⟨_, rfl, .inl ⟨rfl, _, SqL.of hQ⟩, _, rfl, _, rfl, a0 ?_⟩
          refine spValue_mono (step H' _ lj k Sj hQ e) fun y H2 hy => ?_
          obtain ⟨z, rfl, hy⟩ := hy
          obtain ⟨hq2, zs', j', lj', a1, a2, a3, a4, a5⟩ := hy _ rfl
          refine ⟨_, _, rfl, rfl, .inl ?_, q, _, _, rfl, rfl, hq2, by rw [List.length_map, gl, sizeLine_eq]; omega, ?_⟩
          · unfold turnOf
            split <;> constructor <;> decide
          · exact ⟨zs', j', lj', _, rfl, a1, lt, a2, a3, a4, a5⟩
    · rintro σ H' ⟨zs, j, lj, v, rfl, hz, hn, k, Sj, hQ, e⟩
      rw [List.length_map] at hz
      rw [List.length_map, Nat.sub_self, takeValues_zero] at e
      refine ⟨_, rfl, ?_⟩
      exact kQ zs lj e hz q j H' k Sj hq hQ
end
end Off
end
section
set_option Elab.async false
set_option linter.all false
set_option maxRecDepth 100000
set_option maxHeartbeats 4000000
namespace Off
open PySem PySem.Spec PyProof.Rows L2
open VaskyBase (Bytes isLetter isDigit isBlank token PTok Toks word decimal numberOf SIGNS tokEq next taken here takeName takeSign takeWord nextWord wrong)
open Vaskya (takeInt takeValues Measure Item goodOf)
/-- a list of rows of ints at q -/
def RowsAt (H : Hp) (q : Addr) (rows : List (List Int)) : Prop := ∃ as : List Addr, H q = some (.lst (as.map V.ref)) ∧ as.length = rows.length ∧
  ∀ (i : Nat) (row : List Int), rows[i]? = some row → ∃ a, as[i]? = some a ∧ a ≠ q ∧ H a = some (.lst (row.map V.int))
theorem RowsAt.kp {CR : Addr} {H H' : Hp} {r D q : Addr} {i : Nat} {rows : List (List Int)} (hr : RdIs CR H r D i) (k : Kp r H H') (h : RowsAt H q rows) : RowsAt H' q rows := by
  obtain ⟨dr, hr⟩ := hr
  obtain ⟨as, h1, h2, h3⟩ := h
  refine ⟨as, k _ _ h1 (ne_of h1 hr (by intro z; cases z)), h2, fun i row e => ?_⟩
  obtain ⟨a, e1, n, e2⟩ := h3 i row e
  exact ⟨a, e1, n, k _ _ e2 (ne_of e2 hr (by intro z; cases z))⟩
theorem RowsAt.same {H H' : Hp} {q : Addr} {rows : List (List Int)} (s : Same H H') (h : RowsAt H q rows) : RowsAt H' q rows := by
  obtain ⟨as, h1, h2, h3⟩ := h
  refine ⟨as, s _ _ h1, h2, fun i row e => ?_⟩
  obtain ⟨a, e1, n, e2⟩ := h3 i row e
  exact ⟨a, e1, n, s _ _ e2⟩
theorem RowsAt.dt {H : Hp} {q d : Addr} {kvs : List (List Key × V)} {o : HO} {rows : List (List Int)} (hd : H d = some (.dT kvs)) (h : RowsAt H q rows) : RowsAt (upd H d o) q rows := by
  obtain ⟨as, h1, h2, h3⟩ := h
  refine ⟨as, by rw [upd_ne (ne_of h1 hd (by intro z; cases z))]; exact h1, h2, fun i row e => ?_⟩
  obtain ⟨a, e1, n, e2⟩ := h3 i row e
  exact ⟨a, e1, n, by rw [upd_ne (ne_of e2 hd (by intro z; cases z))]; exact e2⟩
theorem RowsAt.snoc {H : Hp} {q a : Addr} {rows : List (List Int)} {row : List Int} {as : List Addr} (hq : H q = some (.lst (as.map V.ref))) (hl : as.length = rows.length)
    (h3 : ∀ (i : Nat) (row : List Int), rows[i]? = some row → ∃ a, as[i]? = some a ∧ a ≠ q ∧ H a = some (.lst (row.map V.int))) (n : a ≠ q) (ha : H a = some (.lst (row.map V.int))) : RowsAt (upd H q (.lst (as.map V.ref ++ [.ref a]))) q (rows ++ [row]) := by
  refine ⟨as ++ [a], by rw [List.map_append]; exact upd_same, by rw [List.length_append, List.length_append, hl]; rfl, fun i w hi => ?_⟩
  rcases Nat.lt_or_ge i rows.length with l | l
  · rw [List.getElem?_append_left l] at hi
    obtain ⟨b, e1, m, e2⟩ := h3 i w hi
    exact ⟨b, by rw [List.getElem?_append_left (by rw [hl]; exact l)]; exact e1, m, by rw [upd_ne m]; exact e2⟩
  · rw [List.getElem?_append_right l] at hi
    have : i - rows.length = 0 := by
      have := (List.getElem?_eq_some_iff.mp hi).1
      rw [List.length_singleton] at this
      omega
    rw [this] at hi
    cases hi
    exact ⟨a, by rw [List.getElem?_append_right (by rw [hl]; exact l), hl, this]; rfl, n, by rw [upd_ne n]; exact ha⟩
section
variable {CF CR CT : Addr} {H : Hp} {r D : Addr} {ts : List PTok} {i : Nat} {l : List PTok} {Q : VK} {E : XK}
theorem take_at {k : Str} {t0 : VaskyBase.Tok} (kk : KindIs k t0) (S : St CR CT H r D ts i l) (hE : ∀ f, taken t0 l = .error f → ∀ d H', Kp r H H' → FltAt H' d f → E (.ref CF) (some d) H')
    (hQ : ∀ l', taken t0 l = .ok l' → ∀ q t e H', here l = t.place → TokAt CT H' q t e → Kp r H H' → St CR CT H' r D ts (i + 1) l' → Q (.ref q) H') : spTake CF CR CT [.ref r, .str k] H Q E := by
  obtain ⟨t, rr, e, hi, sg, hd⟩ := S.head
  subst e
  refine ⟨r, D, i, ts, k, t, rfl, S.rd, S.tk, hi, fun n d H' s f => hE ⟨3, t.place⟩ ?_ d H' (Kp.same s) f, fun y q e H' k1 rd tk => ?_⟩
  · unfold taken
    exact if_neg fun z => n ((kk.is _ sg).mpr z)
  · have y' := (kk.is _ sg).mp y
    refine hQ rr ?_ q t e H' rfl tk k1 (S.kp k1 rd hd (S.en.next (tokEq_last y' kk.nl)))
    unfold taken
    exact if_pos y'
end
def nmsI (is : List Item) : List Bytes := is.map fun m => m.name
theorem nmsI_any (is : List Item) (b : Bytes) : (nmsI is).any (· == b) = is.any fun m => m.name == b := by
  unfold nmsI
  rw [List.any_map]
  rfl
def rowsI (ms : List Measure) (is : List Item) : List (List Int) := is.map fun x => goodOf ms x.vs
section
variable {P : Program} {w : World} {K : PySem.W.Frag} {mg : Str → Option Value} {base : Heap} {CF fF CT fT CR fRI fRS fRT : Addr} {fdF fdT fdS fdK : FuncData}
/-! ### read_items -/
def spItems (CF CR CT : Addr) : Sp := fun vs H Q E => ∃ (r D t : Addr) (i : Nat) (ts l : List PTok) (ms : List Measure), vs = [.ref r, .ref t] ∧ St CR CT H r D ts i l ∧ H t = some (.lst (ms.map fun m => V.int (turnOf m))) ∧ ms.length ≤ 4 ∧
  (∀ f, itemsW ms.length [] l = .error f → ∀ dd H', Kp r H H' → FltAt H' dd f → E (.ref CF) (some dd) H') ∧
  (∀ is l', itemsW ms.length [] l = (if next .last l' = true then .ok is else .error ⟨3, here l'⟩) → is.length ≤ 16 → (∀ x ∈ is, x.vs.length = ms.length) →
    ∀ (q : Addr) j H', Kp r H H' → St CR CT H' r D ts j l' → H q = none → RowsAt H' q (rowsI ms is) → Q (.ref q) H')
theorem sc_read_items : FnScope ["reader", "turns", "names", "items", "word"] ["reader", "turns"] (defScope s_read_items) := ⟨rfl, rfl, rfl, by decide +kernel, rfl, by decide +kernel, by decide +kernel⟩

theorem ok_read_items {f : Addr} {fd : FuncData} (F : Fun K "read_items" "read_items" s_read_items f fd) (B : Blt mg) (gN : ∃ t, mg "TOO_MANY" = some (.int 4 t)) (gM : ∃ t, mg "MOST_ITEMS" = some (.int 16 t))
    (T_Reader : RdTxt K mg CR fRI fRS fRT) (T_Token : TokTxt K mg CT fT) (T_Fault : FaultTxt K mg CF fF) (o_Fault : FnOk P w K mg base CX0 1 fF fdF ["self", "code", "place"] (spFault CF)) (b_Fault : Binds K fdF ["self", "code", "place"] [])
    (o_Reader_sees : FnOk P w K mg base CX0 1 fRS fdS ["self", "kind"] (spSees CR CT)) (b_Reader_sees : Binds K fdS ["self", "kind"] [])
    (o_Reader_take : FnOk P w K mg base (L2.CX P w) 3 fRT fdK ["self", "kind"] (spTake CF CR CT)) (b_Reader_take : Binds K fdK ["self", "kind"] [])
    (D_keep_name : Df P w K mg base (L2.CX P w) 3 "keep_name" ["names", "token"] (spKeep CF CT)) (D_read_merits : Df P w K mg base (L2.CX P w) 5 "read_merits" ["reader", "turns"] (spMerits CF CR CT)) :
    FnOk P w K mg base (L2.CX P w) 6 f fd ["reader", "turns"] (spItems CF CR CT) := by
  obtain ⟨tN, g_TOO_MANY⟩ := gN
  obtain ⟨tM, g_MOST_ITEMS⟩ := gM
  have M_Reader_sees := T_Reader.mS
  have M_Reader_take := T_Reader.mT
  obtain ⟨f_keep_name, fd_keep_name, m_keep_name, o_keep_name, k_keep_name, b_keep_name⟩ := D_keep_name
  obtain ⟨f_read_merits, fd_read_merits, m_read_merits, o_read_merits, k_read_merits, b_read_merits⟩ := D_read_merits
  refine F.okX sc_read_items (fun vs H Q E h => ?_) (fun cdv A outer s H vs Q E hr h => ⟨_, (pss_cons (ps_set (i := 2) sc_read_items.nd rfl (.inl rfl) pe_dnewT)
      (pss_cons (ps_set (i := 3) sc_read_items.nd rfl (.inl rfl) (pe_lst pa_nil))
      (pss_cons (ps_while (passes_of rfl) (pt_val (pe_meth (pv 0) T_Reader.cl M_Reader_sees o_Reader_sees (hr.mono (by decide)) b_Reader_sees .nil pass0 (pa_cons pe_str pa_nil)))
        (pss_cons (ps_set (i := 4) sc_read_items.nd rfl (.inl rfl) (pe_meth (pv 0) T_Reader.cl M_Reader_take o_Reader_take (hr.mono (by decide)) b_Reader_take .nil (passes_call (takes_of rfl rfl rfl rfl) (fun _ _ _ _ h => h)) (pa_cons pe_str pa_nil)))
      (pss_cons (ps_if (pt_cmpR op_eq (pe_callB call_len_seq (by rfl) B.len PySem.boot_len (pa_cons (pv 3) pa_nil)) (pe_glob (v := .int 16) rfl g_MOST_ITEMS ⟨_, rfl⟩) (nomark _))
        (pss_one (ps_raise rfl (takes_of rfl rfl rfl rfl) (pmk_err T_Fault.er T_Fault.iC T_Fault.tI o_Fault (hr.mono (by decide)) b_Fault .nil pass0 rfl T_Fault.gC (pa_cons (pe_glob (v := .int 4) rfl g_TOO_MANY ⟨_, rfl⟩) (pa_cons (pe_fld (pv 4) rfl) pa_nil)))))
        pss_nil)
      (pss_cons (ps_expr (pe_call o_keep_name (hr.mono (by decide)) rfl m_keep_name k_keep_name b_keep_name .nil (passes_call (takes_of rfl rfl rfl rfl) (fun _ _ _ _ h => h)) (pa_cons (pv 2) (pa_cons (pe_meth (pv 0) T_Reader.cl M_Reader_take o_Reader_take (hr.mono (by decide)) b_Reader_take .nil (passes_call (takes_of rfl rfl rfl rfl) (fun _ _ _ _ h => h)) (pa_cons pe_str pa_nil)) pa_nil))))
      (pss_cons (ps_expr (pe_meth (pv 0) T_Reader.cl M_Reader_take o_Reader_take (hr.mono (by decide)) b_Reader_take .nil (passes_call (takes_of rfl rfl rfl rfl) (fun _ _ _ _ h => h)) (pa_cons pe_str pa_nil)))
      (pss_cons (ps_expr (pe_bm PySem.F.plainAttrs_list PySem.F.slot_list_append PySem.F.type_list_append mt_append (pv 3) (pa_cons (pe_call o_read_merits (hr.mono (by decide)) rfl m_read_merits k_read_merits b_read_merits .nil (passes_call (takes_of rfl rfl rfl rfl) (fun _ _ _ _ h => h)) (pa_cons (pv 0) (pa_cons (pv 1) pa_nil))) pa_nil)))
      (pss_one (ps_expr (pe_meth (pv 0) T_Reader.cl M_Reader_take o_Reader_take (hr.mono (by decide)) b_Reader_take .nil (passes_call (takes_of rfl rfl rfl rfl) (fun _ _ _ _ h => h)) (pa_cons pe_str pa_nil))))))))))
      (pss_one (ps_ret (pv 3)))))), ?_⟩)
  · obtain ⟨r, D, t, i, ts, l, ms, rfl, _⟩ := h
    rfl
  · obtain ⟨r, D, t, i, ts, l, ms, rfl, S, hT, hm, kE, kQ⟩ := h
    obtain ⟨dr, hr1⟩ := S.rd
    obtain ⟨as0, hD0, _⟩ := S.tk
    intro d hd
    have s1 : Same H (upd H d (.dT [])) := same_new hd
    refine ⟨by show 0 ≤ sizeLine; exact Nat.zero_le _, fun q hq => ?_⟩
    have s2 : Same (upd H d (.dT [])) (upd (upd H d (.dT [])) q (.lst [])) := same_new hq
    have q0 : H q = none := s1.free hq
    have tr : t ≠ r := ne_of hT hr1 (by intro z; cases z)
    refine while_w (fun n σ H' => ∃ (is : List Item) (j : Nat) (lj : List PTok) (v : Option V), σ = [some (.ref r), some (.ref t), some (.ref d), some (.ref q), v] ∧ n = lj.length ∧ is.length ≤ 16 ∧ (∀ x ∈ is, x.vs.length = ms.length) ∧ Kp r H H' ∧
        St CR CT H' r D ts j lj ∧ NmIs H' d (nmsI is) ∧ RowsAt H' q (rowsI ms is) ∧ itemsW ms.length [] l = itemsW ms.length is lj)
      (fun σ H' => ∃ (is : List Item) (j : Nat) (lj : List PTok) (v : Option V), σ = [some (.ref r), some (.ref t), some (.ref d), some (.ref q), v] ∧ is.length ≤ 16 ∧ (∀ x ∈ is, x.vs.length = ms.length) ∧ Kp r H H' ∧
        St CR CT H' r D ts j lj ∧ RowsAt H' q (rowsI ms is) ∧ itemsW ms.length [] l = (if next .last lj = true then .ok is else .error ⟨3, here lj⟩))
      ⟨_, [], i, l, none, rfl, rfl, Nat.zero_le _, (fun x hx => by cases hx), Kp.same (s1.trans s2), S.same (s1.trans s2), s2 _ _ upd_same, ⟨[], upd_same, rfl, fun i row e => by cases e⟩, rfl⟩ ?_ ?_
    · rintro σ H' ⟨is, j, lj, v, rfl, h16, hv, k, Sj, hR, e⟩
      refine ⟨_, rfl, ?_⟩
      exact kQ is lj e h16 hv q j H' k Sj q0 hR
    · rintro fin n σ H' ⟨is, j, lj, v, rfl, rfl, h16, hv, k, Sj, Nj, hR, e⟩
      obtain ⟨drj, hrj⟩ := Sj.rd
      refine ⟨_, rfl, r, drj, _, rfl, hrj, rd_sees D _, a1 ?_⟩
      refine sees_as is_item Sj ⟨_, rfl, ?_⟩
      cases hc : next (.name (word "item")) lj with
      | false =>
        refine if_f rfl (fin _ _ ⟨is, j, lj, v, rfl, h16, hv, k, Sj, hR, ?_⟩)
        rw [e, itemsW_eq]
        cases hn : next .last lj with
        | true => rfl
        | false =>
          rw [if_neg Bool.false_ne_true, if_neg Bool.false_ne_true]
          unfold item1
          have : takeWord "item" lj = .error ⟨3, here lj⟩ := by
            show taken _ lj = _
            unfold taken
            rw [hc]
            rfl
          rw [this]
          rfl
      | true =>
        have nl : next .last lj = false := by
          obtain ⟨t1, rr, e2, _⟩ := Sj.head
          subst e2
          have hc' : tokEq t1.tok (.name (word "item")) = true := hc
          show tokEq t1.tok .last = false
          cases ht : t1.tok with
          | last => rw [ht] at hc'; cases hc'
          | name _ => rfl
          | num _ => rfl
          | sign _ => rfl
        rw [itemsW_eq ms.length is lj, nl, if_neg Bool.false_ne_true] at e
        refine if_t rfl ⟨fun σ' H' => _, fun _ _ h => h, ?_⟩
        refine ⟨_, rfl, r, drj, _, rfl, hrj, rd_take D _, a1 ?_⟩
        refine take_at is_item Sj (fun f e1 => ?_) (fun l1 e1 w1 t1 ee1 H1 hh tk1 k1 S1 => ?_)
        · unfold taken at e1
          rw [hc] at e1
          cases e1
        · have sh1 := taken_short e1
          have R1 := hR.kp Sj.rd k1
          have N1 := Nj.kp Sj.rd k1
          have R1' := R1
          obtain ⟨as1, hq1, la1, _⟩ := R1'
          have li : (rowsI ms is).length = is.length := List.length_map ..
          have e' := e
          unfold item1 at e'
          rw [show takeWord "item" lj = .ok l1 from e1, bind_ok] at e'
          refine ⟨_, rfl, q, _, rfl, .inl (SqL.of hq1), rfl, _, rfl, ?_⟩
          rw [List.length_map, la1, li]
          obtain ⟨dx1, v1, hw1, hv1⟩ := tk1
          by_cases c : Vaskya.ITEMS ≤ is.length
          · rw [if_pos c] at e'
            have c16 : is.length = 16 := Nat.le_antisymm h16 c
            refine if_t (decide_eq_true (by rw [c16]; rfl)) ?_
            refine ⟨_, rfl, w1, CT, dx1, _, _, rfl, hw1, T_Token.cl, T_Token.n2, tok_place_fld _ _ _ _, fault_made (W := E) fun dd H2 s fl => ?_⟩
            rw [hh] at e'
            exact kE _ e' dd H2 ((k.trans k1).trans (Kp.same s)) fl
          · rw [if_neg c] at e'
            have c16 : is.length < 16 := Nat.lt_of_not_le c
            refine if_f (decide_eq_false fun z => by have := V.int.inj z; omega) ?_
            obtain ⟨dr1, hr1⟩ := S1.rd
            refine ⟨_, rfl, _, rfl, r, dr1, _, rfl, hr1, rd_take D _, a1 ?_⟩
            refine take_nm S1 (fun f e2 dd H2 k2 fl => kE f (by rw [e', e2]; rfl) dd H2 ((k.trans k1).trans k2) fl) (fun x l2 e2 w2 ee2 H2 k2 S2 t2 => ?_)
            rw [e2, bind_ok] at e'
            have sh2 := takeName_short e2
            have N2 := N1.kp S1.rd k2
            have R2 := R1.kp S1.rd k2
            refine ⟨d, w2, x.name, x.place, ee2, nmsI is, rfl, N2, t2, by unfold nmsI; rw [List.length_map]; omega, fun y dd H3 s fl => ?_, fun y => ?_⟩
            · rw [nmsI_any] at y
              rw [if_pos y] at e'
              exact kE _ e' dd H3 (((k.trans k1).trans k2).trans (Kp.same s)) fl
            · rw [nmsI_any] at y
              rw [if_neg (by rw [y]; exact Bool.false_ne_true)] at e'
              have S3 : St CR CT (upd H2 d (.dT (kvN (nmsI is ++ [x.name])))) r D ts (j + 1 + 1) l2 := S2.dt N2
              have N3 : NmIs (upd H2 d (.dT (kvN (nmsI is ++ [x.name])))) d (nmsI is ++ [x.name]) := upd_same
              have R3 : RowsAt (upd H2 d (.dT (kvN (nmsI is ++ [x.name])))) q (rowsI ms is) := R2.dt N2
              have k3 : Kp r H (upd H2 d (.dT (kvN (nmsI is ++ [x.name])))) := fun b o hb n => by
                rw [upd_ne (ne_of_none hb hd)]
                exact ((k.trans k1).trans k2) b o hb n
              generalize upd H2 d (.dT (kvN (nmsI is ++ [x.name]))) = H3 at S3 N3 R3 k3
              obtain ⟨dr3, hr3⟩ := S3.rd
              refine ⟨_, rfl, r, dr3, _, rfl, hr3, rd_take D _, a1 ?_⟩
              refine take_as is_colon S3 (fun f e3 dd H4 k4 fl => kE f (by rw [e']; show (Except.bind (taken _ l2) _).bind _ = _; rw [e3]; rfl) dd H4 (k3.trans k4) fl) (fun l4 e4 w4 H4 k4 S4 => ?_)
              rw [show takeSign 58 l2 = .ok l4 from e4, bind_ok] at e'
              have sh4 := taken_short e4
              have R4 := R3.kp S3.rd k4
              have N4 := N3.kp S3.rd k4
              have R4' := R4
              obtain ⟨as4, hq4, la4, h34⟩ := R4'
              have hT4 := k4 _ _ (k3 _ _ hT tr) tr
              refine ⟨_, rfl, .inl ⟨rfl, _, SqL.of hq4⟩, ?_⟩
              refine ⟨_, rfl, _, rfl, r, D, t, _, ts, l4, ms, rfl, S4, hT4, hm, fun f e5 dd H5 k5 fl => kE f (by rw [e', e5]; rfl) dd H5 ((k3.trans k4).trans k5) fl, fun zs l5 e5 hz a j5 H5 k5 S5 a4 ha5 => ?_⟩
              rw [e5, bind_ok] at e'
              have sh5 := takeValues_short _ e5
              have R5 := R4.kp S4.rd k5
              have N5 := N4.kp S4.rd k5
              obtain ⟨as5, hq5, la5, h35⟩ := R5
              have aq : a ≠ q := fun z => by
                rw [z, hq4] at a4
                cases a4
              refine ⟨q, _, _, rfl, rfl, hq5, by rw [List.length_map, la5, li, sizeLine_eq]; omega, ?_⟩
              have R6 := RowsAt.snoc hq5 la5 h35 aq ha5
              have S6 : St CR CT (upd H5 q (.lst (as5.map V.ref ++ [.ref a]))) r D ts j5 l5 := S5.lst hq5 (ne_of_none hD0 q0)
              have N6 := N5.lst (o := .lst (as5.map V.ref ++ [.ref a])) hq5
              have k6 : Kp r H (upd H5 q (.lst (as5.map V.ref ++ [.ref a]))) := fun b o hb n => by
                rw [upd_ne (ne_of_none hb q0)]
                exact ((k3.trans k4).trans k5) b o hb n
              generalize upd H5 q (.lst (as5.map V.ref ++ [.ref a])) = H6 at R6 S6 N6 k6
              obtain ⟨dr6, hr6⟩ := S6.rd
              refine ⟨_, rfl, r, dr6, _, rfl, hr6, rd_take D _, a1 ?_⟩
              refine take_as is_semi S6 (fun f e7 dd H7 k7 fl => kE f (by rw [e']; show (Except.bind (taken _ l5) _).bind _ = _; rw [e7]; rfl) dd H7 (k6.trans k7) fl) (fun l7 e7 w7 H7 k7 S7 => ?_)
              rw [show takeSign 59 (zs, l5).2 = .ok l7 from e7, bind_ok, bind_ok] at e'
              have sh7 := taken_short e7
              have er : rowsI ms is ++ [goodOf ms zs] = rowsI ms (is ++ [⟨x.name, zs⟩]) := by unfold rowsI; rw [List.map_append]; rfl
              have en : nmsI is ++ [x.name] = nmsI (is ++ [⟨x.name, zs⟩]) := by unfold nmsI; rw [List.map_append]; rfl
              rw [er] at R6
              rw [en] at N6
              have sh5' : l5.length ≤ l4.length := sh5
              refine ⟨_, by omega, is ++ [⟨x.name, zs⟩], _, l7, _, rfl, rfl, by rw [List.length_append, List.length_singleton]; omega, fun y hy => ?_, k6.trans k7, S7, N6.kp S6.rd k7, R6.kp S6.rd k7, e'⟩
              rcases List.mem_append.mp hy with hy | hy
              · exact hv y hy
              · rw [List.mem_singleton] at hy
                subst hy
                exact hz
end
end Off
end
section
set_option Elab.async false
set_option linter.all false
set_option maxRecDepth 100000
set_option maxHeartbeats 4000000
namespace Off
open PySem PySem.Spec PyProof.Rows L2
open VaskyBase (Bytes isLetter isDigit isBlank token PTok Toks word decimal numberOf SIGNS tokEq next taken here takeName takeSign takeWord nextWord wrong)
open Vaskya (takeInt takeValues Measure Item goodOf Sheet)
/-! ### Told -/
def fTold (n : Int) (q : Addr) : List (Str × V) := [("measures", .int n), ("merits", .ref q)]
structure ToldTxt (K : PySem.W.Frag) (mg : Str → Option Value) (C fI : Addr) : Prop where
  cl : Cls K C
  n1 : NoAttr K C "measures"
  n2 : NoAttr K C "merits"
  g : mg "Told" = some (.ref C)
  mkC : Mk K C fI
theorem told_measures (n : Int) (q : Addr) : (fTold n q).lookup ("measures" : Str) = some (.int n) := lk_here
theorem told_merits (n : Int) (q : Addr) : (fTold n q).lookup ("merits" : Str) = some (.ref q) := (lk_past (by decide +kernel)).trans lk_here
/-- what a right text tells, at x -/
def ToldAt (C : Addr) (H : Hp) (x : Addr) (s : Sheet) : Prop := ∃ (dx q : Addr), H x = some (.ins C dx (fTold (s.ms.length : Int) q)) ∧ RowsAt H q (rowsI s.ms s.items)
section
variable {P : Program} {w : World} {K : PySem.W.Frag} {mg : Str → Option Value} {base : Heap} {CF fF CT fT CR fRI fRS fRT CD fD : Addr} {fdF fdT fdS fdK fdR fdD : FuncData}
def spTold (C : Addr) : Sp := fun vs H Q _ => ∃ (a dx q : Addr) (n : Int), vs = [.ref a, .int n, .ref q] ∧ H a = some (.ins C dx []) ∧
  ∀ H' : Hp, H' a = some (.ins C dx (fTold n q)) → (∀ b o, H b = some o → b ≠ a → H' b = some o) → Q .non H'
theorem sc_Told_init : FnScope ["self", "measures", "merits"] ["self", "measures", "merits"] (defScope s_Told_init) := ⟨rfl, rfl, rfl, by decide +kernel, rfl, by decide +kernel, by decide +kernel⟩
theorem ok_Told_init {f : Addr} {fd : FuncData} (F : Fun K "__init__" "Told.__init__" s_Told_init f fd) (T_Told : ToldTxt K mg CD fD) : FnOk P w K mg base CX0 1 f fd ["self", "measures", "merits"] (spTold CD) := by
  refine F.ok sc_Told_init (fun vs H Q E h => ?_) (fun cdv A outer s H vs Q E hr h => ⟨_, (pss_cons (ps_fld (pv 0) (pv 1) rfl)
      (pss_one (ps_fld (pv 0) (pv 2) rfl))), ?_⟩)
  · obtain ⟨a, dx, q, n, rfl, _⟩ := h
    rfl
  · obtain ⟨a, dx, D, n, rfl, ha, q⟩ := h
    refine ⟨_, rfl, _, rfl, a, CD, dx, _, rfl, ha, T_Told.cl, T_Told.n1, (by show 0 < 1000; decide), ?_⟩
    refine ⟨_, rfl, _, rfl, a, CD, dx, _, rfl, upd_same, T_Told.cl, T_Told.n2, (by show 1 < 1000; decide), ?_⟩
    exact q _ upd_same fun b o e hb => by
      rw [upd_ne hb, upd_ne hb]
      exact e
/-! ### read_list -/
def spReadList (K : PySem.W.Frag) (CF CD : Addr) : Sp := fun vs H Q E => ∃ (a : Addr) (b : Bytes), vs = [.ref a] ∧ SqL K H a (tx b) ∧ b.length ≤ 100000 ∧
  (∀ f, Vaskya.read b = .error f → ∀ d H', Same H H' → FltAt H' d f → E (.ref CF) (some d) H') ∧
  (∀ s : Sheet, Vaskya.read b = .ok s → s.ms.length ≤ 4 → s.items.length ≤ 16 → (∀ x ∈ s.items, x.vs.length = s.ms.length) → ∀ x H', Same H H' → ToldAt CD H' x s → Q (.ref x) H')
theorem sc_read_list : FnScope ["text", "reader", "turns", "items"] ["text"] (defScope s_read_list) := ⟨rfl, rfl, rfl, by decide +kernel, rfl, by decide +kernel, by decide +kernel⟩

theorem ok_read_list {f : Addr} {fd : FuncData} (F : Fun K "read_list" "read_list" s_read_list f fd) (B : Blt mg) (gN : ∃ t, mg "TOO_LONG" = some (.int 1 t)) (gM : ∃ t, mg "MOST_BYTES" = some (.int 4096 t))
    (T_Reader : RdTxt K mg CR fRI fRS fRT) (T_Told : ToldTxt K mg CD fD) (o_Told : FnOk P w K mg base CX0 1 fD fdD ["self", "measures", "merits"] (spTold CD)) (b_Told : Binds K fdD ["self", "measures", "merits"] [])
    (o_Reader : FnOk P w K mg base CX0 1 fRI fdR ["self", "tokens"] (spRdInit CR)) (b_Reader : Binds K fdR ["self", "tokens"] [])
    (T_Fault : FaultTxt K mg CF fF) (o_Fault : FnOk P w K mg base CX0 1 fF fdF ["self", "code", "place"] (spFault CF)) (b_Fault : Binds K fdF ["self", "code", "place"] [])
    (o_Reader_take : FnOk P w K mg base (L2.CX P w) 3 fRT fdK ["self", "kind"] (spTake CF CR CT)) (b_Reader_take : Binds K fdK ["self", "kind"] [])
    (D_tokens_of : Df P w K mg base (L2.CX P w) 5 "tokens_of" ["text"] (spTokens K CF CT)) (D_read_measures : Df P w K mg base (L2.CX P w) 5 "read_measures" ["reader"] (spMeasures CF CR CT))
    (D_read_items : Df P w K mg base (L2.CX P w) 6 "read_items" ["reader", "turns"] (spItems CF CR CT)) :
    FnOk P w K mg base (L2.CX P w) 7 f fd ["text"] (spReadList K CF CD) := by
  obtain ⟨tN, g_TOO_LONG⟩ := gN
  obtain ⟨tM, g_MOST_BYTES⟩ := gM
  have M_Reader_take := T_Reader.mT
  obtain ⟨f_tokens_of, fd_tokens_of, m_tokens_of, o_tokens_of, k_tokens_of, b_tokens_of⟩ := D_tokens_of
  obtain ⟨f_read_measures, fd_read_measures, m_read_measures, o_read_measures, k_read_measures, b_read_measures⟩ := D_read_measures
  obtain ⟨f_read_items, fd_read_items, m_read_items, o_read_items, k_read_items, b_read_items⟩ := D_read_items
  refine F.okX sc_read_list (fun vs H Q E h => ?_) (fun cdv A outer s H vs Q E hr h => ⟨_, (pss_cons (ps_if (pt_cmpR op_gt (pe_callB call_len_seq (by rfl) B.len PySem.boot_len (pa_cons (pv 0) pa_nil)) (pe_glob (v := .int 4096) rfl g_MOST_BYTES ⟨_, rfl⟩) (nomark _))
        (pss_one (ps_raise rfl (takes_of rfl rfl rfl rfl) (pmk_err T_Fault.er T_Fault.iC T_Fault.tI o_Fault (hr.mono (by decide)) b_Fault .nil pass0 rfl T_Fault.gC (pa_cons (pe_glob (v := .int 1) rfl g_TOO_LONG ⟨_, rfl⟩) (pa_cons (pe_glob (v := .int 4096) rfl g_MOST_BYTES ⟨_, rfl⟩) pa_nil)))))
        pss_nil)
      (pss_cons (ps_set (i := 1) sc_read_list.nd rfl (.inl rfl) (pe_make T_Reader.mkC o_Reader (hr.mono (by decide)) rfl T_Reader.g b_Reader .nil pass0 (pa_cons (pe_call o_tokens_of (hr.mono (by decide)) rfl m_tokens_of k_tokens_of b_tokens_of .nil (passes_call (takes_of rfl rfl rfl rfl) (fun _ _ _ _ h => h)) (pa_cons (pv 0) pa_nil)) pa_nil)))
      (pss_cons (ps_set (i := 2) sc_read_list.nd rfl (.inl rfl) (pe_call o_read_measures (hr.mono (by decide)) rfl m_read_measures k_read_measures b_read_measures .nil (passes_call (takes_of rfl rfl rfl rfl) (fun _ _ _ _ h => h)) (pa_cons (pv 1) pa_nil)))
      (pss_cons (ps_set (i := 3) sc_read_list.nd rfl (.inl rfl) (pe_call o_read_items (hr.mono (by decide)) rfl m_read_items k_read_items b_read_items .nil (passes_call (takes_of rfl rfl rfl rfl) (fun _ _ _ _ h => h)) (pa_cons (pv 1) (pa_cons (pv 2) pa_nil))))
      (pss_cons (ps_expr (pe_meth (pv 1) T_Reader.cl M_Reader_take o_Reader_take (hr.mono (by decide)) b_Reader_take .nil (passes_call (takes_of rfl rfl rfl rfl) (fun _ _ _ _ h => h)) (pa_cons pe_str pa_nil)))
      (pss_one (ps_ret (pe_make T_Told.mkC o_Told (hr.mono (by decide)) rfl T_Told.g b_Told .nil pass0 (pa_cons (pe_callB call_len_seq (by rfl) B.len PySem.boot_len (pa_cons (pv 2) pa_nil)) (pa_cons (pv 3) pa_nil)))))))))), ?_⟩)
  · obtain ⟨a, b, rfl, _⟩ := h
    rfl
  · obtain ⟨a, b, rfl, hS, hb, kE, kQ⟩ := h
    rw [read_eq, tokens_eq] at kE kQ
    refine ⟨_, rfl, a, _, rfl, .inl hS, _, _, rfl, rfl, _, rfl, ?_⟩
    rw [tx_len]
    by_cases c : 4096 < b.length
    · rw [if_pos (show VaskyBase.TEXT < b.length from c)] at kE
      refine if_t (decide_eq_true (by omega)) ?_
      exact fault_made (W := E) fun d H' s fl => kE _ rfl d H' s fl
    · rw [if_neg (show ¬ VaskyBase.TEXT < b.length from c)] at kE kQ
      refine if_f (decide_eq_false (by omega)) ?_
      refine ⟨_, rfl, a, b, rfl, hS, hb, fun f e d H' s fl => kE f (by rw [e]; rfl) d H' s fl, fun ts e q as H1 s1 hq tk => ?_⟩
      rw [e, bind_ok] at kE kQ
      obtain ⟨en, sg⟩ := lexW_ok _ _ _ _ (Nat.le_refl _) e
      intro x dx nx ndx ne
      refine ⟨x, dx, q, rfl, upd_same, fun H2 h2 k2 => ⟨rfl, ?_⟩⟩
      have s2 : Same H1 H2 := Same.made nx ndx k2
      have x0 : H x = none := s1.free nx
      have S2 : St CR CT H2 x q ts 0 ts := ⟨⟨dx, h2⟩, ⟨as, s2 _ _ hq, tk.same s2⟩, sg, rfl, en⟩
      have kk : ∀ {H' : Hp}, Kp x H2 H' → Same H H' := fun k b o h => k b o (s2 _ _ (s1 _ _ h)) (ne_of_none h x0)
      refine ⟨_, rfl, x, q, 0, ts, ts, rfl, S2, fun f e3 d H' k fl => kE f (by
        cases e4 : takeWord "measures" ts with
        | error g =>
          rw [e4] at e3
          rw [show g = f from Except.error.inj e3]
          rfl
        | ok l =>
          rw [e4, bind_ok] at e3
          rw [bind_ok, e3]
          rfl) d H' (kk k) fl, fun ms l3 e3 hm t j3 H3 k3 S3 t2 ht3 => ?_⟩
      have e3' : ∀ {B : Type} (g : List Measure × Toks → Except VaskyBase.Fault B), ((takeWord "measures" ts).bind fun r => (measuresW [] r).bind g) = g (ms, l3) := fun g => by
        cases e4 : takeWord "measures" ts with
        | error g =>
          rw [e4] at e3
          cases e3
        | ok l =>
          rw [e4, bind_ok] at e3
          rw [bind_ok, e3, bind_ok]
      rw [e3'] at kE kQ
      refine ⟨_, rfl, _, rfl, x, q, t, j3, ts, l3, ms, rfl, S3, ht3, hm, fun f e5 d H' k fl => kE f (by rw [e5]; rfl) d H' (kk (k3.trans k)) fl, fun is l5 e5 h16 hv q5 j5 H5 k5 S5 q50 R5 => ?_⟩
      rw [e5] at kE kQ
      obtain ⟨dr5, hr5⟩ := S5.rd
      refine ⟨_, rfl, x, dr5, _, rfl, hr5, rd_take q _, a1 ?_⟩
      refine take_end S5 (fun n d H' k fl => kE _ (by rw [n, if_neg Bool.false_ne_true]; rfl) d H' (kk ((k3.trans k5).trans k)) fl) (fun n w6 H6 k6 => ?_)
      rw [n, if_pos rfl] at kQ
      have xr := S3.rd
      obtain ⟨dr3, hr3⟩ := S3.rd
      have ht5 := k5 _ _ ht3 (ne_of ht3 hr3 (by intro z; cases z))
      have ht6 := k6 _ _ ht5 (ne_of ht5 hr5 (by intro z; cases z))
      have R6 := R5.kp S5.rd k6
      refine ⟨_, rfl, t, _, rfl, .inl (SqL.of ht6), _, rfl, ?_⟩
      intro y dy ny ndy ney
      rw [List.length_map]
      refine ⟨y, dy, q5, _, rfl, upd_same, fun H7 h7 k7 => ⟨rfl, ?_⟩⟩
      have s7 : Same H6 H7 := Same.made ny ndy k7
      exact kQ ⟨ms, is⟩ rfl hm h16 hv y H7 ((kk ((k3.trans k5).trans k6)).trans s7) ⟨dy, q5, h7, R6.same s7⟩
end
end Off
end
section
set_option Elab.async false
set_option linter.all false
set_option maxRecDepth 100000
set_option maxHeartbeats 4000000
namespace Off
open PySem PySem.Spec PyProof.Rows L2
section
variable {P : Program} {w : World} {K : PySem.W.Frag} {mg : Str → Option Value} {base : Heap}
/-! ### beats -/
def spBeats (K : PySem.W.Frag) : Sp := fun vs H Q _ => ∃ (a b : Addr) (xs ys : List Int), vs = [.ref a, .ref b] ∧ SqL K H a (xs.map V.int) ∧ SqL K H b (ys.map V.int) ∧ xs.length = ys.length ∧ ∀ H', Same H H' → Q (.bl (Vaskya.beats xs ys)) H'
theorem zip_take_snoc {xs ys : List Int} {i : Nat} {x y : Int} (hx : xs[i]? = some x) (hy : ys[i]? = some y) : (xs.zip ys).take (i + 1) = (xs.zip ys).take i ++ [(x, y)] := by
  have h : (xs.zip ys)[i]? = some (x, y) := by
    rw [List.getElem?_zip_eq_some]
    exact ⟨hx, hy⟩
  rw [List.take_succ, h]
  rfl
theorem sc_beats : FnScope ["one", "other", "better", "mine", "others"] ["one", "other"] (defScope s_beats) := ⟨rfl, rfl, rfl, by decide +kernel, rfl, by decide +kernel, by decide +kernel⟩
theorem ok_beats {f : Addr} {fd : FuncData} (F : Fun K "beats" "beats" s_beats f fd) (B : Blt mg) : FnOk P w K mg base CX0 1 f fd ["one", "other"] (spBeats K) := by
  refine F.ok sc_beats (fun vs H Q E h => ?_) (fun cdv A outer s H vs Q E hr h => ⟨_, (pss_cons (ps_set (i := 2) sc_beats.nd rfl (.inl rfl) pe_bl)
      (pss_cons (ps_for PassesOwn.never rfl (pi_zip (by rfl) B.zip (pa_cons (pv 0) (pa_cons (pv 1) pa_nil))) (pg_tup rfl (pgs_cons (pg_name (i := 3) sc_beats.nd rfl (Or.inl rfl)) (pgs_cons (pg_name (i := 4) sc_beats.nd rfl (Or.inl rfl)) pgs_nil)))
        (pss_cons (ps_if (pt_cmpR op_lt (pv 3) (pv 4) (nomark _))
        (pss_one (ps_ret pe_bl))
        pss_nil)
      (pss_one (ps_if (pt_cmpR op_gt (pv 3) (pv 4) (nomark _))
        (pss_one (ps_set (i := 2) sc_beats.nd rfl (.inl rfl) pe_bl))
        pss_nil))))
      (pss_one (ps_ret (pv 2))))), ?_⟩)
  · obtain ⟨a, b, xs, ys, rfl, _⟩ := h
    rfl
  · obtain ⟨a, b, xs, ys, rfl, hX, hY, hl, k⟩ := h
    rw [beats_eq hl] at k
    refine ⟨_, rfl, _, rfl, a, b, _, _, rfl, hX, hY, for_it (walk_zip (n := xs.length) (xs := xs.map V.int) (ys := ys.map V.int) (by rw [List.length_map, List.length_map]; omega))
      (fun i σ H' => Same H H' ∧ (∃ u v : Option V, σ = [some (.ref a), some (.ref b), some (.bl (((xs.zip ys).take i).any fun x => decide (x.2 < x.1))), u, v]) ∧ ((xs.zip ys).take i).all (fun x => decide (x.2 ≤ x.1)) = true)
      ⟨Same.refl H, ⟨none, none, rfl⟩, rfl⟩ (fun i σ H' _ h => ⟨h.1.seq hX, h.1.seq hY⟩) ?_ ?_⟩
    · rintro i x σ H' H2 hi ⟨s1, ⟨u, v, rfl⟩, al⟩ ⟨T, vx, vy, rfl, hT, rfl, hx, hy⟩
      dsimp only at hx hy
      rw [List.getElem?_map] at hx hy
      obtain ⟨zx, hzx⟩ : ∃ z, xs[i]? = some z := ⟨xs[i], by simp [hi]⟩
      obtain ⟨zy, hzy⟩ : ∃ z, ys[i]? = some z := ⟨ys[i]'(by omega), by simp [show i < ys.length by omega]⟩
      rw [hzx] at hx
      rw [hzy] at hy
      cases hx
      cases hy
      have s2 : Same H (upd H' T (.tup [.int zx, .int zy])) := s1.trans (same_new hT)
      have zs := zip_take_snoc hzx hzy
      refine ⟨T, _, rfl, SqT.of upd_same, rfl, _, _, rfl, _, _, rfl, rfl, ?_⟩
      refine ⟨_, rfl, _, rfl, _, _, rfl, rfl, _, rfl, ?_⟩
      by_cases c : zx < zy
      · refine if_t (decide_eq_true c) ?_
        have := k _ s2
        have hz : (xs.zip ys)[i]? = some (zx, zy) := by rw [List.getElem?_zip_eq_some]; exact ⟨hzx, hzy⟩
        have e : (xs.zip ys).all (fun x => decide (x.2 ≤ x.1)) = false := by
          rw [List.all_eq_false]
          exact ⟨(zx, zy), List.mem_of_getElem? hz, by simpa using Int.not_le.mpr c⟩
        rw [e] at this
        exact this
      · refine if_f (decide_eq_false c) ?_
        have al' : ((xs.zip ys).take (i + 1)).all (fun x => decide (x.2 ≤ x.1)) = true := by
          rw [zs, List.all_append, al]
          simpa using Int.not_lt.mp c
        refine ⟨_, rfl, _, rfl, _, _, rfl, rfl, _, rfl, ?_⟩
        by_cases c2 : zy < zx
        · refine if_t (decide_eq_true c2) ?_
          refine ⟨s2, ⟨some (.int zx), some (.int zy), ?_⟩, al'⟩
          rw [zs, List.any_append]
          have : (([(zx, zy)] : List (Int × Int)).any fun x => decide (x.2 < x.1)) = true := by simpa using c2
          rw [this, Bool.or_true]
          rfl
        · refine if_f (decide_eq_false c2) ?_
          refine ⟨s2, ⟨some (.int zx), some (.int zy), ?_⟩, al'⟩
          rw [zs, List.any_append]
          have : (([(zx, zy)] : List (Int × Int)).any fun x => decide (x.2 < x.1)) = false := by simpa using Int.not_lt.mp c2
          rw [this, Bool.or_false]
          rfl
    · rintro σ H' ⟨s1, ⟨u, v, rfl⟩, al⟩
      have full : (xs.zip ys).take xs.length = xs.zip ys := List.take_of_length_le (by rw [List.length_zip]; omega)
      rw [full] at al ⊢
      have := k _ s1
      rw [al, Bool.true_and] at this
      exact ⟨_, rfl, this⟩
/-! ### beaters_of -/
/-- numbers of rows that beat a row -/
def beatersOf (rows : List (List Int)) (row : List Int) : List Nat := (List.range rows.length).filter fun j => Vaskya.beats (rows.getD j []) row
def ni (l : List Nat) : List Int := l.map fun j : Nat => (j : Int)
def spBeatersOf (K : PySem.W.Frag) : Sp := fun vs H Q _ => ∃ (q a : Addr) (rows : List (List Int)) (row : List Int), vs = [.ref q, .ref a] ∧ RowsAt H q rows ∧ (∀ r ∈ rows, r.length = row.length) ∧ rows.length ≤ 1000 ∧ H a = some (.lst (row.map V.int)) ∧
  ∀ x H', Same H H' → H x = none → H' x = some (.lst ((ni (beatersOf rows row)).map V.int)) → Q (.ref x) H'
theorem sc_beaters_of : FnScope ["merits", "item", "number", "one"] ["merits", "item"] (defScope s_beaters_of) := ⟨rfl, rfl, rfl, by decide +kernel, rfl, by decide +kernel, by decide +kernel⟩
theorem ok_beaters_of {f : Addr} {fd : FuncData} (F : Fun K "beaters_of" "beaters_of" s_beaters_of f fd) (B : Blt mg) (D_beats : Df P w K mg base CX0 1 "beats" ["one", "other"] (spBeats K)) : FnOk P w K mg base CX0 2 f fd ["merits", "item"] (spBeatersOf K) := by
  obtain ⟨f_beats, fd_beats, m_beats, o_beats, k_beats, b_beats⟩ := D_beats
  refine F.ok sc_beaters_of (fun vs H Q E h => ?_) (fun cdv A outer s H vs Q E hr h => ⟨_, (pss_one (ps_ret (pe_lc (own := [("number", 2), ("one", 3)]) (g := gTup _ 2 (gCons (gName 2) (gCons (gName 3) gNil))) rfl sc_beaters_of.nd (pi_enum (by rfl) B.enumerate (pa_cons (pv 0) pa_nil)) (blkOk_by (N := ["merits", "item", "number", "one"]) (sc := defScope s_beaters_of) (by decide +kernel)) (fun _ _ _ _ _ => (pg_tup rfl (pgs_cons (pg_name (i := 2) sc_beaters_of.nd rfl (Or.inl rfl)) (pgs_cons (pg_name (i := 3) sc_beaters_of.nd rfl (Or.inl rfl)) pgs_nil)))) (fun _ _ _ _ _ => pts_one (pt_val (pe_call o_beats (hr.mono (by decide)) rfl m_beats k_beats b_beats .nil pass0 (pa_cons (pv 3) (pa_cons (pv 1) pa_nil))))) (fun _ _ _ _ _ => (pv 2))))), ?_⟩)
  · obtain ⟨q, a, rows, row, rfl, _⟩ := h
    rfl
  · obtain ⟨q, a, rows, row, rfl, ⟨as, hq, hl, hR⟩, hlen, hsz, ha, k⟩ := h
    refine ⟨_, rfl, q, _, rfl, SqL.of hq, fun D hD => lc_it (walk_enum (K := K) (a := q) (xs := as.map V.ref))
      (fun i H' => Same H H' ∧ H' D = some (.lst ((ni ((List.range i).filter fun j => Vaskya.beats (rows.getD j []) row)).map V.int))) ⟨same_new hD, upd_same⟩ (fun i H' _ h => h.1.seq (SqL.of hq)) ?_ ?_⟩
    · rintro i x H' H2 hi ⟨s1, h1⟩ ⟨T, vx, vy, rfl, hT, rfl, hx, hy⟩
      rw [List.length_map, hl] at hi
      cases hx
      obtain ⟨rw0, hrw⟩ : ∃ z, rows[i]? = some z := ⟨rows[i], by simp [hi]⟩
      obtain ⟨b, hb, nb, hrow⟩ := hR i _ hrw
      dsimp only at hy
      rw [List.getElem?_map, hb] at hy
      cases hy
      have s2 : Same H (upd H' T (.tup [.int (i : Int), .ref b])) := s1.trans (same_new hT)
      have h2 : (upd H' T (.tup [.int (i : Int), .ref b])) D = some (.lst ((ni ((List.range i).filter fun j => Vaskya.beats (rows.getD j []) row)).map V.int)) := by
        rw [upd_ne (ne_of_none h1 hT)]
        exact h1
      refine ⟨T, _, rfl, SqT.of upd_same, rfl, _, _, rfl, _, _, rfl, rfl, rfl, ?_⟩
      refine ⟨_, rfl, _, rfl, b, a, rw0, row, rfl, SqL.of (s2 _ _ hrow), SqL.of (s2 _ _ ha), hlen _ (List.mem_of_getElem? hrw), fun H3 s3 => ⟨_, rfl, ?_⟩⟩
      have gd : rows.getD i [] = rw0 := by rw [List.getD_eq_getElem?_getD, hrw]; rfl
      have rs : (List.range (i + 1)).filter (fun j => Vaskya.beats (rows.getD j []) row) = (List.range i).filter (fun j => Vaskya.beats (rows.getD j []) row) ++ (if Vaskya.beats rw0 row = true then [i] else []) := by
        rw [List.range_succ, List.filter_append]
        congr 1
        rw [List.filter_cons, gd]
        rfl
      cases c : Vaskya.beats rw0 row with
      | true =>
        refine if_t rfl ⟨_, rfl, _, s3 _ _ h2, ?_, ?_, ?_⟩
        · have := List.length_filter_le (fun j => Vaskya.beats (rows.getD j []) row) (List.range i)
          rw [List.length_range] at this
          unfold ni
          rw [List.length_map, List.length_map, sizeLine_eq]
          omega
        · exact fun b o h => by rw [upd_ne (ne_of_none h hD)]; exact s3 _ _ (s2 _ _ h)
        · rw [rs, c, if_pos rfl]
          unfold ni
          rw [List.map_append, List.map_append]
          exact upd_same
      | false =>
        refine if_f rfl ⟨s2.trans s3, ?_⟩
        rw [rs, c, if_neg Bool.false_ne_true, List.append_nil]
        exact s3 _ _ h2
    · rintro H' ⟨s1, h1⟩
      rw [List.length_map, hl] at h1
      exact k D H' s1 hD h1
/-! ### all_beaters -/
def allBeaters (rows : List (List Int)) : List (List Int) := rows.map fun row => ni (beatersOf rows row)
theorem none_up {H H' : Hp} {x : Addr} (s : Same H H') (h : H' x = none) : H x = none := by
  cases e : H x with
  | none => rfl
  | some o =>
    rw [s _ _ e] at h
    cases h
/-- what a list points to was not there -/
def Frs (H H' : Hp) (x : Addr) : Prop := ∀ ys, H' x = some (.lst ys) → ∀ a, V.ref a ∈ ys → H a = none
def spAllBeaters : Sp := fun vs H Q _ => ∃ (q : Addr) (rows : List (List Int)) (n : Nat), vs = [.ref q] ∧ RowsAt H q rows ∧ (∀ r ∈ rows, r.length = n) ∧ rows.length ≤ 1000 ∧
  ∀ x H', Same H H' → H x = none → RowsAt H' x (allBeaters rows) → Frs H H' x → Q (.ref x) H'
theorem sc_all_beaters : FnScope ["merits", "item"] ["merits"] (defScope s_all_beaters) := ⟨rfl, rfl, rfl, by decide +kernel, rfl, by decide +kernel, by decide +kernel⟩
theorem ok_all_beaters {f : Addr} {fd : FuncData} (F : Fun K "all_beaters" "all_beaters" s_all_beaters f fd) (D_beaters_of : Df P w K mg base CX0 2 "beaters_of" ["merits", "item"] (spBeatersOf K)) : FnOk P w K mg base CX0 3 f fd ["merits"] spAllBeaters := by
  obtain ⟨f_beaters_of, fd_beaters_of, m_beaters_of, o_beaters_of, k_beaters_of, b_beaters_of⟩ := D_beaters_of
  refine F.ok sc_all_beaters (fun vs H Q E h => ?_) (fun cdv A outer s H vs Q E hr h => ⟨_, (pss_one (ps_ret (pe_lc (own := [("item", 1)]) (g := gName 1) (tt := tYes) rfl sc_all_beaters.nd (pi_list (pv 0)) (blkOk_by (N := ["merits", "item"]) (sc := defScope s_all_beaters) (by decide +kernel)) (fun _ _ _ _ _ => (pg_name (i := 1) sc_all_beaters.nd rfl (Or.inl rfl))) (fun _ _ _ _ _ => pts_nil) (fun _ _ _ _ _ => (pe_call o_beaters_of (hr.mono (by decide)) rfl m_beaters_of k_beaters_of b_beaters_of .nil pass0 (pa_cons (pv 0) (pa_cons (pv 1) pa_nil))))))), ?_⟩)
  · obtain ⟨q, rows, n, rfl, _⟩ := h
    rfl
  · obtain ⟨q, rows, n, rfl, hRq, hlen, hsz, k⟩ := h
    have hRq' := hRq
    obtain ⟨as, hq, hl, hR⟩ := hRq'
    refine ⟨_, rfl, q, rfl, ⟨_, SqL.of hq⟩, fun D hD => lc_list (K := K) (a := q) (xs := as.map V.ref)
      (fun i H' => Same H H' ∧ RowsAt H' D ((rows.take i).map fun row => ni (beatersOf rows row)) ∧ Frs H H' D) ⟨same_new hD, ⟨[], upd_same, rfl, fun i row e => by cases e⟩, fun ys e a ha => by
          rw [upd_same] at e
          cases e
          cases ha⟩ (fun i H' _ h => h.1.seq (SqL.of hq)) ?_ ?_⟩
    · rintro i x H' hx ⟨s1, R1, fr⟩
      rw [List.getElem?_map] at hx
      cases hb : as[i]? with
      | none =>
        rw [hb] at hx
        cases hx
      | some b =>
        rw [hb] at hx
        cases hx
        have lt : i < rows.length := by rw [← hl]; exact (List.getElem?_eq_some_iff.mp hb).1
        obtain ⟨row, hrow⟩ : ∃ z, rows[i]? = some z := ⟨rows[i], by simp [lt]⟩
        obtain ⟨b', hb', nb, hr'⟩ := hR i _ hrow
        rw [hb] at hb'
        cases hb'
        have rl := hlen _ (List.mem_of_getElem? hrow)
        refine ⟨rfl, _, rfl, _, rfl, q, b, rows, row, rfl, hRq.same s1, fun r hr => (hlen r hr).trans rl.symm, hsz, s1 _ _ hr', fun x H2 s2 x0 hx2 => ?_⟩
        obtain ⟨as2, hD2, hl2, h32⟩ := R1.same s2
        obtain ⟨as1, hD1, _⟩ := R1
        have xD : x ≠ D := fun z => by
          rw [z, hD1] at x0
          cases x0
        have := RowsAt.snoc hD2 hl2 h32 xD hx2
        rw [ok_take_map (f := fun row => ni (beatersOf rows row)) hrow] at this
        refine ⟨_, hD2, ?_, fun b o h => by rw [upd_ne (ne_of_none h hD)]; exact s2 _ _ (s1 _ _ h), this, fun ys e a ha => ?_⟩
        · rw [List.length_map, hl2, List.length_map, List.length_take, sizeLine_eq]
          omega
        · rw [upd_same] at e
          cases e
          rcases List.mem_append.mp ha with ha | ha
          · rw [s2 _ _ hD1] at hD2
            exact fr _ (by rw [← hD2]; exact hD1) a ha
          · have := List.mem_singleton.mp ha
            cases this
            exact none_up s1 x0
    · rintro H' ⟨s1, R1, fr⟩
      rw [List.length_map, hl, List.take_length] at R1
      exact k D H' s1 hD R1 fr
end
end Off
end
section
set_option Elab.async false
set_option linter.all false
set_option maxRecDepth 100000
set_option maxHeartbeats 4000000
namespace Off
open PySem PySem.Spec PyProof.Rows L2
open VaskyBase (Frac frac plus fracRow whole)
theorem bits_lt {n k : Nat} (h : n < 2 ^ k) : ((n : Int)).natAbs < 2 ^ k := by rw [Int.natAbs_natCast]; exact h
section
variable {P : Program} {w : World} {K : PySem.W.Frag} {mg : Str → Option Value} {base : Heap}
/-! ### common_divisor -/
def spGcd : Sp := fun vs H Q _ => ∃ a b : Nat, vs = [.int (a : Int), .int (b : Int)] ∧ Q (.int ((Nat.gcd a b : Nat) : Int)) H
theorem sc_common_divisor : FnScope ["first", "second", "rest"] ["first", "second"] (defScope s_common_divisor) := ⟨rfl, rfl, rfl, by decide +kernel, rfl, by decide +kernel, by decide +kernel⟩
theorem ok_common_divisor {f : Addr} {fd : FuncData} (F : Fun K "common_divisor" "common_divisor" s_common_divisor f fd) : FnOk P w K mg base CX0 1 f fd ["first", "second"] spGcd := by
  refine F.ok sc_common_divisor (fun vs H Q E h => ?_) (fun cdv A outer s H vs Q E hr h => ⟨_, (pss_cons (ps_while PassesOwn.never (pt_cmpR op_ne (pv 1) pe_int (nomark _))
        (pss_cons (ps_set (i := 2) sc_common_divisor.nd rfl (.inl rfl) (pe_op op_modN (pv 0) (pv 1)))
      (pss_cons (ps_set (i := 0) sc_common_divisor.nd rfl (.inl rfl) (pv 1))
      (pss_one (ps_set (i := 1) sc_common_divisor.nd rfl (.inl rfl) (pv 2))))))
      (pss_one (ps_ret (pv 0)))), ?_⟩)
  · obtain ⟨a, b, rfl, _⟩ := h
    rfl
  · obtain ⟨a, b, rfl, k⟩ := h
    refine while_w (fun m σ H' => H' = H ∧ ∃ (x y : Nat) (v : Option V), σ = [some (.int (x : Int)), some (.int (y : Int)), v] ∧ m = y ∧ Nat.gcd x y = Nat.gcd a b)
      (fun σ H' => H' = H ∧ ∃ v u : Option V, σ = [some (.int ((Nat.gcd a b : Nat) : Int)), u, v]) ⟨_, rfl, a, b, none, rfl, rfl, rfl⟩ ?_ ?_
    · rintro σ H' ⟨rfl, v, u, rfl⟩
      exact ⟨_, rfl, k⟩
    · rintro fin m σ H' ⟨rfl, x, y, v, rfl, rfl, e⟩
      refine ⟨_, rfl, rfl, _, rfl, ?_⟩
      by_cases c : m = 0
      · subst c
        refine if_f rfl (fin _ _ ⟨rfl, v, some (.int ((0 : Nat) : Int)), ?_⟩)
        rw [← e, Nat.gcd_zero_right]
      · refine if_t (by rw [decide_eq_false fun z => c (by have := V.int.inj z; omega)]; rfl) ⟨fun σ' H' => _, fun _ _ h => h, ?_⟩
        have fm : Int.fmod (x : Int) (m : Int) = ((x % m : Nat) : Int) := by
          rw [Int.fmod_eq_emod_of_nonneg _ (Int.natCast_nonneg m)]
          rfl
        refine ⟨_, rfl, _, rfl, _, _, rfl, rfl, (by omega), ?_⟩
        refine ⟨_, rfl, _, rfl, x % m, Nat.mod_lt _ (by omega), rfl, m, x % m, some (.int ((x % m : Nat) : Int)), ?_, rfl, ?_⟩
        · rw [← fm]
          rfl
        · rw [← e]
          exact (gcd_step x m c).symm
/-! ### lowest -/
def FrAt (H : Hp) (p : Addr) (f : Frac) : Prop := H p = some (.lst ((fracRow f).map V.int))
def spLowest : Sp := fun vs H Q _ => ∃ a b : Nat, vs = [.int (a : Int), .int (b : Int)] ∧ 0 < b ∧ b < 2 ^ 8000 ∧ ∀ p H', Same H H' → H p = none → FrAt H' p (frac (a : Int) b) → Q (.ref p) H'
theorem sc_lowest : FnScope ["above", "below", "divisor"] ["above", "below"] (defScope s_lowest) := ⟨rfl, rfl, rfl, by decide +kernel, rfl, by decide +kernel, by decide +kernel⟩
theorem ok_lowest {f : Addr} {fd : FuncData} (F : Fun K "lowest" "lowest" s_lowest f fd) (D_common_divisor : Df P w K mg base CX0 1 "common_divisor" ["first", "second"] spGcd) : FnOk P w K mg base CX0 2 f fd ["above", "below"] spLowest := by
  obtain ⟨f_common_divisor, fd_common_divisor, m_common_divisor, o_common_divisor, k_common_divisor, b_common_divisor⟩ := D_common_divisor
  refine F.ok sc_lowest (fun vs H Q E h => ?_) (fun cdv A outer s H vs Q E hr h => ⟨_, (pss_cons (ps_set (i := 2) sc_lowest.nd rfl (.inl rfl) (pe_call o_common_divisor (hr.mono (by decide)) rfl m_common_divisor k_common_divisor b_common_divisor .nil pass0 (pa_cons (pv 0) (pa_cons (pv 1) pa_nil))))
      (pss_one (ps_ret (pe_lst (pa_cons (pe_op op_fdivW (pv 0) (pv 2)) (pa_cons (pe_op op_fdivW (pv 1) (pv 2)) pa_nil)))))), ?_⟩)
  · obtain ⟨a, b, rfl, _⟩ := h
    rfl
  · obtain ⟨a, b, rfl, h0, hb, k⟩ := h
    have g0 : 0 < Nat.gcd a b := Nat.gcd_pos_of_pos_right a h0
    have gb : Nat.gcd a b < 2 ^ 8000 := Nat.lt_of_le_of_lt (Nat.le_of_dvd h0 (Nat.gcd_dvd_right a b)) hb
    have W : CDivW ((a : Int)) ((Nat.gcd a b : Nat) : Int) := wide_div (by omega) (bits_lt gb) (by decide) (by decide)
    refine ⟨_, rfl, _, rfl, a, b, rfl, ?_⟩
    refine ⟨_, rfl, _, rfl, _, _, rfl, rfl, W, _, rfl, _, rfl, _, _, rfl, rfl, W, (by show 2 ≤ sizeLine; rw [sizeLine_eq]; omega), fun p hp => ?_⟩
    refine k p _ (same_new hp) hp ?_
    unfold FrAt
    rw [frac_nat h0]
    exact upd_same
end
end Off
end
section
set_option Elab.async false
set_option linter.all false
set_option maxRecDepth 100000
set_option maxHeartbeats 4000000
namespace Off
open PySem PySem.Spec PyProof.Rows L2
open VaskyBase (Frac frac plus fracRow whole)
open Vaskya (Measure Item Sheet rows)
open Vaskye (there away product unbeatenChance allChances)
/-- what is held, within the document's bounds -/
structure Fine (z : Vaskye.Held) : Prop where
  ms : z.s.ms.length ≤ 4
  it : z.s.items.length ≤ 16
  vs : ∀ x ∈ z.s.items, x.vs.length = z.s.ms.length
  q1 : 1 ≤ z.c.q
  q100 : z.c.q ≤ 100
  ln : z.c.ns.length = z.s.items.length
  le : ∀ n ∈ z.c.ns, n ≤ z.c.q
theorem rows_len (s : Sheet) : (rows s).length = s.items.length := List.length_map ..
theorem there_le {z : Vaskye.Held} (F : Fine z) (i : Nat) : there z.c i ≤ z.c.q := by
  unfold there
  rw [List.getD_eq_getElem?_getD]
  cases h : z.c.ns[i]? with
  | none => exact Nat.zero_le _
  | some n => exact F.le n (List.mem_of_getElem? h)
theorem Fine.lc {z : Vaskye.Held} (F : Fine z) : Lc (rows z.s) z.c := by
  refine ⟨⟨z.s.ms.length, fun r hr => ?_⟩, F.q1, there_le F⟩
  unfold rows at hr
  obtain ⟨x, hx, rfl⟩ := List.mem_map.mp hr
  unfold Vaskya.goodOf
  rw [List.length_map, List.length_zip, F.vs x hx, Nat.min_self]
def fHeld (b : Addr) (q : Nat) (n : Addr) : List (Str × V) := [("beaters", .ref b), ("q", .int (q : Int)), ("numerators", .ref n)]
theorem held_b (b : Addr) (q : Nat) (n : Addr) : (fHeld b q n).lookup ("beaters" : Str) = some (.ref b) := lk_here
theorem held_q (b : Addr) (q : Nat) (n : Addr) : (fHeld b q n).lookup ("q" : Str) = some (.int (q : Int)) := (lk_past (by decide +kernel)).trans lk_here
theorem held_n (b : Addr) (q : Nat) (n : Addr) : (fHeld b q n).lookup ("numerators" : Str) = some (.ref n) := (lk_past (by decide +kernel)).trans ((lk_past (by decide +kernel)).trans lk_here)
structure HeldTxt (K : PySem.W.Frag) (mg : Str → Option Value) (C fI : Addr) : Prop where
  cl : Cls K C
  n1 : NoAttr K C "beaters"
  n2 : NoAttr K C "q"
  n3 : NoAttr K C "numerators"
  g : mg "Held" = some (.ref C)
  mkC : Mk K C fI
def HeldAt (C : Addr) (H : Hp) (h : Addr) (z : Vaskye.Held) : Prop := ∃ dx b n : Addr, H h = some (.ins C dx (fHeld b z.c.q n)) ∧ RowsAt H b (allBeaters (rows z.s)) ∧ H n = some (.lst ((ni z.c.ns).map V.int))
theorem HeldAt.same {C : Addr} {H H' : Hp} {h : Addr} {z : Vaskye.Held} (s : Same H H') (x : HeldAt C H h z) : HeldAt C H' h z := by
  obtain ⟨dx, b, n, h1, h2, h3⟩ := x
  exact ⟨dx, b, n, s _ _ h1, h2.same s, s _ _ h3⟩
theorem allBeaters_len (l : List (List Int)) : (allBeaters l).length = l.length := List.length_map ..
theorem allBeaters_get {l : List (List Int)} {i : Nat} (h : i < l.length) : (allBeaters l)[i]? = some (ni (Vaskya.beaters l i)) := by
  unfold allBeaters
  rw [List.getElem?_map]
  have e : l[i]? = some (l.getD i []) := by
    rw [List.getD_eq_getElem?_getD, List.getElem?_eq_getElem h]
    rfl
  rw [e]
  rfl
theorem there_get {c : Vaskye.Chances} {i : Nat} (h : i < c.ns.length) : (ni c.ns)[i]? = some (there c i : Int) := by
  unfold ni there
  rw [List.getElem?_map, List.getD_eq_getElem?_getD, List.getElem?_eq_getElem h]
  rfl
theorem away_int {c : Vaskye.Chances} {i : Nat} (h : there c i ≤ c.q) : (c.q : Int) - (there c i : Int) = (away c i : Int) := by
  unfold away
  omega
theorem away_le (c : Vaskye.Chances) (i : Nat) : away c i ≤ c.q := Nat.sub_le _ _
theorem ni_len (l : List Nat) : (ni l).length = l.length := List.length_map ..
theorem ni_flat (l : List Nat) : ((ni l).map V.int).all flatV = true := by
  rw [List.all_eq_true]
  intro x hx
  obtain ⟨i, _, rfl⟩ := List.mem_map.mp hx
  rfl
theorem ni_in (l : List Nat) (i : Nat) : inV (.int (i : Int)) ((ni l).map V.int) = l.contains i := by
  unfold inV ni
  rw [List.map_map, List.any_map, Bool.eq_iff_iff, List.any_eq_true, List.contains_iff_mem]
  constructor
  · rintro ⟨x, hx, e⟩
    have e' : ((x : Int) == (i : Int)) = true := e
    have : (x : Int) = (i : Int) := eq_of_beq e'
    have : x = i := by omega
    rw [← this]
    exact hx
  · exact fun h => ⟨i, h, beq_self_eq_true (i : Int)⟩
section
variable {P : Program} {w : World} {K : PySem.W.Frag} {mg : Str → Option Value} {base : Heap} {CH fH : Addr} {fdH : FuncData}
/-! ### Held -/
def spHeld (C : Addr) : Sp := fun vs H Q _ => ∃ (a dx b n : Addr) (q : Nat), vs = [.ref a, .ref b, .int (q : Int), .ref n] ∧ H a = some (.ins C dx []) ∧
  ∀ H' : Hp, H' a = some (.ins C dx (fHeld b q n)) → (∀ b o, H b = some o → b ≠ a → H' b = some o) → Q .non H'
theorem sc_Held_init : FnScope ["self", "beaters", "q", "numerators"] ["self", "beaters", "q", "numerators"] (defScope s_Held_init) := ⟨rfl, rfl, rfl, by decide +kernel, rfl, by decide +kernel, by decide +kernel⟩
theorem ok_Held_init {f : Addr} {fd : FuncData} (F : Fun K "__init__" "Held.__init__" s_Held_init f fd) (T_Held : HeldTxt K mg CH fH) : FnOk P w K mg base CX0 1 f fd ["self", "beaters", "q", "numerators"] (spHeld CH) := by
  refine F.ok sc_Held_init (fun vs H Q E h => ?_) (fun cdv A outer s H vs Q E hr h => ⟨_, (pss_cons (ps_fld (pv 0) (pv 1) rfl)
      (pss_cons (ps_fld (pv 0) (pv 2) rfl)
      (pss_one (ps_fld (pv 0) (pv 3) rfl)))), ?_⟩)
  · obtain ⟨a, dx, b, n, q, rfl, _⟩ := h
    rfl
  · obtain ⟨a, dx, b, n, q, rfl, ha, k⟩ := h
    refine ⟨_, rfl, _, rfl, a, CH, dx, _, rfl, ha, T_Held.cl, T_Held.n1, (by show 0 < 1000; decide), ?_⟩
    refine ⟨_, rfl, _, rfl, a, CH, dx, _, rfl, upd_same, T_Held.cl, T_Held.n2, (by show 1 < 1000; decide), ?_⟩
    refine ⟨_, rfl, _, rfl, a, CH, dx, _, rfl, upd_same, T_Held.cl, T_Held.n3, (by show 2 < 1000; decide), ?_⟩
    refine k _ upd_same fun c o h n => ?_
    rw [upd_ne n, upd_ne n, upd_ne n]
    exact h
/-! ### sure_ones -/
def spSure (C : Addr) : Sp := fun vs H Q _ => ∃ (b : Addr) (bs : List (List Int)), vs = [.ref b] ∧ RowsAt H b bs ∧ bs.length ≤ 1000 ∧
  ∀ (h n dx : Addr) (H' : Hp), Same H H' → H n = none → H' h = some (.ins C dx (fHeld b 1 n)) → H' n = some (.lst ((ni (bs.map fun _ => 1)).map V.int)) → Q (.ref h) H'
theorem sc_sure_ones : FnScope ["beaters", "item"] ["beaters"] (defScope s_sure_ones) := ⟨rfl, rfl, rfl, by decide +kernel, rfl, by decide +kernel, by decide +kernel⟩
theorem ok_sure_ones {f : Addr} {fd : FuncData} (F : Fun K "sure_ones" "sure_ones" s_sure_ones f fd) (T_Held : HeldTxt K mg CH fH) (o_Held : FnOk P w K mg base CX0 1 fH fdH ["self", "beaters", "q", "numerators"] (spHeld CH)) (b_Held : Binds K fdH ["self", "beaters", "q", "numerators"] []) :
    FnOk P w K mg base CX0 3 f fd ["beaters"] (spSure CH) := by
  refine F.ok sc_sure_ones (fun vs H Q E h => ?_) (fun cdv A outer s H vs Q E hr h => ⟨_, (pss_one (ps_ret (pe_make T_Held.mkC o_Held (hr.mono (by decide)) rfl T_Held.g b_Held .nil pass0 (pa_cons (pv 0) (pa_cons pe_int (pa_cons (pe_lc (own := [("item", 1)]) (g := gName 1) (tt := tYes) rfl sc_sure_ones.nd (pi_list (pv 0)) (blkOk_by (N := ["beaters", "item"]) (sc := defScope s_sure_ones) (by decide +kernel)) (fun _ _ _ _ _ => (pg_name (i := 1) sc_sure_ones.nd rfl (Or.inl rfl))) (fun _ _ _ _ _ => pts_nil) (fun _ _ _ _ _ => pe_int)) pa_nil)))))), ?_⟩)
  · obtain ⟨b, bs, rfl, _⟩ := h
    rfl
  · obtain ⟨b, bs, rfl, ⟨as, hb, hl, hR⟩, hsz, k⟩ := h
    refine ⟨_, rfl, _, rfl, b, rfl, ⟨_, SqL.of hb⟩, fun D hD => lc_list (K := K) (a := b) (xs := as.map V.ref)
      (fun i H' => Same H H' ∧ H' D = some (.lst ((ni ((bs.take i).map fun _ => 1)).map V.int)))
      ⟨same_new hD, upd_same⟩ (fun i H' _ h => h.1.seq (SqL.of hb)) ?_ ?_⟩
    · rintro i x H' hx ⟨s1, h1⟩
      have lt : i < bs.length := by
        have := (List.getElem?_eq_some_iff.mp hx).1
        rw [List.length_map, hl] at this
        exact this
      refine ⟨rfl, _, h1, ?_, fun c o h => by rw [upd_ne (ne_of_none h hD)]; exact s1 c o h, ?_⟩
      · unfold ni
        rw [List.length_map, List.length_map, List.length_map, List.length_take, sizeLine_eq]
        omega
      · have : (bs.take (i + 1)).map (fun _ => 1) = (bs.take i).map (fun _ => 1) ++ [1] := by
          rw [List.take_succ, List.getElem?_eq_getElem lt, List.map_append]
          rfl
        rw [this]
        unfold ni
        rw [List.map_append, List.map_append]
        exact upd_same
    · rintro H1 ⟨s1, h1⟩
      rw [List.length_map, hl, List.take_length] at h1
      intro x dx nx ndx ne
      refine ⟨x, dx, b, D, 1, rfl, upd_same, fun H2 h2 k2 => ?_⟩
      have s2 : Same H1 H2 := Same.made nx ndx k2
      exact ⟨rfl, k x D dx H2 (s1.trans s2) hD h2 (s2 _ _ h1)⟩
/-! ### with_numerator -/
def spWith (C : Addr) : Sp := fun vs H Q _ => ∃ (h : Addr) (z : Vaskye.Held) (i m : Nat), vs = [.ref h, .int (i : Int), .int (m : Int)] ∧ HeldAt C H h z ∧ Fine z ∧ i < z.s.items.length ∧
  ∀ (h' : Addr) (H' : Hp), Same H H' → HeldAt C H' h' ⟨z.s, ⟨z.c.q, z.c.ns.set i m⟩⟩ → Q (.ref h') H'
theorem sc_with_numerator : FnScope ["held", "item", "numerator", "numerators"] ["held", "item", "numerator"] (defScope s_with_numerator) := ⟨rfl, rfl, rfl, by decide +kernel, rfl, by decide +kernel, by decide +kernel⟩
theorem ok_with_numerator {f : Addr} {fd : FuncData} (F : Fun K "with_numerator" "with_numerator" s_with_numerator f fd) (B : Blt mg) (T_Held : HeldTxt K mg CH fH) (o_Held : FnOk P w K mg base CX0 1 fH fdH ["self", "beaters", "q", "numerators"] (spHeld CH)) (b_Held : Binds K fdH ["self", "beaters", "q", "numerators"] []) :
    FnOk P w K mg base CX0 3 f fd ["held", "item", "numerator"] (spWith CH) := by
  refine F.ok sc_with_numerator (fun vs H Q E h => ?_) (fun cdv A outer s H vs Q E hr h => ⟨_, (pss_cons (ps_set (i := 3) sc_with_numerator.nd rfl (.inl rfl) (pe_callTy call_list_of (by rfl) B.list (by decide +kernel) (pa_cons (pe_fld (pv 0) rfl) pa_nil)))
      (pss_cons (ps_asg (pv 2) (pg_sub (pv 3) (pv 1) set_list))
      (pss_one (ps_ret (pe_make T_Held.mkC o_Held (hr.mono (by decide)) rfl T_Held.g b_Held .nil pass0 (pa_cons (pe_fld (pv 0) rfl) (pa_cons (pe_fld (pv 0) rfl) (pa_cons (pv 3) pa_nil)))))))), ?_⟩)
  · obtain ⟨h, z, i, m, rfl, _⟩ := h
    rfl
  · obtain ⟨h, z, i, m, rfl, ⟨dx, b, n, h1, hR, h3⟩, Fz, hi, k⟩ := h
    refine ⟨_, rfl, h, CH, dx, _, _, rfl, h1, T_Held.cl, T_Held.n3, held_n _ _ _, n, _, rfl, .inl (SqL.of h3), fun l hl => ?_⟩
    have s1 : Same H (upd H l (.lst ((ni z.c.ns).map V.int))) := same_new hl
    have hx : ixN ((ni z.c.ns).map V.int).length (i : Int) = some i := by
      unfold ixN
      rw [if_pos (Int.natCast_nonneg i), if_pos (by rw [List.length_map, ni_len, Fz.ln]; omega)]
      rfl
    refine ⟨_, rfl, _, rfl, _, rfl, l, _, (i : Int), i, rfl, rfl, upd_same, hx, ?_⟩
    have e : ((ni z.c.ns).map V.int).set i (.int (m : Int)) = (ni (z.c.ns.set i m)).map V.int := by
      unfold ni
      rw [List.map_set, List.map_set]
    rw [e]
    have s2 : Same H (upd (upd H l (.lst ((ni z.c.ns).map V.int))) l (.lst ((ni (z.c.ns.set i m)).map V.int))) := fun c o hc => by
      rw [upd_ne (ne_of_none hc hl), upd_ne (ne_of_none hc hl)]
      exact hc
    refine ⟨_, rfl, h, CH, dx, _, _, rfl, s2 _ _ h1, T_Held.cl, T_Held.n1, held_b _ _ _, ?_⟩
    refine ⟨_, rfl, h, CH, dx, _, _, rfl, s2 _ _ h1, T_Held.cl, T_Held.n2, held_q _ _ _, _, rfl, ?_⟩
    intro x dx2 nx ndx ne
    refine ⟨x, dx2, b, l, z.c.q, rfl, upd_same, fun H2 h2 k2 => ?_⟩
    have s3 := Same.made nx ndx k2
    exact ⟨rfl, k x H2 (s2.trans s3) ⟨dx2, b, l, h2, hR.same (s2.trans s3), s3 _ _ upd_same⟩⟩
/-! ### item_count -/
def spCount (C : Addr) : Sp := fun vs H Q _ => ∃ (h : Addr) (z : Vaskye.Held), vs = [.ref h] ∧ HeldAt C H h z ∧ Q (.int (z.s.items.length : Int)) H
theorem sc_item_count : FnScope ["held"] ["held"] (defScope s_item_count) := ⟨rfl, rfl, rfl, by decide +kernel, rfl, by decide +kernel, by decide +kernel⟩
theorem ok_item_count {f : Addr} {fd : FuncData} (F : Fun K "item_count" "item_count" s_item_count f fd) (B : Blt mg) (T_Held : HeldTxt K mg CH fH) : FnOk P w K mg base CX0 1 f fd ["held"] (spCount CH) := by
  refine F.ok sc_item_count (fun vs H Q E h => ?_) (fun cdv A outer s H vs Q E hr h => ⟨_, (pss_one (ps_ret (pe_callB call_len_seq (by rfl) B.len PySem.boot_len (pa_cons (pe_fld (pv 0) rfl) pa_nil)))), ?_⟩)
  · obtain ⟨h, z, rfl, _⟩ := h
    rfl
  · obtain ⟨h, z, rfl, ⟨dx, b, n, h1, ⟨as, hb, hl, hR⟩, h3⟩, k⟩ := h
    refine ⟨_, rfl, h, CH, dx, _, _, rfl, h1, T_Held.cl, T_Held.n1, held_b _ _ _, b, _, rfl, .inl (SqL.of hb), ?_⟩
    rw [List.length_map, hl, allBeaters_len, rows_len]
    exact k
end
end Off
end
section
set_option Elab.async false
set_option linter.all false
set_option maxRecDepth 100000
set_option maxHeartbeats 4000000
namespace Off
open PySem PySem.Spec PyProof.Rows L2
open VaskyBase (Frac frac plus fracRow whole)
open Vaskya (Measure Item Sheet rows)
open Vaskye (there away product unbeatenChance allChances)
theorem pow_bits {q k : Nat} (hq : q ≤ 100) (hk : k ≤ 17) : q ^ k < 2 ^ 120 := by
  have h1 : q ^ k ≤ 100 ^ k := Nat.pow_le_pow_left hq k
  have h2 : 100 ^ k ≤ 100 ^ 17 := Nat.pow_le_pow_right (by decide) hk
  have h3 : 100 ^ 17 < 2 ^ 120 := by decide +kernel
  omega
theorem beaters_lt {l : List (List Int)} {i j : Nat} (h : j ∈ Vaskya.beaters l i) : j < l.length := by
  unfold Vaskya.beaters at h
  exact List.mem_range.mp (List.mem_filter.mp h).1
theorem wfac_le {z : Vaskye.Held} (Fz : Fine z) (S A : List Nat) (i : Nat) : wfac (there z.c) z.c.q S A i ≤ z.c.q := by
  unfold wfac
  have h1 := there_le Fz i
  split
  · exact h1
  · split <;> omega
section
variable {P : Program} {w : World} {K : PySem.W.Frag} {mg : Str → Option Value} {base : Heap} {CH fH : Addr} {fdH : FuncData}
/-! ### chance_of -/
abbrev frW (z : Vaskye.Held) (x : Nat) : Frac := frac (x : Int) (z.c.q ^ z.s.items.length)
def spChanceOf (C : Addr) : Sp := fun vs H Q _ => ∃ (h : Addr) (z : Vaskye.Held) (x : Nat), vs = [.ref h, .int (x : Int)] ∧ HeldAt C H h z ∧ Fine z ∧
  ∀ p H', Same H H' → H p = none → FrAt H' p (frW z x) → Q (.ref p) H'
theorem sc_chance_of : FnScope ["held", "weight", "whole", "item"] ["held", "weight"] (defScope s_chance_of) := ⟨rfl, rfl, rfl, by decide +kernel, rfl, by decide +kernel, by decide +kernel⟩
theorem ok_chance_of {f : Addr} {fd : FuncData} (F : Fun K "chance_of" "chance_of" s_chance_of f fd) (T_Held : HeldTxt K mg CH fH) (D_lowest : Df P w K mg base CX0 2 "lowest" ["above", "below"] spLowest) : FnOk P w K mg base CX0 3 f fd ["held", "weight"] (spChanceOf CH) := by
  obtain ⟨f_lowest, fd_lowest, m_lowest, o_lowest, k_lowest, b_lowest⟩ := D_lowest
  refine F.ok sc_chance_of (fun vs H Q E h => ?_) (fun cdv A outer s H vs Q E hr h => ⟨_, (pss_cons (ps_set (i := 2) sc_chance_of.nd rfl (.inl rfl) pe_int)
      (pss_cons (ps_for PassesOwn.never rfl (pi_list (pe_fld (pv 0) rfl)) (pg_name (i := 3) sc_chance_of.nd rfl (Or.inl rfl))
        (pss_one (ps_aug (i := 2) sc_chance_of.nd rfl (.inl rfl) (pe_fld (pv 0) rfl) iop_mul)))
      (pss_one (ps_ret (pe_call o_lowest (hr.mono (by decide)) rfl m_lowest k_lowest b_lowest .nil pass0 (pa_cons (pv 1) (pa_cons (pv 2) pa_nil))))))), ?_⟩)
  · obtain ⟨h, z, x, rfl, _⟩ := h
    rfl
  · obtain ⟨h, z, x, rfl, ⟨dx, b, n, h1, ⟨as, hb, hl, hR⟩, h3⟩, Fz, k⟩ := h
    have ln : as.length = z.s.items.length := by rw [hl, allBeaters_len, rows_len]
    refine ⟨_, rfl, h, CH, dx, _, _, rfl, h1, T_Held.cl, T_Held.n1, held_b _ _ _, b, rfl, ⟨_, SqL.of hb⟩, ?_⟩
    refine for_list (K := K) (a := b) (xs := as.map V.ref)
      (fun j σ H' => H' = H ∧ ∃ v : Option V, σ = [some (.ref h), some (.int (x : Int)), some (.int ((z.c.q ^ j : Nat) : Int)), v])
      ⟨rfl, none, rfl⟩ (fun _ _ _ _ h => by rw [h.1]; exact SqL.of hb) ?_ ?_
    · rintro j y σ H' hy ⟨rfl, v, rfl⟩
      have q100 := Fz.q100
      refine ⟨_, rfl, _, rfl, h, CH, dx, _, _, rfl, h1, T_Held.cl, T_Held.n2, held_q _ _ _, _, _, rfl, rfl, .inr (by omega), ?_⟩
      refine ⟨rfl, some y, ?_⟩
      rw [Nat.pow_succ]
      rfl
    · rintro σ H' ⟨rfl, v, rfl⟩
      rw [List.length_map, ln]
      have it := Fz.it
      refine ⟨_, rfl, _, rfl, x, _, rfl, Nat.pow_pos Fz.q1, Nat.lt_of_lt_of_le (pow_bits Fz.q100 (by omega)) (Nat.pow_le_pow_right (by decide) (by decide)), fun p H1 s p0 fr => k p H1 s p0 fr⟩
/-! ### worlds_weight -/
def spWW (K : PySem.W.Frag) (C : Addr) : Sp := fun vs H Q _ => ∃ (h s a : Addr) (z : Vaskye.Held) (S A : List Nat), vs = [.ref h, .ref s, .ref a] ∧ HeldAt C H h z ∧ Fine z ∧ SqL K H s ((ni S).map V.int) ∧ SqL K H a ((ni A).map V.int) ∧
  ∀ H', Same H H' → Q (.int ((ww (there z.c) z.c.q z.s.items.length S A : Nat) : Int)) H'
theorem sc_worlds_weight : FnScope ["held", "there", "away", "weight", "item", "numerator"] ["held", "there", "away"] (defScope s_worlds_weight) := ⟨rfl, rfl, rfl, by decide +kernel, rfl, by decide +kernel, by decide +kernel⟩
theorem ok_worlds_weight {f : Addr} {fd : FuncData} (F : Fun K "worlds_weight" "worlds_weight" s_worlds_weight f fd) (B : Blt mg) (T_Held : HeldTxt K mg CH fH) : FnOk P w K mg base CX0 1 f fd ["held", "there", "away"] (spWW K CH) := by
  refine F.ok sc_worlds_weight (fun vs H Q E h => ?_) (fun cdv A outer s H vs Q E hr h => ⟨_, (pss_cons (ps_set (i := 3) sc_worlds_weight.nd rfl (.inl rfl) pe_int)
      (pss_cons (ps_for PassesOwn.never rfl (pi_enum (by rfl) B.enumerate (pa_cons (pe_fld (pv 0) rfl) pa_nil)) (pg_tup rfl (pgs_cons (pg_name (i := 4) sc_worlds_weight.nd rfl (Or.inl rfl)) (pgs_cons (pg_name (i := 5) sc_worlds_weight.nd rfl (Or.inl rfl)) pgs_nil)))
        (pss_one (ps_if (pt_cmpR op_in_seq (pv 4) (pv 1) (by rfl))
        (pss_one (ps_aug (i := 3) sc_worlds_weight.nd rfl (.inl rfl) (pv 5) iop_mul))
        (pss_one (ps_if (pt_cmpR op_in_seq (pv 4) (pv 2) (by rfl))
        (pss_one (ps_aug (i := 3) sc_worlds_weight.nd rfl (.inl rfl) (pe_op op_sub (pe_fld (pv 0) rfl) (pv 5)) iop_mul))
        (pss_one (ps_aug (i := 3) sc_worlds_weight.nd rfl (.inl rfl) (pe_fld (pv 0) rfl) iop_mul)))))))
      (pss_one (ps_ret (pv 3))))), ?_⟩)
  · obtain ⟨h, s, a, z, S, A, rfl, _⟩ := h
    rfl
  · obtain ⟨h, s, a, z, S, A, rfl, ⟨dx, b, n, h1, hR, h3⟩, Fz, hS, hA, k⟩ := h
    refine ⟨_, rfl, h, CH, dx, _, _, rfl, h1, T_Held.cl, T_Held.n3, held_n _ _ _, n, _, rfl, SqL.of h3, for_it (walk_enum (K := K) (a := n) (xs := (ni z.c.ns).map V.int))
      (fun i σ H' => Same H H' ∧ ∃ u v : Option V, σ = [some (.ref h), some (.ref s), some (.ref a), some (.int ((prod ((List.range i).map (wfac (there z.c) z.c.q S A)) : Nat) : Int)), u, v])
      ⟨Same.refl H, none, none, rfl⟩ (fun i σ H' _ h => h.1.seq (SqL.of h3)) ?_ ?_⟩
    · rintro i x σ H' H2 hi ⟨s1, u, v, rfl⟩ ⟨T, vx, vy, rfl, hT, rfl, hx, hy⟩
      cases hx
      dsimp only at hy
      rw [List.length_map, ni_len, Fz.ln] at hi
      rw [List.getElem?_map, there_get (by rw [Fz.ln]; exact hi)] at hy
      cases hy
      have s2 : Same H (upd H' T (.tup [.int (i : Int), .int (there z.c i : Int)])) := s1.trans (same_new hT)
      have q100 := Fz.q100
      have tl := there_le Fz i
      have ps : prod ((List.range (i + 1)).map (wfac (there z.c) z.c.q S A)) = prod ((List.range i).map (wfac (there z.c) z.c.q S A)) * wfac (there z.c) z.c.q S A i := by
        rw [List.range_succ, List.map_append]
        exact prod_snoc _ _
      have fin : ∀ (m : Nat), wfac (there z.c) z.c.q S A i = m → ((prod ((List.range i).map (wfac (there z.c) z.c.q S A)) : Nat) : Int) * (m : Int) = ((prod ((List.range (i + 1)).map (wfac (there z.c) z.c.q S A)) : Nat) : Int) := fun m e => by
        rw [ps, e, Int.natCast_mul]
      refine ⟨T, _, rfl, SqT.of upd_same, rfl, _, _, rfl, _, _, rfl, rfl, ?_⟩
      refine ⟨_, rfl, _, rfl, s, _, rfl, .inl (s2.seq hS), rfl, ni_flat S, _, rfl, ?_⟩
      rw [if_neg Bool.false_ne_true, ni_in]
      have aq : (z.c.q : Int) - (there z.c i : Int) = ((z.c.q - there z.c i : Nat) : Int) := by omega
      cases cS : S.contains i with
      | true =>
        refine if_t rfl ⟨_, rfl, _, rfl, _, _, rfl, rfl, .inr (by omega), s2, some (.int (i : Int)), some (.int (there z.c i : Int)), ?_⟩
        rw [← fin (there z.c i) (by unfold wfac; rw [if_pos cS])]
        rfl
      | false =>
        refine if_f rfl ⟨_, rfl, _, rfl, a, _, rfl, .inl (s2.seq hA), rfl, ni_flat A, _, rfl, ?_⟩
        rw [if_neg Bool.false_ne_true, ni_in]
        cases cA : A.contains i with
        | true =>
          refine if_t rfl ⟨_, rfl, _, rfl, h, CH, dx, _, _, rfl, s2 _ _ h1, T_Held.cl, T_Held.n2, held_q _ _ _, _, rfl, _, _, rfl, rfl, _, _, rfl, rfl, .inr (by omega), s2, some (.int (i : Int)), some (.int (there z.c i : Int)), ?_⟩
          rw [← fin (z.c.q - there z.c i) (by unfold wfac; rw [cS, if_neg Bool.false_ne_true, if_pos cA]), ← aq]
          rfl
        | false =>
          refine if_f rfl ⟨_, rfl, _, rfl, h, CH, dx, _, _, rfl, s2 _ _ h1, T_Held.cl, T_Held.n2, held_q _ _ _, _, _, rfl, rfl, .inr (by omega), s2, some (.int (i : Int)), some (.int (there z.c i : Int)), ?_⟩
          rw [← fin z.c.q (by unfold wfac; rw [cS, if_neg Bool.false_ne_true, cA, if_neg Bool.false_ne_true])]
          rfl
    · rintro σ H' ⟨s1, u, v, rfl⟩
      rw [List.length_map, ni_len, Fz.ln]
      exact ⟨_, rfl, k H' s1⟩
/-! ### unbeaten_weight -/
def spUW (C : Addr) : Sp := fun vs H Q _ => ∃ (h : Addr) (z : Vaskye.Held) (i : Nat), vs = [.ref h, .int (i : Int)] ∧ HeldAt C H h z ∧ Fine z ∧ i < z.s.items.length ∧
  ∀ H', Same H H' → Q (.int ((wU (rows z.s) z.c i : Nat) : Int)) H'
theorem sc_unbeaten_weight : FnScope ["held", "item"] ["held", "item"] (defScope s_unbeaten_weight) := ⟨rfl, rfl, rfl, by decide +kernel, rfl, by decide +kernel, by decide +kernel⟩
theorem ok_unbeaten_weight {f : Addr} {fd : FuncData} (F : Fun K "unbeaten_weight" "unbeaten_weight" s_unbeaten_weight f fd) (T_Held : HeldTxt K mg CH fH) (D_worlds_weight : Df P w K mg base CX0 1 "worlds_weight" ["held", "there", "away"] (spWW K CH)) :
    FnOk P w K mg base CX0 2 f fd ["held", "item"] (spUW CH) := by
  obtain ⟨f_worlds_weight, fd_worlds_weight, m_worlds_weight, o_worlds_weight, k_worlds_weight, b_worlds_weight⟩ := D_worlds_weight
  refine F.ok sc_unbeaten_weight (fun vs H Q E h => ?_) (fun cdv A outer s H vs Q E hr h => ⟨_, (pss_one (ps_ret (pe_call o_worlds_weight (hr.mono (by decide)) rfl m_worlds_weight k_worlds_weight b_worlds_weight .nil pass0 (pa_cons (pv 0) (pa_cons (pe_lst (pa_cons (pv 1) pa_nil)) (pa_cons (pe_ix ix_list (pe_fld (pv 0) rfl) (pv 1) (fun _ _ => rfl)) pa_nil)))))), ?_⟩)
  · obtain ⟨h, z, i, rfl, _⟩ := h
    rfl
  · obtain ⟨h, z, i, rfl, ⟨dx, b, n, h1, hR, h3⟩, Fz, hi, k⟩ := h
    obtain ⟨as, hb, hl, hr2⟩ := id hR
    obtain ⟨a, ha, na, hrow⟩ := hr2 i _ (allBeaters_get (by rw [rows_len]; exact hi))
    have hat : (as.map V.ref)[i]? = some (.ref a) := by rw [List.getElem?_map, ha]; rfl
    refine ⟨_, rfl, _, rfl, (by show 1 ≤ sizeLine; rw [sizeLine_eq]; omega), fun l hl0 => ?_⟩
    have s1 : Same H (upd H l (.lst [.int (i : Int)])) := same_new hl0
    refine ⟨_, rfl, h, CH, dx, _, _, rfl, s1 _ _ h1, T_Held.cl, T_Held.n1, held_b _ _ _, _, rfl, b, _, _, _, rfl, rfl, SqL.of (s1 _ _ hb), atI_nat hat, ?_⟩
    refine ⟨h, l, a, z, [i], Vaskya.beaters (rows z.s) i, rfl, ⟨dx, b, n, s1 _ _ h1, hR.same s1, s1 _ _ h3⟩, Fz, SqL.of upd_same, SqL.of (s1 _ _ hrow), fun H' s2 => ?_⟩
    have := k H' (s1.trans s2)
    unfold wU at this
    rw [rows_len] at this
    exact this
/-! ### unbeaten_weights -/
def spUWs (C : Addr) : Sp := fun vs H Q _ => ∃ (h : Addr) (z : Vaskye.Held), vs = [.ref h] ∧ HeldAt C H h z ∧ Fine z ∧
  ∀ p H', Same H H' → H p = none → H' p = some (.lst ((ni ((List.range z.s.items.length).map (wU (rows z.s) z.c))).map V.int)) → Q (.ref p) H'
theorem sc_unbeaten_weights : FnScope ["held", "item"] ["held"] (defScope s_unbeaten_weights) := ⟨rfl, rfl, rfl, by decide +kernel, rfl, by decide +kernel, by decide +kernel⟩
theorem ok_unbeaten_weights {f : Addr} {fd : FuncData} (F : Fun K "unbeaten_weights" "unbeaten_weights" s_unbeaten_weights f fd) (B : Blt mg) (D_item_count : Df P w K mg base CX0 1 "item_count" ["held"] (spCount CH))
    (D_unbeaten_weight : Df P w K mg base CX0 2 "unbeaten_weight" ["held", "item"] (spUW CH)) : FnOk P w K mg base CX0 3 f fd ["held"] (spUWs CH) := by
  obtain ⟨f_item_count, fd_item_count, m_item_count, o_item_count, k_item_count, b_item_count⟩ := D_item_count
  obtain ⟨f_unbeaten_weight, fd_unbeaten_weight, m_unbeaten_weight, o_unbeaten_weight, k_unbeaten_weight, b_unbeaten_weight⟩ := D_unbeaten_weight
  refine F.ok sc_unbeaten_weights (fun vs H Q E h => ?_) (fun cdv A outer s H vs Q E hr h => ⟨_, (pss_one (ps_ret (pe_lc (own := [("item", 1)]) (g := gName 1) (tt := tYes) rfl sc_unbeaten_weights.nd (pi_range1 (by rfl) B.range (pa_cons (pe_call o_item_count (hr.mono (by decide)) rfl m_item_count k_item_count b_item_count .nil pass0 (pa_cons (pv 0) pa_nil)) pa_nil)) (blkOk_by (N := ["held", "item"]) (sc := defScope s_unbeaten_weights) (by decide +kernel)) (fun _ _ _ _ _ => (pg_name (i := 1) sc_unbeaten_weights.nd rfl (Or.inl rfl))) (fun _ _ _ _ _ => pts_nil) (fun _ _ _ _ _ => (pe_call o_unbeaten_weight (hr.mono (by decide)) rfl m_unbeaten_weight k_unbeaten_weight b_unbeaten_weight .nil pass0 (pa_cons (pv 0) (pa_cons (pv 1) pa_nil))))))), ?_⟩)
  · obtain ⟨h, z, rfl, _⟩ := h
    rfl
  · obtain ⟨h, z, rfl, hz, Fz, k⟩ := h
    have it := Fz.it
    refine ⟨_, rfl, h, z, rfl, hz, _, rfl, by omega, by omega, fun D hD => ?_⟩
    refine lc_range (lo := 0) (n := z.s.items.length) (fun i H' => Same H H' ∧ H' D = some (.lst ((ni ((List.range i).map (wU (rows z.s) z.c))).map V.int))) ⟨same_new hD, upd_same⟩ ?_ ?_
    · rintro i H' hi ⟨s1, h1⟩
      refine ⟨rfl, _, rfl, _, rfl, h, z, i, ?_, hz.same s1, Fz, hi, fun H2 s2 => ?_⟩
      · rw [Int.zero_add]
        rfl
      · refine ⟨_, s2 _ _ h1, ?_, fun b o h => by rw [upd_ne (ne_of_none h hD)]; exact s2 _ _ (s1 _ _ h), ?_⟩
        · rw [List.length_map, ni_len, List.length_map, List.length_range, sizeLine_eq]
          omega
        · rw [List.range_succ, List.map_append]
          unfold ni
          rw [List.map_append, List.map_append]
          exact upd_same
    · rintro H' ⟨s1, h1⟩
      exact k D H' s1 hD h1
/-! ### unbeaten_chance -/
def spChance (C : Addr) : Sp := fun vs H Q _ => ∃ (h : Addr) (z : Vaskye.Held) (i : Nat), vs = [.ref h, .int (i : Int)] ∧ HeldAt C H h z ∧ Fine z ∧ i < z.s.items.length ∧
  ∀ p H', Same H H' → H p = none → FrAt H' p (unbeatenChance (rows z.s) z.c i) → Q (.ref p) H'
theorem sc_unbeaten_chance : FnScope ["held", "item"] ["held", "item"] (defScope s_unbeaten_chance) := ⟨rfl, rfl, rfl, by decide +kernel, rfl, by decide +kernel, by decide +kernel⟩
theorem ok_unbeaten_chance {f : Addr} {fd : FuncData} (F : Fun K "unbeaten_chance" "unbeaten_chance" s_unbeaten_chance f fd) (D_unbeaten_weight : Df P w K mg base CX0 2 "unbeaten_weight" ["held", "item"] (spUW CH)) (D_chance_of : Df P w K mg base CX0 3 "chance_of" ["held", "weight"] (spChanceOf CH)) :
    FnOk P w K mg base CX0 4 f fd ["held", "item"] (spChance CH) := by
  obtain ⟨f_unbeaten_weight, fd_unbeaten_weight, m_unbeaten_weight, o_unbeaten_weight, k_unbeaten_weight, b_unbeaten_weight⟩ := D_unbeaten_weight
  obtain ⟨f_chance_of, fd_chance_of, m_chance_of, o_chance_of, k_chance_of, b_chance_of⟩ := D_chance_of
  refine F.ok sc_unbeaten_chance (fun vs H Q E h => ?_) (fun cdv A outer s H vs Q E hr h => ⟨_, (pss_one (ps_ret (pe_call o_chance_of (hr.mono (by decide)) rfl m_chance_of k_chance_of b_chance_of .nil pass0 (pa_cons (pv 0) (pa_cons (pe_call o_unbeaten_weight (hr.mono (by decide)) rfl m_unbeaten_weight k_unbeaten_weight b_unbeaten_weight .nil pass0 (pa_cons (pv 0) (pa_cons (pv 1) pa_nil))) pa_nil))))), ?_⟩)
  · obtain ⟨h, z, i, rfl, _⟩ := h
    rfl
  · obtain ⟨h, z, i, rfl, hz, Fz, hi, k⟩ := h
    refine ⟨_, rfl, _, rfl, _, rfl, h, z, i, rfl, hz, Fz, hi, fun H1 s1 => ?_⟩
    refine ⟨h, z, _, rfl, hz.same s1, Fz, fun p H2 s2 p0 fr => k p H2 (s1.trans s2) (Same.free s1 p0) ?_⟩
    rw [unbeaten_ww Fz.lc (by rw [rows_len]; exact hi), rows_len]
    exact fr
/-! ### all_chances -/
def spChances (C : Addr) : Sp := fun vs H Q _ => ∃ (h : Addr) (z : Vaskye.Held), vs = [.ref h] ∧ HeldAt C H h z ∧ Fine z ∧
  ∀ p H', Same H H' → H p = none → RowsAt H' p ((allChances (rows z.s) z.c).map fracRow) → Q (.ref p) H'
theorem frs_snoc {H' H2 : Hp} {D p : Addr} {fs : List Frac} {f : Frac} (R1 : RowsAt H' D (fs.map fracRow)) (s2 : Same H' H2) (p0 : H' p = none) (fr : FrAt H2 p f) :
    ∃ as : List V, H2 D = some (.lst as) ∧ as.length = fs.length ∧ RowsAt (upd H2 D (.lst (as ++ [.ref p]))) D ((fs ++ [f]).map fracRow) := by
  obtain ⟨as2, hD2, hl2, h32⟩ := R1.same s2
  obtain ⟨as1, hD1, _⟩ := R1
  have pD : p ≠ D := fun z => by
    rw [z, hD1] at p0
    cases p0
  have := RowsAt.snoc hD2 hl2 h32 pD fr
  rw [List.map_append]
  exact ⟨_, hD2, by rw [List.length_map, hl2, List.length_map], this⟩
theorem sc_all_chances : FnScope ["held", "weight"] ["held"] (defScope s_all_chances) := ⟨rfl, rfl, rfl, by decide +kernel, rfl, by decide +kernel, by decide +kernel⟩
theorem ok_all_chances {f : Addr} {fd : FuncData} (F : Fun K "all_chances" "all_chances" s_all_chances f fd) (D_unbeaten_weights : Df P w K mg base CX0 3 "unbeaten_weights" ["held"] (spUWs CH))
    (D_chance_of : Df P w K mg base CX0 3 "chance_of" ["held", "weight"] (spChanceOf CH)) : FnOk P w K mg base CX0 4 f fd ["held"] (spChances CH) := by
  obtain ⟨f_unbeaten_weights, fd_unbeaten_weights, m_unbeaten_weights, o_unbeaten_weights, k_unbeaten_weights, b_unbeaten_weights⟩ := D_unbeaten_weights
  obtain ⟨f_chance_of, fd_chance_of, m_chance_of, o_chance_of, k_chance_of, b_chance_of⟩ := D_chance_of
  refine F.ok sc_all_chances (fun vs H Q E h => ?_) (fun cdv A outer s H vs Q E hr h => ⟨_, (pss_one (ps_ret (pe_lc (own := [("weight", 1)]) (g := gName 1) (tt := tYes) rfl sc_all_chances.nd (pi_list (pe_call o_unbeaten_weights (hr.mono (by decide)) rfl m_unbeaten_weights k_unbeaten_weights b_unbeaten_weights .nil pass0 (pa_cons (pv 0) pa_nil))) (blkOk_by (N := ["held", "weight"]) (sc := defScope s_all_chances) (by decide +kernel)) (fun _ _ _ _ _ => (pg_name (i := 1) sc_all_chances.nd rfl (Or.inl rfl))) (fun _ _ _ _ _ => pts_nil) (fun _ _ _ _ _ => (pe_call o_chance_of (hr.mono (by decide)) rfl m_chance_of k_chance_of b_chance_of .nil pass0 (pa_cons (pv 0) (pa_cons (pv 1) pa_nil))))))), ?_⟩)
  · obtain ⟨h, z, rfl, _⟩ := h
    rfl
  · obtain ⟨h, z, rfl, hz, Fz, k⟩ := h
    have it := Fz.it
    refine ⟨_, rfl, h, z, rfl, hz, Fz, fun L H1 s1 L0 hL => ⟨L, rfl, ⟨_, SqL.of hL⟩, fun D hD => ?_⟩⟩
    refine lc_list (K := K) (a := L) (xs := (ni ((List.range z.s.items.length).map (wU (rows z.s) z.c))).map V.int)
      (fun i H' => Same H1 H' ∧ RowsAt H' D (((List.range i).map fun i => frW z (wU (rows z.s) z.c i)).map fracRow)) ⟨same_new hD, ⟨[], upd_same, rfl, fun i row e => by cases e⟩⟩ (fun i H' _ h => h.1.seq (SqL.of hL)) ?_ ?_
    · rintro i x H' hx ⟨s2, R1⟩
      have lt : i < z.s.items.length := by
        have := (List.getElem?_eq_some_iff.mp hx).1
        rw [List.length_map, ni_len, List.length_map, List.length_range] at this
        exact this
      have ex : x = .int ((wU (rows z.s) z.c i : Nat) : Int) := by
        unfold ni at hx
        rw [List.getElem?_map, List.getElem?_map, List.getElem?_map, List.getElem?_range lt] at hx
        exact (Option.some.inj hx).symm
      subst ex
      refine ⟨rfl, _, rfl, _, rfl, h, z, _, rfl, (hz.same s1).same s2, Fz, fun p H2 s3 p0 fr => ?_⟩
      obtain ⟨as, hD2, hl2, R2⟩ := frs_snoc R1 s3 p0 fr
      refine ⟨as, hD2, ?_, fun b o h => by rw [upd_ne (ne_of_none h hD)]; exact s3 _ _ (s2 _ _ h), ?_⟩
      · rw [hl2, List.length_map, List.length_range, sizeLine_eq]
        omega
      · rw [List.range_succ, List.map_append]
        exact R2
    · rintro H' ⟨s2, R1⟩
      rw [List.length_map, ni_len, List.length_map, List.length_range] at R1
      refine k D H' (s1.trans s2) (Same.free s1 hD) ?_
      have e : (((List.range z.s.items.length).map (wU (rows z.s) z.c)).map fun x : Nat => frW z x) = (List.range z.s.items.length).map fun i => frW z (wU (rows z.s) z.c i) := List.map_map ..
      rw [all_ww Fz.lc, rows_len]
      rw [← e] at R1
      exact R1
/-! ### mean_unbeaten -/
def spMean (C : Addr) : Sp := fun vs H Q _ => ∃ (h : Addr) (z : Vaskye.Held), vs = [.ref h] ∧ HeldAt C H h z ∧ Fine z ∧
  ∀ p H', Same H H' → H p = none → FrAt H' p ((allChances (rows z.s) z.c).foldl plus (whole 0)) → Q (.ref p) H'
theorem ni_sum (l : List Nat) : (ni l).sum = ((l.sum : Nat) : Int) := by
  unfold ni
  induction l with
  | nil => rfl
  | cons x l ih => rw [List.map_cons, List.sum_cons, List.sum_cons, ih, Int.natCast_add]
theorem sc_mean_unbeaten : FnScope ["held"] ["held"] (defScope s_mean_unbeaten) := ⟨rfl, rfl, rfl, by decide +kernel, rfl, by decide +kernel, by decide +kernel⟩
theorem ok_mean_unbeaten {f : Addr} {fd : FuncData} (F : Fun K "mean_unbeaten" "mean_unbeaten" s_mean_unbeaten f fd) (B : Blt mg) (D_unbeaten_weights : Df P w K mg base CX0 3 "unbeaten_weights" ["held"] (spUWs CH))
    (D_chance_of : Df P w K mg base CX0 3 "chance_of" ["held", "weight"] (spChanceOf CH)) : FnOk P w K mg base CX0 4 f fd ["held"] (spMean CH) := by
  obtain ⟨f_unbeaten_weights, fd_unbeaten_weights, m_unbeaten_weights, o_unbeaten_weights, k_unbeaten_weights, b_unbeaten_weights⟩ := D_unbeaten_weights
  obtain ⟨f_chance_of, fd_chance_of, m_chance_of, o_chance_of, k_chance_of, b_chance_of⟩ := D_chance_of
  refine F.ok sc_mean_unbeaten (fun vs H Q E h => ?_) (fun cdv A outer s H vs Q E hr h => ⟨_, (pss_one (ps_ret (pe_call o_chance_of (hr.mono (by decide)) rfl m_chance_of k_chance_of b_chance_of .nil pass0 (pa_cons (pv 0) (pa_cons (pe_callB (cr_sum rfl) (by rfl) B.sum (by decide +kernel) (pa_cons (pe_call o_unbeaten_weights (hr.mono (by decide)) rfl m_unbeaten_weights k_unbeaten_weights b_unbeaten_weights .nil pass0 (pa_cons (pv 0) pa_nil)) pa_nil)) pa_nil))))), ?_⟩)
  · obtain ⟨h, z, rfl, _⟩ := h
    rfl
  · obtain ⟨h, z, rfl, hz, Fz, k⟩ := h
    refine ⟨_, rfl, _, rfl, h, z, rfl, hz, Fz, fun L H1 s1 L0 hL => ?_⟩
    refine ⟨L, _, rfl, SqL.of hL, h, z, ((List.range z.s.items.length).map (wU (rows z.s) z.c)).sum, ?_, hz.same s1, Fz, fun p H2 s2 p0 fr => k p H2 (s1.trans s2) (Same.free s1 p0) ?_⟩
    · rw [ni_sum]
      rfl
    · rw [mean_ww Fz.lc, rows_len]
      exact fr
end
end Off
end
section
set_option Elab.async false
set_option linter.all false
set_option maxRecDepth 100000
set_option maxHeartbeats 4000000
namespace Off
open PySem PySem.Spec PyProof.Rows L2 LamX NdefX
open VaskyBase (Frac frac plus fracRow whole)
open Vaskya (Measure Item Sheet rows)
open Vaskye (there away product unbeatenChance allChances)
/-- what a lambda of a def is called -/
def lamQ (x : Str) : Str := (x ++ ".<locals>.") ++ "<lambda>"
theorem Fun.okC {P : Program} {w : World} {K : PySem.W.Frag} {mg : Str → Option Value} {base : Heap} {x qual : Str} {st : Stmt} {f c : Addr} {fd : FuncData} {N ps : List Str} {k : Nat} {sp : Sp} (F : Fun K x qual st f fd) (hc : fd.code = .ref c) (S : FnScope N ps (defScope st)) (len : ∀ vs H Q E, sp vs H Q E → vs.length = ps.length)
    (hb : ∀ (A : Around) (outer : List Env) (s : Shared) (H : Hp) (vs : List V) (Q : VK) (E : XK), Room k (A.deeper (envOfC qual (defScope st) s.heap.objs.size f (.ref c))) → sp vs H Q E →
      ∃ t, PSs (cxOf CX0 P w K mg base N qual (defScope st) f (.ref c) A outer s H E).nox (defBody st) t ∧ t { nx := fun _ H' => Q .non H', rt := Q } (start N vs) H) : FnOk P w K mg base CX0 (k + 1) f fd ps sp := by
  obtain ⟨oc, od, kV, dc, pm, an, cdv, ct, osl, rfl, at_, cd⟩ := F.ex
  obtain rfl : cdv = .ref c := hc
  refine fn_of at_ cd S len fun A outer s H vs Q E hr hsp => ?_
  obtain ⟨t, h, q⟩ := hb A outer s H vs Q E hr hsp
  exact ⟨t, h.nox, q⟩
theorem natV_ni (l : List Nat) : KeyL.natV l = (ni l).map V.int := by
  unfold KeyL.natV ni
  rw [List.map_map]
  rfl
theorem ext_same {H H' : Hp} (s : Same H H') : ExtN H H' := fun b o h _ => s b o h
section
variable {P : Program} {w : World} {K : PySem.W.Frag} {mg : Str → Option Value} {base : Heap} {CH fH : Addr} {fdH : FuncData}
/-! ### likeliest_first -/
def spFirst (T : List (Addr × Str)) (C : Addr) : Sp := fun vs H Q _ => ∃ (h : Addr) (z : Vaskye.Held), vs = [.ref h] ∧ HeldAt C H h z ∧ Fine z ∧ Tabs T H ∧
  ∀ p H', ExtN H H' → Tabs T H' → H' p = some (.lst ((ni (Vaskye.orderOf (allChances (rows z.s) z.c))).map V.int)) → Q (.ref p) H'
theorem sc_likeliest_first : FnScope ["held", "weights"] ["held"] (defScope s_likeliest_first) := ⟨rfl, rfl, rfl, by decide +kernel, rfl, by decide +kernel, by decide +kernel⟩
theorem ok_likeliest_first {f c Pt : Addr} {fd : FuncData} {TT : List (Addr × Str)} (F : Fun K "likeliest_first" "likeliest_first" s_likeliest_first f fd) (hcd : fd.code = .ref c) (hTB : TabB base mg c Pt) (hmT : (Pt, lamQ "likeliest_first") ∈ TT) (hu : ∀ p ∈ TT, p.1 = Pt → p.2 = lamQ "likeliest_first") (B : Blt mg) (D_unbeaten_weights : Df P w K mg base CX0 3 "unbeaten_weights" ["held"] (spUWs CH)) : FnOk P w K mg base CX0 8 f fd ["held"] (spFirst TT CH) := by
  obtain ⟨f_unbeaten_weights, fd_unbeaten_weights, m_unbeaten_weights, o_unbeaten_weights, k_unbeaten_weights, b_unbeaten_weights⟩ := D_unbeaten_weights
  refine Fun.okC F hcd sc_likeliest_first (fun vs H Q E h => ?_) (fun A outer s H vs Q E hr h => ⟨_, (pss_cons (ps_set (i := 1) sc_likeliest_first.nd rfl (.inr rfl) (pe_call o_unbeaten_weights (hr.mono (by decide)) rfl m_unbeaten_weights k_unbeaten_weights b_unbeaten_weights .nil pass0 (pa_cons (pv 0) pa_nil)))
      (pss_one (ps_ret (KeyL.pe_sortedLam (T := TT) (P := Pt) (tUn (rU fun i ↦ .int (-i)) (tOp (rIxL K) (tVar 1) (tVar 0))) (defScope s_likeliest_first) rfl (N := ["item", "weights"]) (fr := ["weights"]) (js := [1]) (x := "item") (k0 := 3) rfl (hr.mono (by decide)) (nscope_by (by decide +kernel)) hTB rfl hmT hu rfl (by decide +kernel) (by decide +kernel) rfl (fun _ _ _ _ _ _ => rfl) rfl B.sorted rfl B.range (pe_callB call_len_seq (by rfl) B.len PySem.boot_len (pa_cons (pv 1) pa_nil)) (fun A outer s H f c' hr => (pe_un un_neg (pe_ix ix_list (pv 1) (pv 0) (fun _ _ => rfl)))))))), ?_⟩)
  · obtain ⟨h, z, rfl, _⟩ := h
    rfl
  · obtain ⟨h, z, rfl, hz, Fz, hT, k⟩ := h
    have it := Fz.it
    refine ⟨_, rfl, h, z, rfl, hz, Fz, fun L H1 s1 L0 hL => ?_⟩
    refine ⟨_, rfl, L, _, rfl, .inl (SqL.of hL), _, rfl, z.s.items.length, ?_, by omega, hT.ext s1, fun H2 e2 T2 => ?_⟩
    · rw [List.length_map, ni_len, List.length_map, List.length_range]
    have hL2 : H2 L = some (.lst ((ni ((List.range z.s.items.length).map (wU (rows z.s) z.c))).map V.int)) := e2 _ _ hL (fun _ q => by cases q)
    refine ⟨fun i => -((wU (rows z.s) z.c i : Nat) : Int), fun i hi H3 s3 => ?_, fun H3 p s3 hp => ?_⟩
    · refine ⟨_, rfl, _, rfl, L, _, _, _, rfl, rfl, SqL.of (s3 _ _ hL2), atI_nat (v := .int ((wU (rows z.s) z.c i : Nat) : Int)) ?_, _, rfl, rfl, fun b o q => q⟩
      unfold ni
      rw [List.getElem?_map, List.getElem?_map, List.getElem?_map, List.getElem?_range hi]
      rfl
    · have s4 : Same H3 (upd H3 p (.lst (KeyL.natV ((List.range z.s.items.length).mergeSort (KeyL.byKey fun i => -((wU (rows z.s) z.c i : Nat) : Int)))))) := same_new hp
      refine k p _ ((ext_same s1).trans (e2.trans (ext_same (Same.trans s3 s4)))) ((T2.ext s3).ext s4) ?_
      rw [order_ww Fz.lc, rows_len, ← natV_ni]
      exact upd_same
end
end Off
end
section
set_option Elab.async false
set_option linter.all false
set_option maxRecDepth 100000
set_option maxHeartbeats 4000000
namespace Off
open PySem PySem.Spec PyProof.Rows L2
open VaskyBase (Frac frac plus fracRow whole)
open Vaskya (Measure Item Sheet rows)
open Vaskye (there away product unbeatenChance allChances setChance apart mustGo)
section
variable {P : Program} {w : World} {K : PySem.W.Frag} {mg : Str → Option Value} {base : Heap} {CH fH : Addr} {fdH : FuncData}
/-! ### is_beaten -/
def spIsB (K : PySem.W.Frag) (C : Addr) : Sp := fun vs H Q _ => ∃ (h s : Addr) (z : Vaskye.Held) (i : Nat) (S : List Nat), vs = [.ref h, .int (i : Int), .ref s] ∧ HeldAt C H h z ∧ Fine z ∧ i < z.s.items.length ∧ SqL K H s ((ni S).map V.int) ∧
  ∀ H', Same H H' → Q (.bl (hits (rows z.s) S i)) H'
theorem take_any {α : Type} {l : List α} {i : Nat} {x : α} (f : α → Bool) (h : l[i]? = some x) : (l.take (i + 1)).map f = (l.take i).map f ++ [f x] := by
  rw [List.take_succ, h, List.map_append]
  rfl
theorem sc_is_beaten : FnScope ["held", "item", "items", "beater"] ["held", "item", "items"] (defScope s_is_beaten) := ⟨rfl, rfl, rfl, by decide +kernel, rfl, by decide +kernel, by decide +kernel⟩
theorem ok_is_beaten {f : Addr} {fd : FuncData} (F : Fun K "is_beaten" "is_beaten" s_is_beaten f fd) (B : Blt mg) (T_Held : HeldTxt K mg CH fH) : FnOk P w K mg base CX0 1 f fd ["held", "item", "items"] (spIsB K CH) := by
  refine F.ok sc_is_beaten (fun vs H Q E h => ?_) (fun cdv A outer s H vs Q E hr h => ⟨_, (pss_one (ps_ret (pe_callB (cr_any rfl) (by rfl) B.any (by decide +kernel) (pa_cons (pe_lc (own := [("beater", 3)]) (g := gName 3) (tt := tYes) rfl sc_is_beaten.nd (pi_list (pe_ix ix_list (pe_fld (pv 0) rfl) (pv 1) (fun _ _ => rfl))) (blkOk_by (N := ["held", "item", "items", "beater"]) (sc := defScope s_is_beaten) (by decide +kernel)) (fun _ _ _ _ _ => (pg_name (i := 3) sc_is_beaten.nd rfl (Or.inl rfl))) (fun _ _ _ _ _ => pts_nil) (fun _ _ _ _ _ => (pe_cmpR (r := rIn K false) op_in_seq (pv 3) (pv 2) (by rfl)))) pa_nil)))), ?_⟩)
  · obtain ⟨h, s, z, i, S, rfl, _⟩ := h
    rfl
  · obtain ⟨h, s, z, i, S, rfl, ⟨dx, b, n, h1, hR, h3⟩, Fz, hi, hS, k⟩ := h
    obtain ⟨as, hb, hl, hr2⟩ := id hR
    obtain ⟨a, ha, na, hrow⟩ := hr2 i _ (allBeaters_get (by rw [rows_len]; exact hi))
    have hat : (as.map V.ref)[i]? = some (.ref a) := by rw [List.getElem?_map, ha]; rfl
    have bl : (Vaskya.beaters (rows z.s) i).length ≤ 16 := by
      have h1 : (Vaskya.beaters (rows z.s) i).length ≤ (List.range (rows z.s).length).length := List.length_filter_le _ _
      rw [List.length_range, rows_len] at h1
      exact Nat.le_trans h1 Fz.it
    refine ⟨_, rfl, h, CH, dx, _, _, rfl, h1, T_Held.cl, T_Held.n1, held_b _ _ _, _, rfl, b, _, _, _, rfl, rfl, SqL.of hb, atI_nat hat, a, rfl, ⟨_, SqL.of hrow⟩, fun D hD => lc_list (K := K) (a := a) (xs := (ni (Vaskya.beaters (rows z.s) i)).map V.int)
      (fun j H' => Same H H' ∧ H' D = some (.lst ((((Vaskya.beaters (rows z.s) i).take j).map fun b => S.contains b).map V.bl))) ⟨same_new hD, upd_same⟩ (fun j H' _ h => h.1.seq (SqL.of hrow)) ?_ ?_⟩
    · rintro j x H' hx ⟨s1, h4⟩
      unfold ni at hx
      rw [List.getElem?_map, List.getElem?_map] at hx
      cases hj : (Vaskya.beaters (rows z.s) i)[j]? with
      | none =>
        rw [hj] at hx
        cases hx
      | some m =>
        rw [hj] at hx
        cases hx
        refine ⟨rfl, _, rfl, _, rfl, s, _, rfl, .inl (s1.seq hS), rfl, ni_flat S, _, h4, ?_, fun c o h => by rw [upd_ne (ne_of_none h hD)]; exact s1 c o h, ?_⟩
        · rw [List.length_map, List.length_map, List.length_take, sizeLine_eq]
          omega
        · rw [take_any _ hj, List.map_append, if_neg Bool.false_ne_true]
          have := ni_in S m
          unfold ni at this
          unfold ni
          rw [this]
          exact upd_same
    · rintro H' ⟨s1, h4⟩
      rw [List.length_map, ni_len, List.take_length] at h4
      refine ⟨D, _, rfl, SqL.of h4, ?_⟩
      have := k H' s1
      unfold hits at this
      rw [List.any_map]
      exact this
end
end Off
end
section
set_option Elab.async false
set_option linter.all false
set_option maxRecDepth 100000
set_option maxHeartbeats 4000000
namespace Off
open PySem PySem.Spec PyProof.Rows L2
open VaskyBase (Frac frac plus fracRow whole)
open Vaskya (Measure Item Sheet rows)
open Vaskye (there away product unbeatenChance allChances setChance apart mustGo)
section
variable {P : Program} {w : World} {K : PySem.W.Frag} {mg : Str → Option Value} {base : Heap} {CH fH : Addr} {fdH : FuncData}
/-! ### just_set_chance -/
def spJust (K : PySem.W.Frag) (C : Addr) : Sp := fun vs H Q _ => ∃ (h s : Addr) (z : Vaskye.Held) (S : List Nat), vs = [.ref h, .ref s] ∧ HeldAt C H h z ∧ Fine z ∧ SqL K H s ((ni S).map V.int) ∧ S.Nodup ∧ (∀ i ∈ S, i < z.s.items.length) ∧
  ∀ p H', Same H H' → H p = none → FrAt H' p (setChance (rows z.s) z.c S) → Q (.ref p) H'
theorem nodup_len {n : Nat} {S : List Nat} (h : S.Nodup) (l : ∀ i ∈ S, i < n) : S.length ≤ n := by
  have p := filter_perm h (List.nodup_range (n := n)) fun x hx => List.mem_range.mpr (l x hx)
  have e := p.length_eq
  have := List.length_filter_le (fun i => S.contains i) (List.range n)
  rw [List.length_range] at this
  omega
theorem sc_just_set_chance : FnScope ["held", "items", "others", "away", "item"] ["held", "items"] (defScope s_just_set_chance) := ⟨rfl, rfl, rfl, by decide +kernel, rfl, by decide +kernel, by decide +kernel⟩
theorem ok_just_set_chance {f : Addr} {fd : FuncData} (F : Fun K "just_set_chance" "just_set_chance" s_just_set_chance f fd) (B : Blt mg) (D_is_beaten : Df P w K mg base CX0 1 "is_beaten" ["held", "item", "items"] (spIsB K CH)) (D_chance_of : Df P w K mg base CX0 3 "chance_of" ["held", "weight"] (spChanceOf CH))
    (D_item_count : Df P w K mg base CX0 1 "item_count" ["held"] (spCount CH)) (D_worlds_weight : Df P w K mg base CX0 1 "worlds_weight" ["held", "there", "away"] (spWW K CH)) : FnOk P w K mg base CX0 4 f fd ["held", "items"] (spJust K CH) := by
  obtain ⟨f_is_beaten, fd_is_beaten, m_is_beaten, o_is_beaten, k_is_beaten, b_is_beaten⟩ := D_is_beaten
  obtain ⟨f_chance_of, fd_chance_of, m_chance_of, o_chance_of, k_chance_of, b_chance_of⟩ := D_chance_of
  obtain ⟨f_item_count, fd_item_count, m_item_count, o_item_count, k_item_count, b_item_count⟩ := D_item_count
  obtain ⟨f_worlds_weight, fd_worlds_weight, m_worlds_weight, o_worlds_weight, k_worlds_weight, b_worlds_weight⟩ := D_worlds_weight
  refine F.ok sc_just_set_chance (fun vs H Q E h => ?_) (fun cdv A outer s H vs Q E hr h => ⟨_, (pss_cons (ps_if (pt_val (pe_callB (cr_any rfl) (by rfl) B.any (by decide +kernel) (pa_cons (pe_lc (own := [("item", 4)]) (g := gName 4) (tt := tYes) rfl sc_just_set_chance.nd (pi_list (pv 1)) (blkOk_by (N := ["held", "items", "others", "away", "item"]) (sc := defScope s_just_set_chance) (by decide +kernel)) (fun _ _ _ _ _ => (pg_name (i := 4) sc_just_set_chance.nd rfl (Or.inl rfl))) (fun _ _ _ _ _ => pts_nil) (fun _ _ _ _ _ => (pe_call o_is_beaten (hr.mono (by decide)) rfl m_is_beaten k_is_beaten b_is_beaten .nil pass0 (pa_cons (pv 0) (pa_cons (pv 4) (pa_cons (pv 1) pa_nil)))))) pa_nil)))
        (pss_one (ps_ret (pe_call o_chance_of (hr.mono (by decide)) rfl m_chance_of k_chance_of b_chance_of .nil pass0 (pa_cons (pv 0) (pa_cons pe_int pa_nil)))))
        pss_nil)
      (pss_cons (ps_setLc (i := 2) (own := [("item", 4)]) (g := gName 4) rfl sc_just_set_chance.nd rfl rfl (sw_true rfl rfl rfl (by decide +kernel)) (pi_range1 (by rfl) B.range (pa_cons (pe_call o_item_count (hr.mono (by decide)) rfl m_item_count k_item_count b_item_count .nil pass0 (pa_cons (pv 0) pa_nil)) pa_nil)) (blkOk_by (N := ["held", "items", "others", "away", "item"]) (sc := defScope s_just_set_chance) (by decide +kernel)) (fun _ _ _ _ _ => (pg_name (i := 4) sc_just_set_chance.nd rfl (Or.inl rfl))) (fun _ _ _ _ _ => pts_one (pt_cmpR (r := rIn K true) op_notIn_seq (pv 4) (pv 1) (by rfl))) (fun _ _ _ _ _ => (pv 4)))
      (pss_cons (ps_setLc (i := 3) (own := [("item", 4)]) (g := gName 4) rfl sc_just_set_chance.nd rfl rfl (sw_true rfl rfl rfl (by decide +kernel)) (pi_list (pv 2)) (blkOk_by (N := ["held", "items", "others", "away", "item"]) (sc := defScope s_just_set_chance) (by decide +kernel)) (fun _ _ _ _ _ => (pg_name (i := 4) sc_just_set_chance.nd rfl (Or.inl rfl))) (fun _ _ _ _ _ => pts_one (pt_not (pt_val (pe_call o_is_beaten (hr.mono (by decide)) rfl m_is_beaten k_is_beaten b_is_beaten .nil pass0 (pa_cons (pv 0) (pa_cons (pv 4) (pa_cons (pv 1) pa_nil))))))) (fun _ _ _ _ _ => (pv 4)))
      (pss_one (ps_ret (pe_call o_chance_of (hr.mono (by decide)) rfl m_chance_of k_chance_of b_chance_of .nil pass0 (pa_cons (pv 0) (pa_cons (pe_call o_worlds_weight (hr.mono (by decide)) rfl m_worlds_weight k_worlds_weight b_worlds_weight .nil pass0 (pa_cons (pv 0) (pa_cons (pv 1) (pa_cons (pv 3) pa_nil)))) pa_nil)))))))), ?_⟩)
  · obtain ⟨h, s, z, S, rfl, _⟩ := h
    rfl
  · obtain ⟨h, s, z, S, rfl, hz, Fz, hS, nd, sS, k⟩ := h
    have rl := rows_len z.s
    have it := Fz.it
    have sS' : ∀ i ∈ S, i < (rows z.s).length := fun i hi => by rw [rl]; exact sS i hi
    have Sl : S.length ≤ 16 := Nat.le_trans (nodup_len nd sS) it
    refine ⟨_, rfl, s, rfl, ⟨_, hS⟩, fun D hD => lc_list (K := K) (a := s) (xs := (ni S).map V.int)
      (fun j H' => Same H H' ∧ H' D = some (.lst (((S.take j).map (hits (rows z.s) S)).map V.bl))) ⟨same_new hD, upd_same⟩ (fun j H' _ h => h.1.seq hS) ?_ ?_⟩
    · rintro j x H' hx ⟨s1, h4⟩
      unfold ni at hx
      rw [List.getElem?_map, List.getElem?_map] at hx
      cases hj : S[j]? with
      | none =>
        rw [hj] at hx
        cases hx
      | some m =>
        rw [hj] at hx
        cases hx
        refine ⟨rfl, _, rfl, _, rfl, _, rfl, h, s, z, m, S, rfl, hz.same s1, Fz, sS m (List.mem_of_getElem? hj), s1.seq hS, fun H2 s2 => ⟨_, s2 _ _ h4, ?_, fun c o h => by rw [upd_ne (ne_of_none h hD)]; exact s2 _ _ (s1 _ _ h), ?_⟩⟩
        · rw [List.length_map, List.length_map, List.length_take, sizeLine_eq]
          omega
        · rw [take_any _ hj, List.map_append]
          exact upd_same
    · rintro H1 ⟨s1, h4⟩
      rw [List.length_map, ni_len, List.take_length] at h4
      refine ⟨D, _, rfl, SqL.of h4, _, rfl, ?_⟩
      have ea : (S.map (hits (rows z.s) S)).any id = !apart (rows z.s) S := by
        rw [List.any_map]
        exact apart_any sS'
      rw [ea]
      cases ap : apart (rows z.s) S with
      | false =>
        refine if_t rfl ⟨_, rfl, h, z, 0, rfl, hz.same s1, Fz, fun p H2 s2 p0 fr => k p H2 (s1.trans s2) (Same.free s1 p0) ?_⟩
        unfold setChance
        rw [ap, if_neg Bool.false_ne_true, ← frac_zero (Nat.pow_pos (n := z.s.items.length) Fz.q1)]
        exact fr
      | true =>
        refine if_f rfl ⟨_, rfl, h, z, rfl, hz.same s1, _, rfl, by omega, by omega, fun D2 hD2 => ?_⟩
        refine lc_range (lo := 0) (n := z.s.items.length) (fun i H' => Same H1 H' ∧ H' D2 = some (.lst ((ni ((List.range i).filter fun i => !S.contains i)).map V.int))) ⟨same_new hD2, upd_same⟩ ?_ ?_
        · rintro i H' hi ⟨s2, h5⟩
          refine ⟨rfl, _, rfl, _, rfl, s, _, rfl, .inl (s2.seq (s1.seq hS)), rfl, ni_flat S, _, rfl, ?_⟩
          rw [if_pos rfl, Int.zero_add, ni_in]
          have rs : (List.range (i + 1)).filter (fun i => !S.contains i) = (List.range i).filter (fun i => !S.contains i) ++ if (!S.contains i) = true then [i] else [] := by
            rw [List.range_succ, List.filter_append, List.filter_cons, List.filter_nil]
          cases c : S.contains i with
          | true =>
            refine if_f rfl ⟨s2, ?_⟩
            rw [rs, c, if_neg (show ¬ (!true) = true from Bool.false_ne_true), List.append_nil]
            exact h5
          | false =>
            refine if_t rfl ⟨_, rfl, _, h5, ?_, fun c o h => by rw [upd_ne (ne_of_none h hD2)]; exact s2 _ _ h, ?_⟩
            · have := List.length_filter_le (fun i => !S.contains i) (List.range i)
              rw [List.length_range] at this
              rw [List.length_map, ni_len, sizeLine_eq]
              omega
            · rw [rs, c, if_pos (show (!false) = true from rfl)]
              unfold ni
              rw [List.map_append, List.map_append]
              exact upd_same
        · rintro H3 ⟨s2, h5⟩
          have s13 := s1.trans s2
          refine ⟨_, rfl, D2, rfl, ⟨_, SqL.of h5⟩, fun D3 hD3 => ?_⟩
          refine lc_list (K := K) (a := D2) (xs := (ni ((List.range z.s.items.length).filter fun i => !S.contains i)).map V.int)
            (fun j H' => Same H3 H' ∧ H' D3 = some (.lst ((ni ((((List.range z.s.items.length).filter fun i => !S.contains i).take j).filter fun i => !hits (rows z.s) S i)).map V.int))) ⟨same_new hD3, upd_same⟩ (fun j H' _ h => h.1.seq (SqL.of h5)) ?_ ?_
          · rintro j x H' hx ⟨s3, h6⟩
            unfold ni at hx
            rw [List.getElem?_map, List.getElem?_map] at hx
            cases hj : ((List.range z.s.items.length).filter fun i => !S.contains i)[j]? with
            | none =>
              rw [hj] at hx
              cases hx
            | some m =>
              rw [hj] at hx
              cases hx
              have hm := List.mem_of_getElem? hj
              have hm : m < z.s.items.length := List.mem_range.mp (List.mem_filter.mp hm).1
              have tk : (((List.range z.s.items.length).filter fun i => !S.contains i).take (j + 1)).filter (fun i => !hits (rows z.s) S i) =
                  (((List.range z.s.items.length).filter fun i => !S.contains i).take j).filter (fun i => !hits (rows z.s) S i) ++ if (!hits (rows z.s) S m) = true then [m] else [] := by
                rw [List.take_succ, hj, List.filter_append]
                show _ ++ List.filter _ [m] = _
                rw [List.filter_cons, List.filter_nil]
              refine ⟨rfl, _, rfl, _, rfl, _, rfl, h, s, z, m, S, rfl, (hz.same s13).same s3, Fz, hm, s3.seq (s13.seq hS), fun H4 s4 => ⟨_, rfl, ?_⟩⟩
              cases c : hits (rows z.s) S m with
              | true =>
                refine if_f rfl ⟨Same.trans s3 s4, ?_⟩
                rw [tk, c, if_neg (show ¬ (!true) = true from Bool.false_ne_true), List.append_nil]
                exact s4 _ _ h6
              | false =>
                refine if_t rfl ⟨_, rfl, _, s4 _ _ h6, ?_, fun c o h => by rw [upd_ne (ne_of_none h hD3)]; exact s4 _ _ (s3 _ _ h), ?_⟩
                · have h1 := List.length_filter_le (fun i => !hits (rows z.s) S i) (((List.range z.s.items.length).filter fun i => !S.contains i).take j)
                  have h2 := List.length_take_le' j ((List.range z.s.items.length).filter fun i => !S.contains i)
                  have h3 := List.length_filter_le (fun i => !S.contains i) (List.range z.s.items.length)
                  rw [List.length_range] at h3
                  rw [List.length_map, ni_len, sizeLine_eq]
                  omega
                · rw [tk, c, if_pos (show (!false) = true from rfl)]
                  unfold ni
                  rw [List.map_append, List.map_append]
                  exact upd_same
          · rintro H4 ⟨s3, h6⟩
            rw [List.length_map, ni_len, List.take_length] at h6
            have s14 := s13.trans s3
            have hm : ((List.range z.s.items.length).filter fun i => !S.contains i).filter (fun i => !hits (rows z.s) S i) = mustGo (rows z.s) S := by
              have := must_filter sS'
              rw [rl] at this
              exact this
            rw [hm] at h6
            refine ⟨_, rfl, _, rfl, _, rfl, _, rfl, h, s, D3, z, S, mustGo (rows z.s) S, rfl, hz.same s14, Fz, s14.seq hS, SqL.of h6, fun H5 s5 => ?_⟩
            refine ⟨h, z, _, rfl, (hz.same s14).same s5, Fz, fun p H6 s6 p0 fr => k p H6 (s14.trans (Same.trans s5 s6)) (Same.free s14 (Same.free s5 p0)) ?_⟩
            rw [set_ww Fz.lc nd sS' ap, rl]
            exact fr
/-! ### bits -/
theorem bt_lt (n i : Nat) (hn : n ≤ 16) : bt n i ≤ 2 ^ 16 := Nat.pow_le_pow_right (by decide) (by omega)
def spBit (C : Addr) : Sp := fun vs H Q _ => ∃ (h : Addr) (z : Vaskye.Held) (i : Nat), vs = [.ref h, .int (i : Int)] ∧ HeldAt C H h z ∧ Fine z ∧ i < z.s.items.length ∧ Q (.int ((bt z.s.items.length i : Nat) : Int)) H
theorem sc_bit_of : FnScope ["held", "item"] ["held", "item"] (defScope s_bit_of) := ⟨rfl, rfl, rfl, by decide +kernel, rfl, by decide +kernel, by decide +kernel⟩
theorem ok_bit_of {f : Addr} {fd : FuncData} (F : Fun K "bit_of" "bit_of" s_bit_of f fd) (D_item_count : Df P w K mg base CX0 1 "item_count" ["held"] (spCount CH)) : FnOk P w K mg base CX0 2 f fd ["held", "item"] (spBit CH) := by
  obtain ⟨f_item_count, fd_item_count, m_item_count, o_item_count, k_item_count, b_item_count⟩ := D_item_count
  refine F.ok sc_bit_of (fun vs H Q E h => ?_) (fun cdv A outer s H vs Q E hr h => ⟨_, (pss_one (ps_ret (pe_op L2.op_oneShl pe_int (pe_op op_sub (pe_op op_sub (pe_call o_item_count (hr.mono (by decide)) rfl m_item_count k_item_count b_item_count .nil pass0 (pa_cons (pv 0) pa_nil)) pe_int) (pv 1))))), ?_⟩)
  · obtain ⟨h, z, i, rfl, _⟩ := h
    rfl
  · obtain ⟨h, z, i, rfl, hz, Fz, hi, k⟩ := h
    have it := Fz.it
    refine ⟨_, rfl, h, z, rfl, hz, _, _, rfl, rfl, _, rfl, _, _, rfl, rfl, z.s.items.length - 1 - i, rfl, ?_, by omega, ?_⟩
    · exact congrArg V.int (by omega)
    · exact k
end
end Off
end
section
set_option Elab.async false
set_option linter.all false
set_option maxRecDepth 100000
set_option maxHeartbeats 4000000
namespace Off
open PySem PySem.Spec PyProof.Rows L2
open VaskyBase (Frac frac plus fracRow whole)
open Vaskya (Measure Item Sheet rows)
open Vaskye (there away product unbeatenChance allChances setChance apart mustGo)
theorem band_nat (a b : Nat) : Builtin.bitAnd (a : Int) (b : Int) = ((a &&& b : Nat) : Int) := by
  unfold Builtin.bitAnd
  rw [decide_eq_true (Int.natCast_nonneg a), decide_eq_true (Int.natCast_nonneg b)]
  rfl
theorem ite_test {c d : Bool} {A B : Prop} (e : c = d) (h1 : d = true → A) (h2 : d = false → B) : if c = true then A else B := by
  subst e
  cases c with
  | true => exact if_t rfl (h1 rfl)
  | false => exact if_f rfl (h2 rfl)
section
variable {P : Program} {w : World} {K : PySem.W.Frag} {mg : Str → Option Value} {base : Heap} {CH fH : Addr} {fdH : FuncData}
/-! ### bits_of -/
def spBits (K : PySem.W.Frag) (C : Addr) : Sp := fun vs H Q _ => ∃ (h s : Addr) (z : Vaskye.Held) (S : List Nat), vs = [.ref h, .ref s] ∧ HeldAt C H h z ∧ Fine z ∧ SqL K H s ((ni S).map V.int) ∧ (∀ i ∈ S, i < z.s.items.length) ∧ S.length ≤ 1000 ∧
  ∀ H', Same H H' → Q (.int ((maskOf z.s.items.length S : Nat) : Int)) H'
theorem sc_bits_of : FnScope ["held", "items", "item"] ["held", "items"] (defScope s_bits_of) := ⟨rfl, rfl, rfl, by decide +kernel, rfl, by decide +kernel, by decide +kernel⟩
theorem ok_bits_of {f : Addr} {fd : FuncData} (F : Fun K "bits_of" "bits_of" s_bits_of f fd) (B : Blt mg) (D_bit_of : Df P w K mg base CX0 2 "bit_of" ["held", "item"] (spBit CH)) : FnOk P w K mg base CX0 3 f fd ["held", "items"] (spBits K CH) := by
  obtain ⟨f_bit_of, fd_bit_of, m_bit_of, o_bit_of, k_bit_of, b_bit_of⟩ := D_bit_of
  refine F.ok sc_bits_of (fun vs H Q E h => ?_) (fun cdv A outer s H vs Q E hr h => ⟨_, (pss_one (ps_ret (pe_callB (cr_sum rfl) (by rfl) B.sum (by decide +kernel) (pa_cons (pe_lc (own := [("item", 2)]) (g := gName 2) (tt := tYes) rfl sc_bits_of.nd (pi_list (pv 1)) (blkOk_by (N := ["held", "items", "item"]) (sc := defScope s_bits_of) (by decide +kernel)) (fun _ _ _ _ _ => (pg_name (i := 2) sc_bits_of.nd rfl (Or.inl rfl))) (fun _ _ _ _ _ => pts_nil) (fun _ _ _ _ _ => (pe_call o_bit_of (hr.mono (by decide)) rfl m_bit_of k_bit_of b_bit_of .nil pass0 (pa_cons (pv 0) (pa_cons (pv 2) pa_nil))))) pa_nil)))), ?_⟩)
  · obtain ⟨h, s, z, S, rfl, _⟩ := h
    rfl
  · obtain ⟨h, s, z, S, rfl, hz, Fz, hS, sS, Sl, k⟩ := h
    refine ⟨_, rfl, s, rfl, ⟨_, hS⟩, fun D hD => lc_list (K := K) (a := s) (xs := (ni S).map V.int)
      (fun j H' => Same H H' ∧ H' D = some (.lst ((ni ((S.take j).map (bt z.s.items.length))).map V.int))) ⟨same_new hD, upd_same⟩ (fun j H' _ h => h.1.seq hS) ?_ ?_⟩
    · rintro j x H' hx ⟨s1, h4⟩
      unfold ni at hx
      rw [List.getElem?_map, List.getElem?_map] at hx
      cases hj : S[j]? with
      | none =>
        rw [hj] at hx
        cases hx
      | some m =>
        rw [hj] at hx
        cases hx
        refine ⟨rfl, _, rfl, _, rfl, h, z, m, rfl, hz.same s1, Fz, sS m (List.mem_of_getElem? hj), _, h4, ?_, fun c o h => by rw [upd_ne (ne_of_none h hD)]; exact s1 _ _ h, ?_⟩
        · rw [List.length_map, ni_len, List.length_map, List.length_take, sizeLine_eq]
          omega
        · rw [← ok_take_map (f := bt z.s.items.length) hj]
          unfold ni
          rw [List.map_append, List.map_append]
          exact upd_same
    · rintro H1 ⟨s1, h4⟩
      rw [List.length_map, ni_len, List.take_length] at h4
      refine ⟨D, _, rfl, SqL.of h4, ?_⟩
      rw [ni_sum]
      exact k H1 s1
/-! ### items_of -/
def spItemsOf (C : Addr) : Sp := fun vs H Q _ => ∃ (h : Addr) (z : Vaskye.Held) (b : Nat), vs = [.ref h, .int (b : Int)] ∧ HeldAt C H h z ∧ Fine z ∧
  ∀ p H', Same H H' → H p = none → H' p = some (.lst ((ni (its z.s.items.length b)).map V.int)) → Q (.ref p) H'
theorem sc_items_of : FnScope ["held", "bits", "item"] ["held", "bits"] (defScope s_items_of) := ⟨rfl, rfl, rfl, by decide +kernel, rfl, by decide +kernel, by decide +kernel⟩
theorem ok_items_of {f : Addr} {fd : FuncData} (F : Fun K "items_of" "items_of" s_items_of f fd) (B : Blt mg) (D_bit_of : Df P w K mg base CX0 2 "bit_of" ["held", "item"] (spBit CH)) (D_item_count : Df P w K mg base CX0 1 "item_count" ["held"] (spCount CH)) :
    FnOk P w K mg base CX0 3 f fd ["held", "bits"] (spItemsOf CH) := by
  obtain ⟨f_bit_of, fd_bit_of, m_bit_of, o_bit_of, k_bit_of, b_bit_of⟩ := D_bit_of
  obtain ⟨f_item_count, fd_item_count, m_item_count, o_item_count, k_item_count, b_item_count⟩ := D_item_count
  refine F.ok sc_items_of (fun vs H Q E h => ?_) (fun cdv A outer s H vs Q E hr h => ⟨_, (pss_one (ps_ret (pe_lc (own := [("item", 2)]) (g := gName 2) rfl sc_items_of.nd (pi_range1 (by rfl) B.range (pa_cons (pe_call o_item_count (hr.mono (by decide)) rfl m_item_count k_item_count b_item_count .nil pass0 (pa_cons (pv 0) pa_nil)) pa_nil)) (blkOk_by (N := ["held", "bits", "item"]) (sc := defScope s_items_of) (by decide +kernel)) (fun _ _ _ _ _ => (pg_name (i := 2) sc_items_of.nd rfl (Or.inl rfl))) (fun _ _ _ _ _ => pts_one (pt_cmpR op_ne (pe_op op_and (pv 1) (pe_call o_bit_of (hr.mono (by decide)) rfl m_bit_of k_bit_of b_bit_of .nil pass0 (pa_cons (pv 0) (pa_cons (pv 2) pa_nil)))) pe_int (nomark _))) (fun _ _ _ _ _ => (pv 2))))), ?_⟩)
  · obtain ⟨h, z, b, rfl, _⟩ := h
    rfl
  · obtain ⟨h, z, b, rfl, hz, Fz, k⟩ := h
    have it := Fz.it
    refine ⟨_, rfl, h, z, rfl, hz, _, rfl, by omega, by omega, fun D hD => ?_⟩
    refine lc_range (lo := 0) (n := z.s.items.length) (fun i H' => Same H H' ∧ H' D = some (.lst ((ni ((List.range i).filter (has z.s.items.length b))).map V.int))) ⟨same_new hD, upd_same⟩ ?_ ?_
    · rintro i H' hi ⟨s1, h4⟩
      refine ⟨rfl, _, rfl, _, rfl, _, rfl, h, z, i, ?_, hz.same s1, Fz, hi, _, _, rfl, rfl, rfl, _, rfl, ?_⟩
      · rw [Int.zero_add]
        rfl
      have e : (!decide (V.int (Builtin.bitAnd (b : Int) ((bt z.s.items.length i : Nat) : Int)) = V.int 0)) = has z.s.items.length b i := by
        rw [band_nat, ← and_bit]
        by_cases c : b &&& bt z.s.items.length i = 0
        · rw [c]
          simp
        · rw [decide_eq_false (fun q => c (by have := V.int.inj q; omega)), decide_eq_true (show b &&& bt z.s.items.length i ≠ 0 from c)]
          rfl
      have rs : (List.range (i + 1)).filter (has z.s.items.length b) = (List.range i).filter (has z.s.items.length b) ++ if has z.s.items.length b i = true then [i] else [] := by
        rw [List.range_succ, List.filter_append, List.filter_cons, List.filter_nil]
      refine ite_test e ?_ ?_
      · intro c
        refine ⟨_, rfl, _, h4, ?_, fun c o h => by rw [upd_ne (ne_of_none h hD)]; exact s1 _ _ h, ?_⟩
        · have := List.length_filter_le (has z.s.items.length b) (List.range i)
          rw [List.length_range] at this
          rw [List.length_map, ni_len, sizeLine_eq]
          omega
        · rw [rs, c, if_pos rfl, Int.zero_add]
          unfold ni
          rw [List.map_append, List.map_append]
          exact upd_same
      · intro c
        refine ⟨s1, ?_⟩
        rw [rs, c, if_neg Bool.false_ne_true, List.append_nil]
        exact h4
    · rintro H1 ⟨s1, h4⟩
      exact k D H1 s1 hD h4
end
end Off
end
section
set_option Elab.async false
set_option linter.all false
set_option maxRecDepth 100000
set_option maxHeartbeats 4000000
namespace Off
open PySem PySem.Spec PyProof.Rows L2 LamX NdefX
open VaskyBase (Frac frac plus fracRow whole)
open Vaskya (Measure Item Sheet rows)
open Vaskye (there away product unbeatenChance allChances setChance apart mustGo)
/-- a table of weights as a dict's entries -/
def ent (e : Nat × Nat) : Key × V := (.inl (e.1 : Int), .int (e.2 : Int))
theorem put_new {L : List (Nat × Nat)} {k v : Nat} (h : k ∉ L.map (·.1)) : putK (L.map ent) (.inl (k : Int)) (.int (v : Int)) = (L ++ [(k, v)]).map ent := by
  have no : ((L.map ent).any fun kv => decide (kv.1 = (Sum.inl (k : Int) : Key))) = false := by
    rw [List.any_eq_false]
    intro x hx
    obtain ⟨e, he, rfl⟩ := List.mem_map.mp hx
    simp only [decide_eq_true_eq]
    intro q
    have q' : (e.1 : Int) = (k : Int) := Sum.inl.inj q
    refine h (List.mem_map.mpr ⟨e, he, ?_⟩)
    omega
  unfold putK
  rw [no, if_neg Bool.false_ne_true, List.map_append]
  rfl
theorem mask_bby {l : List (List Int)} {b x : Nat} (hb : b < 2 ^ l.length) : decide (b &&& maskOf l.length (Vaskya.beaters l x) ≠ 0) = bby l.length (bxOf l) b x := by
  rw [and_mask (beaters_nodup x) (fun i hi => (beaters_mem.mp hi).1) hb, Bool.eq_iff_iff, bby_iff, List.any_eq_true]
  constructor
  · rintro ⟨i, hi, h⟩
    exact ⟨i, (beaters_mem.mp hi).1, h, (beaters_mem.mp hi).2⟩
  · rintro ⟨i, hi, h1, h2⟩
    exact ⟨i, beaters_mem.mpr ⟨hi, h2⟩, h1⟩
section
variable {P : Program} {w : World} {K : PySem.W.Frag} {mg : Str → Option Value} {base : Heap} {CH fH : Addr} {fdH : FuncData}
abbrev joinedOf (z : Vaskye.Held) (x : Nat) (D : List (Nat × Nat)) : List (Nat × Nat) := joined z.s.items.length (bxOf (rows z.s)) (there z.c) z.c.q x D
theorem join_len (z : Vaskye.Held) (x : Nat) : ∀ D : List (Nat × Nat), (joinedOf z x D).length ≤ 2 * D.length
  | [] => Nat.le_refl _
  | e :: D => by
    have ih := join_len z x D
    unfold joinedOf joined at *
    rw [List.flatMap_cons, List.length_append, List.length_cons]
    have : (join1 z.s.items.length (bxOf (rows z.s)) (there z.c) z.c.q x e).length ≤ 2 := by
      unfold join1
      split
      · exact Nat.le_succ 1
      · exact Nat.le_refl 2
    omega
/-! ### joined_by -/
def spJoin (C : Addr) : Sp := fun vs H Q _ => ∃ (h d : Addr) (z : Vaskye.Held) (D : List (Nat × Nat)) (x : Nat), vs = [.ref h, .ref d, .int (x : Int)] ∧ HeldAt C H h z ∧ Fine z ∧ z.s.items.length ≤ 12 ∧ x < z.s.items.length ∧ H d = some (.dK (D.map ent)) ∧
  (∀ e ∈ D, e.1 < 2 ^ z.s.items.length) ∧ D.length ≤ 4096 ∧ ((joinedOf z x D).map (·.1)).Nodup ∧
  ∀ p H', Same H H' → H p = none → H' p = some (.dK ((joinedOf z x D).map ent)) → Q (.ref p) H'
theorem sc_joined_by : FnScope ["held", "weights", "item", "own_bit", "beaters", "grown", "bits", "weight"] ["held", "weights", "item"] (defScope s_joined_by) := ⟨rfl, rfl, rfl, by decide +kernel, rfl, by decide +kernel, by decide +kernel⟩
theorem ok_joined_by {f : Addr} {fd : FuncData} (F : Fun K "joined_by" "joined_by" s_joined_by f fd) (B : Blt mg) (T_Held : HeldTxt K mg CH fH) (D_bit_of : Df P w K mg base CX0 2 "bit_of" ["held", "item"] (spBit CH)) (D_bits_of : Df P w K mg base CX0 3 "bits_of" ["held", "items"] (spBits K CH)) :
    FnOk P w K mg base CX0 4 f fd ["held", "weights", "item"] (spJoin CH) := by
  obtain ⟨f_bit_of, fd_bit_of, m_bit_of, o_bit_of, k_bit_of, b_bit_of⟩ := D_bit_of
  obtain ⟨f_bits_of, fd_bits_of, m_bits_of, o_bits_of, k_bits_of, b_bits_of⟩ := D_bits_of
  refine F.ok sc_joined_by (fun vs H Q E h => ?_) (fun cdv A outer s H vs Q E hr h => ⟨_, (pss_cons (ps_set (i := 3) sc_joined_by.nd rfl (.inl rfl) (pe_call o_bit_of (hr.mono (by decide)) rfl m_bit_of k_bit_of b_bit_of .nil pass0 (pa_cons (pv 0) (pa_cons (pv 2) pa_nil))))
      (pss_cons (ps_set (i := 4) sc_joined_by.nd rfl (.inl rfl) (pe_call o_bits_of (hr.mono (by decide)) rfl m_bits_of k_bits_of b_bits_of .nil pass0 (pa_cons (pv 0) (pa_cons (pe_ix ix_list (pe_fld (pv 0) rfl) (pv 2) (fun _ _ => rfl)) pa_nil))))
      (pss_cons (ps_set (i := 5) sc_joined_by.nd rfl (.inl rfl) pe_dnewK)
      (pss_cons (ps_lock (ps_for PassesOwn.never rfl (pi_items (pv 1)) (pg_tup rfl (pgs_cons (pg_name (i := 6) sc_joined_by.nd rfl (Or.inl rfl)) (pgs_cons (pg_name (i := 7) sc_joined_by.nd rfl (Or.inl rfl)) pgs_nil)))
        (pss_one (ps_if (pt_cmpR op_ne (pe_op op_and (pv 6) (pv 4)) pe_int (nomark _))
        (pss_one (ps_dput (hu_of hr) (pv 5) (pv 6) (pe_op op_mul (pv 7) (pe_fld (pv 0) rfl)) rfl))
        (pss_cons (ps_dput (hu_of hr) (pv 5) (pe_op op_add (pv 6) (pv 3)) (pe_op op_mul (pv 7) (pe_ix ix_list (pe_fld (pv 0) rfl) (pv 2) (fun _ _ => rfl))) rfl)
      (pss_one (ps_dput (hu_of hr) (pv 5) (pv 6) (pe_op op_mul (pv 7) (pe_op op_sub (pe_fld (pv 0) rfl) (pe_ix ix_list (pe_fld (pv 0) rfl) (pv 2) (fun _ _ => rfl)))) rfl)))))))
      (pss_one (ps_ret (pv 5))))))), ?_⟩)
  · obtain ⟨h, d, z, D, x, rfl, _⟩ := h
    rfl
  · obtain ⟨h, d, z, D, x, rfl, hz, Fz, n12, hx, hd, hD, Dl, nd, k⟩ := h
    obtain ⟨dx, b, n, h1, hR, h3⟩ := id hz
    obtain ⟨as, hb, hl, hr2⟩ := id hR
    obtain ⟨a, ha, na, hrow⟩ := hr2 x _ (allBeaters_get (by rw [rows_len]; exact hx))
    have hat : (as.map V.ref)[x]? = some (.ref a) := by rw [List.getElem?_map, ha]; rfl
    have bll : (Vaskya.beaters (rows z.s) x).length ≤ 1000 := by
      have h1 : (Vaskya.beaters (rows z.s) x).length ≤ (List.range (rows z.s).length).length := List.length_filter_le _ _
      rw [List.length_range, rows_len] at h1
      omega
    refine ⟨_, rfl, _, rfl, h, z, x, rfl, hz, Fz, hx, ?_⟩
    refine ⟨_, rfl, _, rfl, h, CH, dx, _, _, rfl, h1, T_Held.cl, T_Held.n1, held_b _ _ _, _, rfl, b, _, _, _, rfl, rfl, SqL.of hb, atI_nat hat, h, a, z, Vaskya.beaters (rows z.s) x, rfl, hz, Fz, SqL.of hrow, fun i hi => by rw [← rows_len]; exact beaters_lt hi, bll, fun H1 s1 => ?_⟩
    intro g hg
    have h1' := s1 _ _ h1
    have gd : g ≠ d := fun q => by
      rw [q, s1 _ _ hd] at hg
      cases hg
    have hd1 : upd H1 g (.dK []) d = some (.dK (D.map ent)) := by
      rw [upd_ne (Ne.symm gd)]
      exact s1 _ _ hd
    refine ⟨d, .dK (D.map ent), hd1, trivial, fun od => ?_⟩
    refine ⟨_, rfl, d, od, D.map ent, rfl, upd_same, for_it (walk_items (d := d) (o := od) (kvs := D.map ent))
      (fun i σ H' => H' d = some (.frz od (.dK (D.map ent))) ∧ (∀ c o, H1 c = some o → c ≠ d → H' c = some o) ∧ H' g = some (.dK ((joinedOf z x (D.take i)).map ent)) ∧
        ∃ u v : Option V, σ = [some (.ref h), some (.ref d), some (.int (x : Int)), some (.int ((bt z.s.items.length x : Nat) : Int)), some (.int ((maskOf z.s.items.length (Vaskya.beaters (rows z.s) x) : Nat) : Int)), some (.ref g), u, v])
      ⟨upd_same, ?_, ?_, none, none, rfl⟩ (fun i σ H' _ h => h.1) ?_ ?_⟩
    · intro c o hc cd
      rw [upd_ne cd, upd_ne (ne_of_none hc hg)]
      exact hc
    · rw [upd_ne gd]
      exact upd_same
    · rintro i xv σ H' H2 hi ⟨q1, q2, q3, u, v, rfl⟩ ⟨T, vx, vy, rfl, hT, rfl, hx2, hy2⟩
      rw [List.length_map] at hi
      obtain ⟨⟨bi, wi⟩, he⟩ : ∃ e, D[i]? = some e := ⟨D[i], List.getElem?_eq_getElem hi⟩
      dsimp only at hx2 hy2
      rw [List.getElem?_map, he] at hx2 hy2
      cases hx2
      cases hy2
      have em := List.mem_of_getElem? he
      have bn : bi < 2 ^ (rows z.s).length := by rw [rows_len]; exact hD _ em
      have gT : T ≠ g := fun q => by rw [q, q3] at hT; cases hT
      have dT : T ≠ d := fun q => by rw [q, q1] at hT; cases hT
      have r1 : upd H' T (.tup [.int (bi : Int), .int (wi : Int)]) d = some (.frz od (.dK (D.map ent))) := by rw [upd_ne (Ne.symm dT)]; exact q1
      have r2 : ∀ c o, H1 c = some o → c ≠ d → upd H' T (.tup [.int (bi : Int), .int (wi : Int)]) c = some o := fun c o hc cd => by
        have := q2 c o hc cd
        rw [upd_ne (ne_of_none this hT)]
        exact this
      have r3 : upd H' T (.tup [.int (bi : Int), .int (wi : Int)]) g = some (.dK ((joinedOf z x (D.take i)).map ent)) := by rw [upd_ne (Ne.symm gT)]; exact q3
      have tk : joinedOf z x (D.take (i + 1)) = joinedOf z x (D.take i) ++ join1 z.s.items.length (bxOf (rows z.s)) (there z.c) z.c.q x (bi, wi) := by
        unfold joinedOf joined
        rw [List.take_succ, he, List.flatMap_append]
        simp
      have ndi : ((joinedOf z x (D.take (i + 1))).map (·.1)).Nodup := by
        refine List.Nodup.sublist ?_ nd
        refine List.Sublist.map _ ?_
        unfold joinedOf joined
        conv => rhs; rw [← List.take_append_drop (i + 1) D]
        rw [List.flatMap_append]
        exact List.sublist_append_left _ _
      have jl : (joinedOf z x (D.take i)).length ≤ 8192 := by
        have h1 := join_len z x (D.take i)
        have h2 := List.length_take_le' i D
        omega
      have hh : ∀ c o, H1 c = some o → c ≠ d → True := fun _ _ _ _ => True.intro
      have hn : h ≠ d := fun q => by rw [q, s1 _ _ hd] at h1'; cases h1'
      have nn : n ≠ d := fun q => by have := s1 _ _ h3; rw [q, s1 _ _ hd] at this; cases this
      have hb2 : decide (V.int (Builtin.bitAnd (bi : Int) ((maskOf z.s.items.length (Vaskya.beaters (rows z.s) x) : Nat) : Int)) = V.int 0) = !bby z.s.items.length (bxOf (rows z.s)) bi x := by
        have mb := mask_bby (x := x) bn
        rw [rows_len] at mb
        rw [← mb, band_nat]
        by_cases c : bi &&& maskOf z.s.items.length (Vaskya.beaters (rows z.s) x) = 0
        · rw [c]
          simp
        · rw [decide_eq_false (fun q => c (by have := V.int.inj q; omega)), decide_eq_true (show bi &&& _ ≠ 0 from c)]
          rfl
      have q100 := Fz.q100
      have tl := there_le Fz x
      have aq : (z.c.q : Int) - (there z.c x : Int) = ((z.c.q - there z.c x : Nat) : Int) := by omega
      refine ⟨T, _, rfl, SqT.of upd_same, rfl, _, _, rfl, _, _, rfl, rfl, ?_⟩
      refine ⟨_, rfl, _, rfl, _, _, rfl, rfl, rfl, _, rfl, ?_⟩
      rw [hb2, Bool.not_not]
      cases cb : bby z.s.items.length (bxOf (rows z.s)) bi x with
      | true =>
        have j1 : join1 z.s.items.length (bxOf (rows z.s)) (there z.c) z.c.q x (bi, wi) = [(bi, wi * z.c.q)] := by
          unfold join1
          rw [cb, if_pos rfl]
        rw [j1] at tk
        rw [tk, List.map_append] at ndi
        have new : bi ∉ (joinedOf z x (D.take i)).map (·.1) := fun q => (List.nodup_append.mp ndi).2.2 _ q _ (by simp) rfl
        refine if_t rfl ⟨_, rfl, _, rfl, h, CH, dx, _, _, rfl, r2 _ _ h1' hn, T_Held.cl, T_Held.n2, held_q _ _ _, _, _, rfl, rfl, .inr (by omega), _, rfl, _, rfl, g, _, rfl, DPut.k (k := .inl (bi : Int)) r3 (by rw [List.length_map, sizeLine_eq]; omega), ?_⟩
        refine ⟨?_, fun c o hc cd => ?_, ?_, some (.int (bi : Int)), some (.int (wi : Int)), rfl⟩
        · rw [upd_ne (Ne.symm gd)]
          exact r1
        · rw [upd_ne (ne_of_none hc hg)]
          exact r2 c o hc cd
        · rw [tk, ← put_new (v := wi * z.c.q) new]
          exact upd_same
      | false =>
        have j1 : join1 z.s.items.length (bxOf (rows z.s)) (there z.c) z.c.q x (bi, wi) = [(bi + bt z.s.items.length x, wi * there z.c x), (bi, wi * (z.c.q - there z.c x))] := by
          unfold join1
          rw [cb, if_neg Bool.false_ne_true]
        rw [j1] at tk
        rw [tk, List.map_append] at ndi
        have ndq := List.nodup_append.mp ndi
        have new1 : bi + bt z.s.items.length x ∉ (joinedOf z x (D.take i)).map (·.1) := fun q => ndq.2.2 _ q _ (by simp) rfl
        have new2 : bi ∉ (joinedOf z x (D.take i) ++ [(bi + bt z.s.items.length x, wi * there z.c x)]).map (·.1) := fun q => by
          rw [List.map_append, List.mem_append] at q
          rcases q with q | q
          · exact ndq.2.2 _ q _ (by simp) rfl
          · have q : bi = bi + bt z.s.items.length x := by simpa using q
            have : 0 < bt z.s.items.length x := Nat.pow_pos (by decide)
            omega
        have nget : atI ((ni z.c.ns).map V.int) (x : Int) = some (.int (there z.c x : Int)) := atI_nat (by
          rw [List.getElem?_map, there_get (by rw [Fz.ln]; exact hx)]
          rfl)
        have p1 : putK ((joinedOf z x (D.take i)).map ent) (.inl ((bi : Int) + ((bt z.s.items.length x : Nat) : Int))) (.int ((wi : Int) * (there z.c x : Int))) = (joinedOf z x (D.take i) ++ [(bi + bt z.s.items.length x, wi * there z.c x)]).map ent := put_new new1
        refine if_f rfl ⟨_, rfl, _, rfl, h, CH, dx, _, _, rfl, r2 _ _ h1' hn, T_Held.cl, T_Held.n3, held_n _ _ _, _, rfl, n, _, _, _, rfl, rfl, SqL.of (r2 _ _ (s1 _ _ h3) nn), nget, _, _, rfl, rfl, .inr (by omega), _, rfl, _, rfl, _, rfl, _, _, rfl, rfl, g, _, rfl,
          DPut.k (k := .inl ((bi : Int) + ((bt z.s.items.length x : Nat) : Int))) r3 (by rw [List.length_map, sizeLine_eq]; omega), ?_⟩
        rw [p1]
        have hg2 : h ≠ g := ne_of_none h1' hg
        have ng2 : n ≠ g := ne_of_none (s1 _ _ h3) hg
        refine ⟨_, rfl, _, rfl, h, CH, dx, _, _, rfl, (upd_ne hg2).trans (r2 _ _ h1' hn), T_Held.cl, T_Held.n2, held_q _ _ _, _, rfl, h, CH, dx, _, _, rfl, (upd_ne hg2).trans (r2 _ _ h1' hn), T_Held.cl, T_Held.n3, held_n _ _ _, _, rfl, n, _, _, _, rfl, rfl, SqL.of ((upd_ne ng2).trans (r2 _ _ (s1 _ _ h3) nn)), nget, _, _, rfl, rfl, _, _, rfl, rfl, .inr ?_, _, rfl, _, rfl, g, _, rfl,
          DPut.k (k := .inl (bi : Int)) upd_same ?_, ?_⟩
        · rw [aq]
          omega
        · rw [List.length_map, List.length_append, sizeLine_eq]
          show _ + 1 < _
          omega
        refine ⟨?_, fun c o hc cd => ?_, ?_, some (.int (bi : Int)), some (.int (wi : Int)), rfl⟩
        · rw [upd_ne (Ne.symm gd), upd_ne (Ne.symm gd)]
          exact r1
        · rw [upd_ne (ne_of_none hc hg), upd_ne (ne_of_none hc hg)]
          exact r2 c o hc cd
        · have p2 : putK ((joinedOf z x (D.take i) ++ [(bi + bt z.s.items.length x, wi * there z.c x)]).map ent) (.inl (bi : Int)) (.int ((wi : Int) * ((z.c.q : Int) - (there z.c x : Int)))) = (joinedOf z x (D.take (i + 1))).map ent := by
            rw [aq, tk]
            have := put_new (v := wi * (z.c.q - there z.c x)) new2
            rw [List.append_assoc] at this
            exact this
          rw [← p2]
          exact upd_same
    · rintro σ H' ⟨q1, q2, q3, u, v, rfl⟩
      refine ⟨q1, ?_⟩
      rw [List.length_map, List.take_length] at q3
      refine ⟨_, rfl, k g _ (fun c o hc => ?_) (Same.free s1 hg) ?_⟩
      · by_cases cd : c = d
        · subst cd
          rw [hd] at hc
          cases hc
          exact upd_same
        · rw [upd_ne cd]
          exact q2 c o (s1 _ _ hc) cd
      · rw [upd_ne gd]
        exact q3
end
end Off
end
section
set_option Elab.async false
set_option linter.all false
set_option maxRecDepth 100000
set_option maxHeartbeats 4000000
namespace Off
open PySem PySem.Spec PyProof.Rows L2 LamX NdefX
open VaskyBase (Frac frac plus fracRow whole)
open Vaskya (Measure Item Sheet rows)
open Vaskye (there away product unbeatenChance allChances setChance apart mustGo)
abbrev tabZ (z : Vaskye.Held) (R : List Nat) : List (Nat × Nat) := tab z.s.items.length (bxOf (rows z.s)) (there z.c) z.c.q R
theorem beats_z {z : Vaskye.Held} (Fz : Fine z) : Beats z.s.items.length (bxOf (rows z.s)) := by
  have := lc_beats Fz.lc
  rw [rows_len] at this
  exact this
/-- nothing but a table may have stood there -/
def NotOld (H : Hp) (p : Addr) : Prop := ∀ o, H p = some o → ∃ ps, o = .tbl ps
theorem notOld_ext {H H' : Hp} {p : Addr} (e : ExtN H H') (h : H' p = none) : NotOld H p := fun o ho => by
  cases o with
  | tbl ps => exact ⟨ps, rfl⟩
  | _ =>
    have := e p _ ho (fun _ q => by cases q)
    rw [h] at this
    cases this
/-- len of a list or tuple -/
def rLn (K : PySem.W.Frag) : List V → Hp → VK → Prop := fun xs H Q => ∃ p ys, xs = [.ref p] ∧ (SqL K H p ys ∨ SqT K H p ys) ∧ Q (.int ys.length) H
section
variable {P : Program} {w : World} {K : PySem.W.Frag} {mg : Str → Option Value} {base : Heap} {CH fH : Addr} {fdH : FuncData}
/-! ### set_weights -/
def spTable (T : List (Addr × Str)) (C : Addr) : Sp := fun vs H Q _ => ∃ (h : Addr) (z : Vaskye.Held), vs = [.ref h] ∧ HeldAt C H h z ∧ Fine z ∧ z.s.items.length ≤ 12 ∧ Tabs T H ∧
  ∀ p H' R, ExtN H H' → Tabs T H' → R.Perm (List.range z.s.items.length) → Good z.s.items.length (bxOf (rows z.s)) R → NotOld H p → H' p = some (.dK ((tabZ z R).map ent)) → Q (.ref p) H'
theorem sc_set_weights : FnScope ["held", "weights", "order", "item"] ["held"] (defScope s_set_weights) := ⟨rfl, rfl, rfl, by decide +kernel, rfl, by decide +kernel, by decide +kernel⟩
theorem ok_set_weights {f c Pt : Addr} {fd : FuncData} {TT : List (Addr × Str)} (F : Fun K "set_weights" "set_weights" s_set_weights f fd) (hcd : fd.code = .ref c) (hTB : TabB base mg c Pt) (hmT : (Pt, lamQ "set_weights") ∈ TT) (hu : ∀ p ∈ TT, p.1 = Pt → p.2 = lamQ "set_weights") (B : Blt mg) (T_Held : HeldTxt K mg CH fH)
    (D_item_count : Df P w K mg base CX0 1 "item_count" ["held"] (spCount CH)) (D_joined_by : Df P w K mg base CX0 4 "joined_by" ["held", "weights", "item"] (spJoin CH)) : FnOk P w K mg base CX0 8 f fd ["held"] (spTable TT CH) := by
  obtain ⟨f_item_count, fd_item_count, m_item_count, o_item_count, k_item_count, b_item_count⟩ := D_item_count
  obtain ⟨f_joined_by, fd_joined_by, m_joined_by, o_joined_by, k_joined_by, b_joined_by⟩ := D_joined_by
  refine Fun.okC F hcd sc_set_weights (fun vs H Q E h => ?_) (fun A outer s H vs Q E hr h => ⟨_, (pss_cons (ps_set (i := 1) sc_set_weights.nd rfl (.inl rfl) (pe_disp (pps_cons pe_int pe_int pps_nil) (by rfl) (by rfl) (fun z => by cases z) (by decide)))
      (pss_cons (ps_set (i := 2) sc_set_weights.nd rfl (.inl rfl) (KeyL.pe_sortedLam (T := TT) (P := Pt) (tCB (rLn K) (tCons (tOp (rIxL K) (tFld K (tVar 1) "beaters") (tVar 0)) tNil)) (defScope s_set_weights) rfl (N := ["item", "held"]) (fr := ["held"]) (js := [0]) (x := "item") (k0 := 3) rfl (hr.mono (by decide)) (nscope_by (by decide +kernel)) hTB rfl hmT hu rfl (by decide +kernel) (by decide +kernel) rfl (fun _ _ _ _ _ _ => rfl) rfl B.sorted rfl B.range (pe_call o_item_count (hr.mono (by decide)) rfl m_item_count k_item_count b_item_count .nil pass0 (pa_cons (pv 0) pa_nil)) (fun A outer s H f c' hr => (pe_callB call_len_seq (by rfl) B.len PySem.boot_len (pa_cons (pe_ix ix_list (pe_fld (pv 1) rfl) (pv 0) (fun _ _ => rfl)) pa_nil)))))
      (pss_cons (ps_for PassesOwn.never rfl (pi_list (pv 2)) (pg_name (i := 3) sc_set_weights.nd rfl (Or.inl rfl))
        (pss_one (ps_set (i := 1) sc_set_weights.nd rfl (.inl rfl) (pe_call o_joined_by (hr.mono (by decide)) rfl m_joined_by k_joined_by b_joined_by .nil pass0 (pa_cons (pv 0) (pa_cons (pv 1) (pa_cons (pv 3) pa_nil)))))))
      (pss_one (ps_ret (pv 1)))))), ?_⟩)
  · obtain ⟨h, z, rfl, _⟩ := h
    rfl
  · obtain ⟨h, z, rfl, hz, Fz, n12, hT, k⟩ := h
    intro d hd
    refine ⟨upd_same, [(.inl 0, .int 1)], rfl, by decide, ?_⟩
    have s1 : Same H (upd (upd H d (.dK [])) d (.dK (mergeK [] [(.inl 0, .int 1)]))) := fun b o hb => by
      rw [upd_ne (ne_of_none hb hd), upd_ne (ne_of_none hb hd)]
      exact hb
    have hd1 : upd (upd H d (.dK [])) d (.dK (mergeK [] [(.inl 0, .int 1)])) d = some (.dK ((tabZ z []).map ent)) := upd_same
    generalize upd (upd H d (.dK [])) d (.dK (mergeK [] [(.inl 0, .int 1)])) = H1 at s1 hd1
    have rl := rows_len z.s
    have it := Fz.it
    obtain ⟨dx, b, n, h1, hR, h3⟩ := id hz
    obtain ⟨as, hb, hl, hr2⟩ := id hR
    refine ⟨_, rfl, h, z, rfl, hz.same s1, _, rfl, z.s.items.length, rfl, by omega, hT.ext s1, fun H2 e2 T2 => ?_⟩
    have nt : ∀ {b : Addr} {o : HO}, H b = some o → (∀ ps, o ≠ .tbl ps) → H2 b = some o := fun {b o} hb no => e2 _ _ (s1 _ _ hb) no
    have hz2 : HeldAt CH H2 h z := by
      refine ⟨dx, b, n, nt h1 (fun _ q => by cases q), ⟨as, nt hb (fun _ q => by cases q), hl, fun i row e => ?_⟩, nt h3 (fun _ q => by cases q)⟩
      obtain ⟨a, x1, x2, x3⟩ := hr2 i row e
      exact ⟨a, x1, x2, nt x3 (fun _ q => by cases q)⟩
    refine ⟨fun i => ((Vaskya.beaters (rows z.s) i).length : Int), fun i hi H3 s3 => ?_, fun H3 p s3 hp => ?_⟩
    · obtain ⟨a, ha, na, hrow⟩ := hr2 i _ (allBeaters_get (by rw [rl]; exact hi))
      have hat : (as.map V.ref)[i]? = some (.ref a) := by rw [List.getElem?_map, ha]; rfl
      refine ⟨_, rfl, h, CH, dx, _, _, rfl, s3 _ _ (nt h1 (fun _ q => by cases q)), T_Held.cl, T_Held.n1, held_b _ _ _, _, rfl, b, _, _, _, rfl, rfl, SqL.of (s3 _ _ (nt hb (fun _ q => by cases q))), atI_nat hat, a, _, rfl, .inl (SqL.of (s3 _ _ (nt hrow (fun _ q => by cases q)))), ?_, fun b o q => q⟩
      rw [List.length_map, ni_len]
    · obtain ⟨ord, ho⟩ : ∃ ord, ord = (List.range z.s.items.length).mergeSort (KeyL.byKey fun i => ((Vaskya.beaters (rows z.s) i).length : Int)) := ⟨_, rfl⟩
      have keyc : ∀ i, ((Vaskya.beaters (rows z.s) i).length : Int) = (cnt z.s.items.length (bxOf (rows z.s)) i : Int) := fun i => by
        unfold Vaskya.beaters cnt
        rw [rl]
        rfl
      have good := merge_good (beats_z Fz) keyc ho
      have pm : ord.Perm (List.range z.s.items.length) := by rw [ho]; exact List.mergeSort_perm _ _
      have ol : ord.length = z.s.items.length := by rw [pm.length_eq, List.length_range]
      rw [← ho]
      have hp2 : H2 p = none := by
        cases q : H2 p with
        | none => rfl
        | some o => rw [s3 _ _ q] at hp; cases hp
      have s4 : Same H3 (upd H3 p (.lst (KeyL.natV ord))) := same_new hp
      have s24 : Same H2 (upd H3 p (.lst (KeyL.natV ord))) := Same.trans s3 s4
      have hord : upd H3 p (.lst (KeyL.natV ord)) p = some (.lst ((ni ord).map V.int)) := by rw [upd_same, natV_ni]
      generalize upd H3 p (.lst (KeyL.natV ord)) = H4 at s4 s24 hord
      have hd4 : H4 d = some (.dK ((tabZ z []).map ent)) := s24 _ _ (e2 _ _ hd1 (fun _ q => by cases q))
      refine ⟨_, rfl, p, rfl, ⟨_, SqL.of hord⟩, ?_⟩
      refine for_list (K := K) (a := p) (xs := (ni ord).map V.int)
        (fun j σ H' => Same H4 H' ∧ ∃ (wj : Addr) (u : Option V), NotOld H wj ∧ H' wj = some (.dK ((tabZ z (ord.take j).reverse).map ent)) ∧ σ = [some (.ref h), some (.ref wj), some (.ref p), u])
        ⟨Same.refl H4, d, none, (fun o q => by rw [hd] at q; cases q), hd4, rfl⟩ (fun _ _ _ _ h => h.1.seq (SqL.of hord)) ?_ ?_
      · rintro j xv σ H' hx ⟨s5, wj, u, _, hw, rfl⟩
        unfold ni at hx
        rw [List.getElem?_map, List.getElem?_map] at hx
        cases hj : ord[j]? with
        | none =>
          rw [hj] at hx
          cases hx
        | some x =>
          rw [hj] at hx
          cases hx
          have tk : (ord.take (j + 1)).reverse = x :: (ord.take j).reverse := by
            rw [List.take_succ, hj, List.reverse_append]
            rfl
          have g0 := good j
          have g1 := good (j + 1)
          rw [tk] at g1
          have T0 := tab_ok (p := there z.c) (q := z.c.q) g0
          have T1 := tab_ok (p := there z.c) (q := z.c.q) g1
          have tl : (tabZ z (ord.take j).reverse).length ≤ 4096 := Nat.le_trans (tab_len g0) (Nat.pow_le_pow_right (n := 2) (by decide) n12)
          refine ⟨_, rfl, _, rfl, _, rfl, h, wj, z, tabZ z (ord.take j).reverse, x, rfl, (hz2.same s24).same s5, Fz, n12, g1.1, hw, fun e he => (T0.sub e he).1.1, tl, T1.nd, fun p2 H5 s6 p0 h6 => ⟨Same.trans s5 s6, p2, some (.int (x : Int)), notOld_ext ((ext_same s1).trans (e2.trans (ext_same (Same.trans s24 s5)))) p0, ?_, rfl⟩⟩
          rw [tk]
          exact h6
      · rintro σ H' ⟨s5, wj, u, no, hw, rfl⟩
        rw [List.length_map, ni_len, List.take_length] at hw
        have g := good ord.length
        rw [List.take_length] at g
        refine ⟨_, rfl, k wj H' ord.reverse ?_ ?_ ((List.reverse_perm _).trans pm) g no hw⟩
        · exact (ext_same s1).trans (e2.trans (ext_same (Same.trans s24 s5)))
        · exact (T2.ext s24).ext s5
end
end Off
end
section
set_option Elab.async false
set_option linter.all false
set_option maxRecDepth 100000
set_option maxHeartbeats 4000000
namespace Off
open PySem PySem.Spec PyProof.Rows L2 LamX NdefX
open VaskyBase (Frac frac plus fracRow whole)
open Vaskya (Measure Item Sheet rows)
open Vaskye (there away product unbeatenChance allChances setChance apart mustGo likeliest countChances addTo)
section
variable {P : Program} {w : World} {K : PySem.W.Frag} {mg : Str → Option Value} {base : Heap} {CH fH : Addr} {fdH : FuncData} {TT : List (Addr × Str)}
/-! ### likeliest_set -/
def spLikeSet (T : List (Addr × Str)) (C : Addr) : Sp := fun vs H Q _ => ∃ (h : Addr) (z : Vaskye.Held), vs = [.ref h] ∧ HeldAt C H h z ∧ Fine z ∧ z.s.items.length ≤ 12 ∧ Tabs T H ∧
  ∀ p H' b, ExtN H H' → Tabs T H' → likeliest (rows z.s) z.c = its z.s.items.length b → H' p = some (.lst ((ni (its z.s.items.length b)).map V.int)) → Q (.ref p) H'
theorem held_ext {H H2 : Hp} {h : Addr} {z : Vaskye.Held} (e2 : ExtN H H2) (hz : HeldAt CH H h z) : HeldAt CH H2 h z := by
  obtain ⟨dx, b, n, h1, ⟨as, hb, hl, hr2⟩, h3⟩ := hz
  refine ⟨dx, b, n, e2 _ _ h1 (fun _ q => by cases q), ⟨as, e2 _ _ hb (fun _ q => by cases q), hl, fun i row e => ?_⟩, e2 _ _ h3 (fun _ q => by cases q)⟩
  obtain ⟨a, x1, x2, x3⟩ := hr2 i row e
  exact ⟨a, x1, x2, e2 _ _ x3 (fun _ q => by cases q)⟩
theorem sc_likeliest_set : FnScope ["held", "weights", "most", "bits", "weight"] ["held"] (defScope s_likeliest_set) := ⟨rfl, rfl, rfl, by decide +kernel, rfl, by decide +kernel, by decide +kernel⟩
theorem ok_likeliest_set {f : Addr} {fd : FuncData} (F : Fun K "likeliest_set" "likeliest_set" s_likeliest_set f fd) (B : Blt mg) (D_set_weights : Df P w K mg base CX0 8 "set_weights" ["held"] (spTable TT CH))
    (D_items_of : Df P w K mg base CX0 3 "items_of" ["held", "bits"] (spItemsOf CH)) : FnOk P w K mg base CX0 9 f fd ["held"] (spLikeSet TT CH) := by
  obtain ⟨f_set_weights, fd_set_weights, m_set_weights, o_set_weights, k_set_weights, b_set_weights⟩ := D_set_weights
  obtain ⟨f_items_of, fd_items_of, m_items_of, o_items_of, k_items_of, b_items_of⟩ := D_items_of
  refine F.ok sc_likeliest_set (fun vs H Q E h => ?_) (fun cdv A outer s H vs Q E hr h => ⟨_, (pss_cons (ps_set (i := 1) sc_likeliest_set.nd rfl (.inl rfl) (pe_call o_set_weights (hr.mono (by decide)) rfl m_set_weights k_set_weights b_set_weights .nil pass0 (pa_cons (pv 0) pa_nil)))
      (pss_cons (ps_set (i := 2) sc_likeliest_set.nd rfl (.inr rfl) (KeyL.pe_maxVals rfl rfl B.max (pv 1)))
      (pss_one (ps_ret (pe_call o_items_of (hr.mono (by decide)) rfl m_items_of k_items_of b_items_of .nil pass0 (pa_cons (pv 0) (pa_cons (pe_callB (cr_max rfl) (by rfl) B.max (by decide +kernel) (pa_cons (pe_lock (pe_lc (own := [("bits", 3), ("weight", 4)]) (g := gTup _ 2 (gCons (gName 3) (gCons (gName 4) gNil))) rfl sc_likeliest_set.nd (pi_items (pv 1)) (blkOk_by (N := ["held", "weights", "most", "bits", "weight"]) (sc := defScope s_likeliest_set) (by decide +kernel)) (fun _ _ _ _ _ => (pg_tup rfl (pgs_cons (pg_name (i := 3) sc_likeliest_set.nd rfl (Or.inl rfl)) (pgs_cons (pg_name (i := 4) sc_likeliest_set.nd rfl (Or.inl rfl)) pgs_nil)))) (fun _ _ _ _ _ => pts_one (pt_cmpR op_eq (pv 4) (pv 2) (nomark _))) (fun _ _ _ _ _ => (pv 3)))) pa_nil)) pa_nil))))))), ?_⟩)
  · obtain ⟨h, z, rfl, _⟩ := h
    rfl
  · obtain ⟨h, z, rfl, hz, Fz, n12, hT, k⟩ := h
    have rl := rows_len z.s
    refine ⟨_, rfl, h, z, rfl, hz, Fz, n12, hT, fun d H1 R e1 T1 pm gd _ hd => ?_⟩
    have pm' : R.Perm (List.range (rows z.s).length) := by rw [rl]; exact pm
    have gd' : Good (rows z.s).length (bxOf (rows z.s)) R := by rw [rl]; exact gd
    have tz : tabOf (rows z.s) z.c R = tabZ z R := by
      unfold tabOf tabZ
      rw [rl]
    have tot0 : 0 < ((tabZ z R).map (·.2)).sum := by
      rw [← tz, tab_total Fz.lc R pm' gd']
      exact q_pos Fz.lc _
    have ne : 0 < (tabZ z R).length := by
      cases e : tabZ z R with
      | nil => rw [e] at tot0; exact absurd tot0 (Nat.lt_irrefl 0)
      | cons a l => exact Nat.succ_pos _
    have tl : (tabZ z R).length ≤ 4096 := Nat.le_trans (tab_len gd) (Nat.pow_le_pow_right (n := 2) (by decide) n12)
    refine ⟨_, rfl, d, ni ((tabZ z R).map (·.2)), rfl, ⟨_, hd, ?_⟩, by rw [ni_len, List.length_map]; exact ne, fun mi hmi hmax => ?_⟩
    · unfold ni
      rw [List.map_map, List.map_map, List.map_map]
      rfl
    obtain ⟨m, hm, rfl⟩ := List.mem_map.mp hmi
    have hmx : ∀ x ∈ (tabZ z R).map (·.2), x ≤ m := fun x hx => by
      have := hmax (x : Int) (List.mem_map.mpr ⟨x, hx, rfl⟩)
      omega
    refine ⟨_, rfl, d, .dK ((tabZ z R).map ent), hd, trivial, fun od => ?_⟩
    refine ⟨_, rfl, d, od, (tabZ z R).map ent, rfl, upd_same, fun D hD => lc_it (walk_items (d := d) (o := od) (kvs := (tabZ z R).map ent))
      (fun i H' => H' d = some (.frz od (.dK ((tabZ z R).map ent))) ∧ (∀ c o, H1 c = some o → c ≠ d → H' c = some o) ∧ H' D = some (.lst ((ni ((((tabZ z R).take i).filter fun e => e.2 == m).map (·.1))).map V.int)))
      ⟨?_, ?_, upd_same⟩ (fun i H' _ h => h.1) ?_ ?_⟩
    · rw [upd_ne (fun q => by rw [← q, upd_same] at hD; cases hD)]
      exact upd_same
    · intro c o hc cd
      have : upd H1 d (.frz od (.dK ((tabZ z R).map ent))) c = some o := by
        rw [upd_ne cd]
        exact hc
      rw [upd_ne (ne_of_none this hD)]
      exact this
    · rintro i xv H' H2 hi ⟨q1, q2, q3⟩ ⟨T, vx, vy, rfl, hTn, rfl, hx2, hy2⟩
      rw [List.length_map] at hi
      obtain ⟨⟨bi, wi⟩, he⟩ : ∃ e, (tabZ z R)[i]? = some e := ⟨(tabZ z R)[i], List.getElem?_eq_getElem hi⟩
      dsimp only at hx2 hy2
      rw [List.getElem?_map, he] at hx2 hy2
      cases hx2
      cases hy2
      have TD : T ≠ D := fun q => by rw [q, q3] at hTn; cases hTn
      have dT : T ≠ d := fun q => by rw [q, q1] at hTn; cases hTn
      have Dd : D ≠ d := fun q => by rw [q, q1] at q3; cases q3
      have r1 : upd H' T (.tup [.int (bi : Int), .int (wi : Int)]) d = some (.frz od (.dK ((tabZ z R).map ent))) := by rw [upd_ne (Ne.symm dT)]; exact q1
      have r2 : ∀ c o, H1 c = some o → c ≠ d → upd H' T (.tup [.int (bi : Int), .int (wi : Int)]) c = some o := fun c o hc cd => by
        have := q2 c o hc cd
        rw [upd_ne (ne_of_none this hTn)]
        exact this
      have r3 := (upd_ne (o := HO.tup [.int (bi : Int), .int (wi : Int)]) (Ne.symm TD)).trans q3
      have tk : ((tabZ z R).take (i + 1)).filter (fun e => e.2 == m) = ((tabZ z R).take i).filter (fun e => e.2 == m) ++ if (wi == m) = true then [(bi, wi)] else [] := by
        rw [List.take_succ, he, List.filter_append]
        show _ ++ List.filter _ [(bi, wi)] = _
        rw [List.filter_cons, List.filter_nil]
      have ec : decide (V.int (wi : Int) = V.int (m : Int)) = (wi == m) := by
        rw [Bool.eq_iff_iff, decide_eq_true_iff, beq_iff_eq]
        exact ⟨fun q => by have := V.int.inj q; omega, fun q => by rw [q]⟩
      refine ⟨T, _, rfl, SqT.of upd_same, rfl, _, _, rfl, _, _, rfl, rfl, rfl, ?_⟩
      refine ⟨_, rfl, _, rfl, rfl, _, rfl, ite_test ec (fun cc => ?_) fun cc => ?_⟩
      · refine ⟨_, rfl, _, r3, ?_, ?_, fun c o hc cd => ?_, ?_⟩
        · have h1 := List.length_filter_le (fun e => e.2 == m) ((tabZ z R).take i)
          have h2 := List.length_take_le' i (tabZ z R)
          rw [List.length_map, ni_len, List.length_map, sizeLine_eq]
          omega
        · rw [upd_ne (Ne.symm Dd)]
          exact r1
        · rw [upd_ne (fun q => by
            rw [q] at hc
            have : upd H1 d (.frz od (.dK ((tabZ z R).map ent))) D = some o := (upd_ne Dd).trans hc
            rw [hD] at this
            cases this)]
          exact r2 c o hc cd
        · rw [tk, cc, if_pos rfl]
          unfold ni
          rw [List.map_append, List.map_append, List.map_append]
          exact upd_same
      · refine ⟨r1, r2, ?_⟩
        rw [tk, cc, if_neg Bool.false_ne_true, List.append_nil]
        exact r3
    · rintro H' ⟨q1, q2, q3⟩
      rw [List.length_map, List.take_length] at q3
      have Dd : D ≠ d := fun q => by rw [q, q1] at q3; cases q3
      refine ⟨q1, D, _, rfl, SqL.of ((upd_ne Dd).trans q3), ?_, fun bi hbi hbmax => ?_⟩
      · obtain ⟨e, he, e2⟩ := List.mem_map.mp hm
        rw [ni_len, List.length_map]
        exact List.length_pos_of_mem (List.mem_filter.mpr ⟨he, by simpa using e2⟩)
      obtain ⟨b, hb, rfl⟩ := List.mem_map.mp hbi
      have s1 : Same H1 (upd H' d (.dK ((tabZ z R).map ent))) := fun c o hc => by
        by_cases cd : c = d
        · subst cd
          rw [hd] at hc
          cases hc
          exact upd_same
        · rw [upd_ne cd]
          exact q2 c o hc cd
      refine ⟨h, z, b, rfl, (held_ext e1 hz).same s1, Fz, fun p H2 s2 p0 hp => k p H2 b (e1.trans (ext_same (Same.trans s1 s2))) ((T1.ext s1).ext s2) ?_ hp⟩
      have := likeliest_tab (m := m) (B := b) Fz.lc R pm' gd' (by rw [tz]; exact hm) (by rw [tz]; exact hmx) (by rw [tz]; exact hb) (by
        rw [tz]
        intro x hx
        have := hbmax (x : Int) (List.mem_map.mpr ⟨x, hx, rfl⟩)
        omega)
      rw [rl] at this
      exact this
theorem tabs_kept {T : List (Addr × Str)} {H H' : Hp} (t : Tabs T H) (e : ∀ c o, H c = some o → (∀ kvs, o ≠ .dK kvs) → (∀ xs, o ≠ .lst xs) → H' c = some o) : Tabs T H' := fun p hp => by
  obtain ⟨ps, h1, h2, h3⟩ := t p hp
  refine ⟨ps, e _ _ h1 (fun _ q => by cases q) (fun _ q => by cases q), h2, fun pos cv hc => ?_⟩
  obtain ⟨c, e1, e2⟩ := h3 pos cv hc
  exact ⟨c, e1, e _ _ e2 (fun _ q => by unfold CodeO at q; cases q) (fun _ q => by unfold CodeO at q; cases q)⟩
/-- the sums by the sets' sizes, so far -/
def sumsZ (z : Vaskye.Held) (L : List (Nat × Nat)) : List Nat := (L.map fun e => ((its z.s.items.length e.1).length, e.2)).foldl (fun r e => addTo e.1 e.2 r) (List.replicate (z.s.items.length + 1) 0)
theorem sumsZ_len (z : Vaskye.Held) (L : List (Nat × Nat)) : (sumsZ z L).length = z.s.items.length + 1 := by
  unfold sumsZ
  rw [fold_len, List.length_replicate]
theorem sumsZ_snoc (z : Vaskye.Held) (L : List (Nat × Nat)) (b x : Nat) : sumsZ z (L ++ [(b, x)]) = (sumsZ z L).set (its z.s.items.length b).length ((sumsZ z L).getD (its z.s.items.length b).length 0 + x) := by
  unfold sumsZ
  rw [List.map_append, List.foldl_append]
  rfl
theorem its_len (n b : Nat) : (its n b).length ≤ n := by
  have := List.length_filter_le (has n b) (List.range n)
  rw [List.length_range] at this
  exact this
/-! ### count_chances -/
def spCounts (T : List (Addr × Str)) (C : Addr) : Sp := fun vs H Q _ => ∃ (h : Addr) (z : Vaskye.Held), vs = [.ref h] ∧ HeldAt C H h z ∧ Fine z ∧ z.s.items.length ≤ 12 ∧ Tabs T H ∧
  ∀ p H', ExtN H H' → Tabs T H' → RowsAt H' p ((countChances (rows z.s) z.c).map fracRow) → Q (.ref p) H'
theorem sc_count_chances : FnScope ["held", "sums", "bits", "weight", "number"] ["held"] (defScope s_count_chances) := ⟨rfl, rfl, rfl, by decide +kernel, rfl, by decide +kernel, by decide +kernel⟩
theorem ok_count_chances {f : Addr} {fd : FuncData} (F : Fun K "count_chances" "count_chances" s_count_chances f fd) (B : Blt mg) (D_set_weights : Df P w K mg base CX0 8 "set_weights" ["held"] (spTable TT CH))
    (D_items_of : Df P w K mg base CX0 3 "items_of" ["held", "bits"] (spItemsOf CH)) (D_item_count : Df P w K mg base CX0 1 "item_count" ["held"] (spCount CH)) (D_chance_of : Df P w K mg base CX0 3 "chance_of" ["held", "weight"] (spChanceOf CH)) :
    FnOk P w K mg base CX0 9 f fd ["held"] (spCounts TT CH) := by
  obtain ⟨f_set_weights, fd_set_weights, m_set_weights, o_set_weights, k_set_weights, b_set_weights⟩ := D_set_weights
  obtain ⟨f_items_of, fd_items_of, m_items_of, o_items_of, k_items_of, b_items_of⟩ := D_items_of
  obtain ⟨f_item_count, fd_item_count, m_item_count, o_item_count, k_item_count, b_item_count⟩ := D_item_count
  obtain ⟨f_chance_of, fd_chance_of, m_chance_of, o_chance_of, k_chance_of, b_chance_of⟩ := D_chance_of
  refine F.ok sc_count_chances (fun vs H Q E h => ?_) (fun cdv A outer s H vs Q E hr h => ⟨_, (pss_cons (ps_setLc (i := 1) (own := [("number", 4)]) (g := gName 4) (tt := tYes) rfl sc_count_chances.nd rfl rfl (sw_true rfl rfl rfl (by decide +kernel)) (pi_range1 (by rfl) B.range (pa_cons (pe_op op_add (pe_call o_item_count (hr.mono (by decide)) rfl m_item_count k_item_count b_item_count .nil pass0 (pa_cons (pv 0) pa_nil)) pe_int) pa_nil)) (blkOk_by (N := ["held", "sums", "bits", "weight", "number"]) (sc := defScope s_count_chances) (by decide +kernel)) (fun _ _ _ _ _ => (pg_name (i := 4) sc_count_chances.nd rfl (Or.inl rfl))) (fun _ _ _ _ _ => pts_nil) (fun _ _ _ _ _ => pe_int))
      (pss_cons (ps_for PassesOwn.never rfl (pi_items (KeyL.pe_frz (pe_call o_set_weights (hr.mono (by decide)) rfl m_set_weights k_set_weights b_set_weights .nil pass0 (pa_cons (pv 0) pa_nil)))) (pg_tup rfl (pgs_cons (pg_name (i := 2) sc_count_chances.nd rfl (Or.inl rfl)) (pgs_cons (pg_name (i := 3) sc_count_chances.nd rfl (Or.inl rfl)) pgs_nil)))
        (pss_one (ps_augS (pv 1) (pe_callB call_len_seq (by rfl) B.len PySem.boot_len (pa_cons (pe_call o_items_of (hr.mono (by decide)) rfl m_items_of k_items_of b_items_of .nil pass0 (pa_cons (pv 0) (pa_cons (pv 2) pa_nil))) pa_nil)) KeyL.get_list (pv 3) ip_add set_list)))
      (pss_one (ps_ret (pe_lc (own := [("weight", 3)]) (g := gName 3) (tt := tYes) rfl sc_count_chances.nd (pi_list (pv 1)) (blkOk_by (N := ["held", "sums", "bits", "weight", "number"]) (sc := defScope s_count_chances) (by decide +kernel)) (fun _ _ _ _ _ => (pg_name (i := 3) sc_count_chances.nd rfl (Or.inl rfl))) (fun _ _ _ _ _ => pts_nil) (fun _ _ _ _ _ => (pe_call o_chance_of (hr.mono (by decide)) rfl m_chance_of k_chance_of b_chance_of .nil pass0 (pa_cons (pv 0) (pa_cons (pv 3) pa_nil))))))))), ?_⟩)
  · obtain ⟨h, z, rfl, _⟩ := h
    rfl
  · obtain ⟨h, z, rfl, hz, Fz, n12, hT, k⟩ := h
    have rl := rows_len z.s
    refine ⟨_, rfl, h, z, rfl, hz, _, _, rfl, rfl, _, rfl, by omega, by omega, fun D hD => ?_⟩
    refine lc_range (lo := 0) (n := z.s.items.length + 1) (fun i H' => Same H H' ∧ H' D = some (.lst ((ni (List.replicate i 0)).map V.int))) ⟨same_new hD, upd_same⟩ ?_ ?_
    · rintro i H' hi ⟨s1, h1⟩
      refine ⟨rfl, _, h1, ?_, fun c o hc => by rw [upd_ne (ne_of_none hc hD)]; exact s1 _ _ hc, ?_⟩
      · rw [List.length_map, ni_len, List.length_replicate, sizeLine_eq]
        omega
      · rw [List.replicate_succ']
        unfold ni
        rw [List.map_append, List.map_append]
        exact upd_same
    rintro H1 ⟨s1, h1⟩
    refine ⟨_, rfl, h, z, rfl, hz.same s1, Fz, n12, hT.ext s1, fun d H2 R e1 T1 pm gd no hd => ?_⟩
    have pm' : R.Perm (List.range (rows z.s).length) := by rw [rl]; exact pm
    have gd' : Good (rows z.s).length (bxOf (rows z.s)) R := by rw [rl]; exact gd
    have tz : tabOf (rows z.s) z.c R = tabZ z R := by
      unfold tabOf tabZ
      rw [rl]
    have tl : (tabZ z R).length ≤ 4096 := Nat.le_trans (tab_len gd) (Nat.pow_le_pow_right (n := 2) (by decide) n12)
    have hD2 : H2 D = some (.lst ((ni (List.replicate (z.s.items.length + 1) 0)).map V.int)) := e1 _ _ h1 (fun _ q => by cases q)
    have Dd : D ≠ d := fun q => by rw [q, hd] at hD2; cases hD2
    refine ⟨d, .dK ((tabZ z R).map ent), rfl, hd, trivial, fun od => ⟨d, od, (tabZ z R).map ent, rfl, upd_same, ?_⟩⟩
    have ext : ∀ {H' : Hp}, (∀ c o, H2 c = some o → c ≠ d → c ≠ D → H' c = some o) → ExtN H H' := fun {H'} q2 c o hc nt => by
      refine q2 c o (e1 _ _ (s1 _ _ hc) nt) (fun q => ?_) fun q => ?_
      · rw [q] at hc
        obtain ⟨ps, e⟩ := no o (s1 _ _ hc)
        exact nt ps e
      · rw [q, hD] at hc
        cases hc
    refine for_it (walk_items (d := d) (o := od) (kvs := (tabZ z R).map ent))
      (fun i σ H' => H' d = some (.frz od (.dK ((tabZ z R).map ent))) ∧ (∀ c o, H2 c = some o → c ≠ d → c ≠ D → H' c = some o) ∧ H' D = some (.lst ((ni (sumsZ z ((tabZ z R).take i))).map V.int)) ∧
        ∃ u v r : Option V, σ = [some (.ref h), some (.ref D), u, v, r])
      ⟨upd_same, (fun c o hc cd _ => by rw [upd_ne cd]; exact hc), (by rw [upd_ne Dd]; exact hD2), none, none, none, rfl⟩ (fun i σ H' _ h => h.1) ?_ ?_
    · rintro i xv σ H' H3 hi ⟨q1, q2, q3, u, v, r, rfl⟩ ⟨T, vx, vy, rfl, hTn, rfl, hx2, hy2⟩
      rw [List.length_map] at hi
      obtain ⟨⟨bi, wi⟩, he⟩ : ∃ e, (tabZ z R)[i]? = some e := ⟨(tabZ z R)[i], List.getElem?_eq_getElem hi⟩
      dsimp only at hx2 hy2
      rw [List.getElem?_map, he] at hx2 hy2
      cases hx2
      cases hy2
      have TD : T ≠ D := fun q => by rw [q, q3] at hTn; cases hTn
      have dT : T ≠ d := fun q => by rw [q, q1] at hTn; cases hTn
      have r1 : upd H' T (.tup [.int (bi : Int), .int (wi : Int)]) d = some (.frz od (.dK ((tabZ z R).map ent))) := by rw [upd_ne (Ne.symm dT)]; exact q1
      have r2 : ∀ c o, H2 c = some o → c ≠ d → c ≠ D → upd H' T (.tup [.int (bi : Int), .int (wi : Int)]) c = some o := fun c o hc cd cD => by
        have := q2 c o hc cd cD
        rw [upd_ne (ne_of_none this hTn)]
        exact this
      have r3 := (upd_ne (o := HO.tup [.int (bi : Int), .int (wi : Int)]) (Ne.symm TD)).trans q3
      have tk : (tabZ z R).take (i + 1) = (tabZ z R).take i ++ [(bi, wi)] := by
        rw [List.take_succ, he]
        rfl
      have il := its_len z.s.items.length bi
      have sl := sumsZ_len z ((tabZ z R).take i)
      obtain ⟨x0, hx0⟩ : ∃ x0, (sumsZ z ((tabZ z R).take i))[(its z.s.items.length bi).length]? = some x0 := ⟨_, List.getElem?_eq_getElem (by omega)⟩
      refine ⟨T, _, rfl, SqT.of upd_same, rfl, _, _, rfl, _, _, rfl, rfl, ?_⟩
      refine ⟨_, rfl, _, rfl, _, rfl, h, z, bi, rfl, held_ext (ext r2) hz, Fz, fun p H4 s4 p0 hp => ⟨p, _, rfl, .inl (SqL.of hp), ?_⟩⟩
      rw [List.length_map, ni_len]
      have D4 := s4 _ _ r3
      have g0 : ((ni (sumsZ z ((tabZ z R).take i))).map V.int)[(its z.s.items.length bi).length]? = some (.int (x0 : Int)) := by
        unfold ni
        rw [List.getElem?_map, List.getElem?_map, hx0]
        rfl
      have hix : ixN ((ni (sumsZ z ((tabZ z R).take i))).map V.int).length ((its z.s.items.length bi).length : Int) = some (its z.s.items.length bi).length := by
        unfold ixN
        rw [if_pos (Int.natCast_nonneg _), if_pos (by rw [List.length_map, ni_len, sl]; omega)]
        rfl
      refine ⟨D, _, _, _, rfl, rfl, D4, g0, _, rfl, _, _, rfl, rfl, D, _, _, _, rfl, rfl, D4, hix, ?_⟩
      refine ⟨?_, fun c o hc cd cD => ?_, ?_, some (.int (bi : Int)), some (.int (wi : Int)), r, rfl⟩
      · rw [upd_ne (Ne.symm Dd)]
        exact s4 _ _ r1
      · rw [upd_ne cD]
        exact s4 _ _ (r2 c o hc cd cD)
      · rw [upd_same, tk, sumsZ_snoc]
        unfold ni
        rw [List.map_set, List.map_set, List.getD_eq_getElem?_getD, hx0]
        rfl
    · rintro σ H' ⟨q1, q2, q3, u, v, r, rfl⟩
      rw [List.length_map, List.take_length] at q3
      have cw : countChances (rows z.s) z.c = (sumsZ z (tabZ z R)).map fun x : Nat => frW z x := by
        rw [counts_tab Fz.lc R pm' gd', rl]
        unfold sumsOf sumsZ
        rw [tz, rl]
      have e2 : ExtN H H' := ext q2
      have hzH : HeldAt CH H' h z := held_ext e2 hz
      have T2 : Tabs TT H' := tabs_kept T1 fun c o hc n1 n2 => q2 c o hc (fun q => by rw [q, hd] at hc; cases hc; exact n1 _ rfl) fun q => by rw [q, hD2] at hc; cases hc; exact n2 _ rfl
      refine ⟨_, rfl, D, rfl, ⟨_, SqL.of q3⟩, fun L hL => ?_⟩
      refine lc_list (K := K) (a := D) (xs := (ni (sumsZ z (tabZ z R))).map V.int)
        (fun i H3 => Same H' H3 ∧ RowsAt H3 L ((((sumsZ z (tabZ z R)).take i).map fun x : Nat => frW z x).map fracRow)) ⟨same_new hL, ⟨[], upd_same, rfl, fun i row e => by cases e⟩⟩ (fun i H3 _ h => h.1.seq (SqL.of q3)) ?_ ?_
      · rintro i x H3 hx ⟨s2, R1⟩
        unfold ni at hx
        rw [List.getElem?_map, List.getElem?_map] at hx
        cases hj : (sumsZ z (tabZ z R))[i]? with
        | none =>
          rw [hj] at hx
          cases hx
        | some m =>
          rw [hj] at hx
          cases hx
          refine ⟨rfl, _, rfl, _, rfl, h, z, m, rfl, hzH.same s2, Fz, fun p H4 s3 p0 fr => ?_⟩
          obtain ⟨as, hD4, hl4, R2⟩ := frs_snoc R1 s3 p0 fr
          refine ⟨as, hD4, ?_, fun b o h => by rw [upd_ne (ne_of_none h hL)]; exact s3 _ _ (s2 _ _ h), ?_⟩
          · rw [hl4, List.length_map, List.length_take, sumsZ_len, sizeLine_eq]
            omega
          · rw [← ok_take_map (f := fun x : Nat => frW z x) hj]
            exact R2
      · rintro H3 ⟨s2, R1⟩
        rw [List.length_map, ni_len, List.take_length] at R1
        refine k L H3 (e2.trans (ext_same s2)) (T2.ext s2) ?_
        rw [cw]
        exact R1
end
end Off
end
section
set_option Elab.async false
set_option linter.all false
set_option maxRecDepth 100000
set_option maxHeartbeats 4000000
namespace Off
open PySem PySem.Spec PyProof.Rows L2 LamX NdefX
open VaskyBase (Frac frac plus fracRow whole)
open Vaskya (Measure Item Sheet rows)
open Vaskye (there away product unbeatenChance allChances setChance apart mustGo likeliest countChances addTo)
/-! ### calls -/
def fCall (n : Int) (s r : Addr) (e : Int) : List (Str × V) := [("number", .int n), ("singles", .ref s), ("row", .ref r), ("end", .int e)]
theorem call_n (n : Int) (s r : Addr) (e : Int) : (fCall n s r e).lookup ("number" : Str) = some (.int n) := lk_here
theorem call_s (n : Int) (s r : Addr) (e : Int) : (fCall n s r e).lookup ("singles" : Str) = some (.ref s) := (lk_past (by decide +kernel)).trans lk_here
theorem call_r (n : Int) (s r : Addr) (e : Int) : (fCall n s r e).lookup ("row" : Str) = some (.ref r) := (lk_past (by decide +kernel)).trans ((lk_past (by decide +kernel)).trans lk_here)
theorem call_e (n : Int) (s r : Addr) (e : Int) : (fCall n s r e).lookup ("end" : Str) = some (.int e) := (lk_past (by decide +kernel)).trans ((lk_past (by decide +kernel)).trans ((lk_past (by decide +kernel)).trans lk_here))
structure CallTxt (K : PySem.W.Frag) (mg : Str → Option Value) (C fI : Addr) : Prop where
  cl : Cls K C
  n1 : NoAttr K C "number"
  n2 : NoAttr K C "singles"
  n3 : NoAttr K C "row"
  n4 : NoAttr K C "end"
  g : mg "Call" = some (.ref C)
  mkC : Mk K C fI
def CallAt (C : Addr) (H : Hp) (c : Addr) (n : Int) (xs row : List Int) (e : Int) : Prop := ∃ dx s r : Addr, H c = some (.ins C dx (fCall n s r e)) ∧ H s = some (.lst (xs.map V.int)) ∧ H r = some (.lst (row.map V.int))
def rws (n : Int) (row : List Int) : List (List Int) := if n = 0 ∨ n = 1 ∨ n = 5 then [row] else []
/-- all but the tables stays, what stands at h may change -/
def ExtB (h : Addr) (H H' : Hp) : Prop := ∀ b o, H b = some o → b ≠ h → (∀ ps, o ≠ .tbl ps) → H' b = some o
/-- no list of what is held is this one -/
def Far (CH : Addr) (H : Hp) (h t : Addr) : Prop := ∀ dh b q n, H h = some (.ins CH dh (fHeld b q n)) → b ≠ t ∧ n ≠ t ∧ ∀ ys, H b = some (.lst ys) → V.ref t ∉ ys
theorem far_ext {CH : Addr} {H H' : Hp} {h : Addr} {z : Vaskye.Held} (hz : HeldAt CH H h z) (e : ExtN H H') (t : Addr) (xs : List V) (_ : H t = some (.lst xs)) (f : Far CH H h t) : Far CH H' h t := fun dh b q n h2 => by
  obtain ⟨dh0, b0, n0, h1, ⟨as, hb, _⟩, _⟩ := hz
  have h3 := e _ _ h1 (fun _ z => by cases z)
  rw [h3] at h2
  rw [h2] at h1 h3
  obtain ⟨f1, f2, f3⟩ := f _ _ _ _ h1
  have eb : b0 = b := by
    have h4 := Option.some.inj h2
    injection h4 with _ _ h5
    have h6 := congrArg Prod.snd (List.cons.inj h5).1
    exact V.ref.inj h6
  subst eb
  refine ⟨f1, f2, fun ys hy => ?_⟩
  rw [e _ _ hb (fun _ z => by cases z)] at hy
  exact f3 ys (hb.trans hy)
/-- no list stands there -/
def NoL (H : Hp) (p : Addr) : Prop := ∀ xs, H p ≠ some (.lst xs)
theorem noL_of {H H' : Hp} {p : Addr} (e : ExtN H H') (h : H' p = none) : NoL H p := fun xs q => by
  rw [e _ _ q (fun _ z => by cases z)] at h
  cases h
theorem noL_up {H H' : Hp} {p : Addr} (e : ExtN H H') (h : NoL H' p) : NoL H p := fun xs q => h xs (e _ _ q (fun _ z => by cases z))
theorem noL_0 {H : Hp} {p : Addr} (h : H p = none) : NoL H p := fun xs q => by
  rw [h] at q
  cases q
theorem item_yes {z : Vaskye.Held} {m : Nat} {f : Nat → VaskyBase.Answer} (h : m < z.s.items.length) : Vaskye.withItem z (m : Int) f = f m := by
  unfold Vaskye.withItem Vaskya.withItem VaskyBase.index
  rw [if_pos ⟨Int.natCast_nonneg m, by omega⟩]
  rfl
theorem item_no {z : Vaskye.Held} {i : Int} {f : Nat → VaskyBase.Answer} (h : ¬ (0 ≤ i ∧ i < (z.s.items.length : Int))) : Vaskye.withItem z i f = VaskyBase.one (-2) := by
  unfold Vaskye.withItem Vaskya.withItem VaskyBase.index
  rw [if_neg h]
section
variable {P : Program} {w : World} {K : PySem.W.Frag} {mg : Str → Option Value} {base : Heap} {CH fH CC : Addr} {fdH : FuncData} {TT : List (Addr × Str)}
/-- what a call but load answers, on what is held -/
def spTell (T : List (Addr × Str)) (CH CC : Addr) (n : Int) : Sp := fun vs H Q _ => ∃ (h c : Addr) (z : Vaskye.Held) (xs row : List Int) (e : Int) (k : Vaskye.Call), vs = [.ref h, .ref c] ∧ HeldAt CH H h z ∧ Fine z ∧ Tabs T H ∧ CallAt CC H c n xs row e ∧ row.length ≤ 4000 ∧
  VaskyeNeutral.callOf ((n :: xs) :: rws n row) = some k ∧
  ∀ (p : Addr) (H' : Hp) (z' : Vaskye.Held) (a : VaskyBase.Answer), NoL H p → (∀ t xs, H t = some (.lst xs) → Far CH H h t → Far CH H' h t) → ExtB h H H' → Tabs T H' → HeldAt CH H' h z' → Fine z' → Vaskye.step (some z) k = (some z', a) → H' p = some (.lst ((VaskyeNeutral.encode a).map V.int)) → Q (.ref p) H'
theorem tell_end {H H' : Hp} {h p : Addr} {z : Vaskye.Held} {k : Vaskye.Call} {a : VaskyBase.Answer} {Q : VK}
    (q : ∀ (p : Addr) (H' : Hp) (z' : Vaskye.Held) (a : VaskyBase.Answer), NoL H p → (∀ t xs, H t = some (.lst xs) → Far CH H h t → Far CH H' h t) → ExtB h H H' → Tabs TT H' → HeldAt CH H' h z' → Fine z' → Vaskye.step (some z) k = (some z', a) → H' p = some (.lst ((VaskyeNeutral.encode a).map V.int)) → Q (.ref p) H')
    (hz : HeldAt CH H h z) (F : Fine z) (np : NoL H p) (e : ExtN H H') (t : Tabs TT H') (hs : Vaskye.step (some z) k = (some z, a)) (hp : H' p = some (.lst ((VaskyeNeutral.encode a).map V.int))) : Q (.ref p) H' :=
  q p H' z a np (far_ext hz e) (fun b o hb _ nt => e b o hb nt) t (held_ext e hz) F hs hp
/-! ### is_item -/
def spIsItem (C : Addr) : Sp := fun vs H Q _ => ∃ (h : Addr) (z : Vaskye.Held) (i : Int), vs = [.ref h, .int i] ∧ HeldAt C H h z ∧ Q (.bl (decide (0 ≤ i ∧ i < (z.s.items.length : Int)))) H
theorem sc_is_item : FnScope ["held", "number"] ["held", "number"] (defScope s_is_item) := ⟨rfl, rfl, rfl, by decide +kernel, rfl, by decide +kernel, by decide +kernel⟩
theorem ok_is_item {f : Addr} {fd : FuncData} (F : Fun K "is_item" "is_item" s_is_item f fd) (D_item_count : Df P w K mg base CX0 1 "item_count" ["held"] (spCount CH)) : FnOk P w K mg base CX0 2 f fd ["held", "number"] (spIsItem CH) := by
  obtain ⟨f_item_count, fd_item_count, m_item_count, o_item_count, k_item_count, b_item_count⟩ := D_item_count
  refine F.ok sc_is_item (fun vs H Q E h => ?_) (fun cdv A outer s H vs Q E hr h => ⟨_, (pss_one (ps_ret (pe_chain op_le op_lt pe_int (pv 1) (pe_call o_item_count (hr.mono (by decide)) rfl m_item_count k_item_count b_item_count .nil pass0 (pa_cons (pv 0) pa_nil))))), ?_⟩)
  · obtain ⟨h, z, i, rfl, _⟩ := h
    rfl
  · obtain ⟨h, z, i, rfl, hz, k⟩ := h
    by_cases c : (0 : Int) ≤ i
    · refine ⟨_, rfl, _, _, rfl, rfl, _, rfl, if_t (decide_eq_true c) ⟨_, rfl, h, z, rfl, hz, _, _, rfl, rfl, ?_⟩⟩
      have e : decide (i < (z.s.items.length : Int)) = decide (0 ≤ i ∧ i < (z.s.items.length : Int)) := decide_eq_decide.mpr ⟨fun q => ⟨c, q⟩, fun q => q.2⟩
      rw [← e] at k
      exact k
    · refine ⟨_, rfl, _, _, rfl, rfl, _, rfl, if_f (decide_eq_false c) ?_⟩
      rw [decide_eq_false (fun q => c q.1)] at k
      exact k
/-! ### tell_unbeaten -/
theorem call2 {xs row : List Int} {k : Vaskye.Call} (h : VaskyeNeutral.callOf ((2 :: xs) :: rws 2 row) = some k) : ∃ i, xs = [i] ∧ k = .unbeaten i := by
  have e : rws 2 row = [] := rfl
  rw [e] at h
  match xs, h with
  | [i], h => exact ⟨i, rfl, (Option.some.inj h).symm⟩
theorem call3 {xs row : List Int} {k : Vaskye.Call} (h : VaskyeNeutral.callOf ((3 :: xs) :: rws 3 row) = some k) : k = .all_ := by
  have e : rws 3 row = [] := rfl
  rw [e] at h
  match xs, h with
  | [], h => exact (Option.some.inj h).symm
theorem call4 {xs row : List Int} {k : Vaskye.Call} (h : VaskyeNeutral.callOf ((4 :: xs) :: rws 4 row) = some k) : k = .mean := by
  have e : rws 4 row = [] := rfl
  rw [e] at h
  match xs, h with
  | [], h => exact (Option.some.inj h).symm
theorem call5 {xs row : List Int} {k : Vaskye.Call} (h : VaskyeNeutral.callOf ((5 :: xs) :: rws 5 row) = some k) : k = .set_ row := by
  have e : rws 5 row = [row] := rfl
  rw [e] at h
  match xs, h with
  | [], h => exact (Option.some.inj h).symm
theorem call6 {xs row : List Int} {k : Vaskye.Call} (h : VaskyeNeutral.callOf ((6 :: xs) :: rws 6 row) = some k) : k = .likely := by
  have e : rws 6 row = [] := rfl
  rw [e] at h
  match xs, h with
  | [], h => exact (Option.some.inj h).symm
theorem call7 {xs row : List Int} {k : Vaskye.Call} (h : VaskyeNeutral.callOf ((7 :: xs) :: rws 7 row) = some k) : ∃ m, xs = [m] ∧ k = .top m := by
  have e : rws 7 row = [] := rfl
  rw [e] at h
  match xs, h with
  | [m], h => exact ⟨m, rfl, (Option.some.inj h).symm⟩
theorem call8 {xs row : List Int} {k : Vaskye.Call} (h : VaskyeNeutral.callOf ((8 :: xs) :: rws 8 row) = some k) : ∃ i j v, xs = [i, j, v] ∧ k = .given i j v := by
  have e : rws 8 row = [] := rfl
  rw [e] at h
  match xs, h with
  | [i, j, v], h => exact ⟨i, j, v, rfl, (Option.some.inj h).symm⟩
theorem call9 {xs row : List Int} {k : Vaskye.Call} (h : VaskyeNeutral.callOf ((9 :: xs) :: rws 9 row) = some k) : k = .counts := by
  have e : rws 9 row = [] := rfl
  rw [e] at h
  match xs, h with
  | [], h => exact (Option.some.inj h).symm
theorem call1 {xs row : List Int} {k : Vaskye.Call} (h : VaskyeNeutral.callOf ((1 :: xs) :: rws 1 row) = some k) : ∃ q, xs = [q] ∧ k = .chances q row := by
  have e : rws 1 row = [row] := rfl
  rw [e] at h
  match xs, h with
  | [q], h => exact ⟨q, rfl, (Option.some.inj h).symm⟩
theorem sc_tell_unbeaten : FnScope ["held", "call", "item"] ["held", "call"] (defScope s_tell_unbeaten) := ⟨rfl, rfl, rfl, by decide +kernel, rfl, by decide +kernel, by decide +kernel⟩
theorem ok_tell_unbeaten {f : Addr} {fd : FuncData} (F : Fun K "tell_unbeaten" "tell_unbeaten" s_tell_unbeaten f fd) {fC : Addr} (T_Call : CallTxt K mg CC fC) (D_is_item : Df P w K mg base CX0 2 "is_item" ["held", "number"] (spIsItem CH)) (D_unbeaten_chance : Df P w K mg base CX0 4 "unbeaten_chance" ["held", "item"] (spChance CH)) :
    FnOk P w K mg base CX0 20 f fd ["held", "call"] (spTell TT CH CC 2) := by
  obtain ⟨f_is_item, fd_is_item, m_is_item, o_is_item, k_is_item, b_is_item⟩ := D_is_item
  obtain ⟨f_unbeaten_chance, fd_unbeaten_chance, m_unbeaten_chance, o_unbeaten_chance, k_unbeaten_chance, b_unbeaten_chance⟩ := D_unbeaten_chance
  refine F.ok sc_tell_unbeaten (fun vs H Q E h => ?_) (fun cdv A outer s H vs Q E hr h => ⟨_, (pss_cons (ps_set (i := 2) sc_tell_unbeaten.nd rfl (.inl rfl) (pe_ix ix_list (pe_fld (pv 1) rfl) pe_int (fun _ _ => rfl)))
      (pss_cons (ps_if (pt_not (pt_val (pe_call o_is_item (hr.mono (by decide)) rfl m_is_item k_is_item b_is_item .nil pass0 (pa_cons (pv 0) (pa_cons (pv 2) pa_nil)))))
        (pss_one (ps_ret (pe_lst (pa_cons (pe_un un_neg pe_int) pa_nil))))
        pss_nil)
      (pss_one (ps_ret (pe_op op_cat (pe_lst (pa_cons pe_int pa_nil)) (pe_call o_unbeaten_chance (hr.mono (by decide)) rfl m_unbeaten_chance k_unbeaten_chance b_unbeaten_chance .nil pass0 (pa_cons (pv 0) (pa_cons (pv 2) pa_nil)))))))), ?_⟩)
  · obtain ⟨h, c, z, xs, row, e, k, rfl, _⟩ := h
    rfl
  · obtain ⟨h, c, z, xs, row, e, k, rfl, hz, Fz, hT, ⟨dx, s, r, hc, hs, hrw⟩, _, hk, q⟩ := h
    obtain ⟨i, rfl, rfl⟩ := call2 hk
    refine ⟨_, rfl, c, CC, dx, _, _, rfl, hc, T_Call.cl, T_Call.n2, call_s _ _ _ _, s, _, _, _, rfl, rfl, SqL.of hs, atI_nat (j := 0) rfl, ?_⟩
    refine ⟨_, rfl, _, rfl, h, z, i, rfl, hz, _, rfl, ?_⟩
    by_cases ci : 0 ≤ i ∧ i < (z.s.items.length : Int)
    · rw [decide_eq_true ci]
      obtain ⟨m, rfl⟩ : ∃ m : Nat, i = (m : Int) := ⟨i.toNat, by omega⟩
      have mi : m < z.s.items.length := by omega
      refine if_f rfl ?_
      refine ⟨by show 1 ≤ sizeLine; rw [sizeLine_eq]; omega, fun l hl => ?_⟩
      have s1 : Same H (upd H l (.lst [.int 1])) := same_new hl
      refine ⟨_, rfl, _, rfl, h, z, m, rfl, hz.same s1, Fz, mi, fun p H2 s2 p0 fr => ?_⟩
      refine ⟨l, p, _, _, rfl, rfl, s2 _ _ upd_same, fr, by show 1 + 2 ≤ sizeLine; rw [sizeLine_eq]; omega, fun p2 hp2 => ?_⟩
      have s3 : Same H2 (upd H2 p2 (.lst ([.int 1] ++ (fracRow (unbeatenChance (rows z.s) z.c m)).map V.int))) := same_new hp2
      refine tell_end (a := ⟨1, fracRow (unbeatenChance (rows z.s) z.c m)⟩) q hz Fz (noL_of (ext_same (s1.trans s2)) hp2) (ext_same (s1.trans (Same.trans s2 s3))) (hT.ext (s1.trans (Same.trans s2 s3))) ?_ upd_same
      show (some z, Vaskye.withItem z (m : Int) _) = _
      rw [item_yes mi]
    · rw [decide_eq_false ci]
      refine if_t rfl ⟨_, rfl, by show 1 ≤ sizeLine; rw [sizeLine_eq]; omega, fun l hl => ?_⟩
      refine tell_end (a := VaskyBase.one (-2)) q hz Fz (noL_0 hl) (ext_same (same_new hl)) (hT.ext (same_new hl)) ?_ upd_same
      show (some z, Vaskye.withItem z i _) = _
      rw [item_no ci]
end
end Off
end
section
set_option Elab.async false
set_option linter.all false
set_option maxRecDepth 100000
set_option maxHeartbeats 4000000
namespace Off
open PySem PySem.Spec PyProof.Rows L2 LamX NdefX
open VaskyBase (Frac frac plus fracRow whole)
open Vaskya (Measure Item Sheet rows)
open Vaskye (there away product unbeatenChance allChances setChance apart mustGo likeliest countChances addTo)
theorem fr_flat (fs : List Frac) : (fs.flatMap fracRow).length = 2 * fs.length := by
  induction fs with
  | nil => rfl
  | cons x fs ih =>
    rw [List.flatMap_cons, List.length_append, ih, List.length_cons]
    show 2 + _ = _
    omega
theorem adds_len {α : Type} (f g : α → Nat) : ∀ (L : List α) (r : List Nat), (L.foldl (fun r s => addTo (f s) (g s) r) r).length = r.length
  | [], _ => rfl
  | s :: L, r => by rw [List.foldl_cons, adds_len f g L, add_len]
theorem counts_len (l : List (List Int)) (c : Vaskye.Chances) : (countChances l c).length = l.length + 1 := by
  unfold countChances Vaskye.countWays
  rw [List.length_map, adds_len, List.length_replicate]
theorem nodup_of_dups {l : List Int} (h : l.length ≤ l.eraseDups.length) : l.Nodup := by
  induction hn : l.length using Nat.strongRecOn generalizing l with
  | _ n ih =>
    cases l with
    | nil => exact List.nodup_nil
    | cons a l =>
      rw [List.eraseDups_cons, List.length_cons, List.length_cons] at h
      have le : ∀ m : List Int, m.eraseDups.length ≤ m.length := fun m => by
        rw [← KeyL.met_all]
        exact firstMet_length_le _ _
      have h1 := le (l.filter fun b => !b == a)
      have h2 := List.length_filter_le (fun b => !b == a) l
      have eq : (l.filter fun b => !b == a) = l := by
        refine List.filter_eq_self.mpr ?_
        have e : (l.filter fun b => !b == a).length = l.length := by omega
        exact List.length_filter_eq_length_iff.mp e
      rw [eq] at h
      rw [List.length_cons] at hn
      refine List.nodup_cons.mpr ⟨fun ha => ?_, ih l.length (by omega) (by omega) rfl⟩
      have := List.filter_eq_self.mp eq a ha
      simp at this
section
variable {P : Program} {w : World} {K : PySem.W.Frag} {mg : Str → Option Value} {base : Heap} {CH fH CC fC : Addr} {fdH : FuncData} {TT : List (Addr × Str)}
/-! ### counted -/
def spCounted : Sp := fun vs H Q _ => ∃ (L : Addr) (fs : List Frac), vs = [.ref L] ∧ RowsAt H L (fs.map fracRow) ∧ fs.length ≤ 1000 ∧
  ∀ p H', NoL H p → Same H H' → H' p = some (.lst ((((fs.length : Nat) : Int) :: fs.flatMap fracRow).map V.int)) → Q (.ref p) H'
theorem sc_counted : FnScope ["chances", "told", "chance"] ["chances"] (defScope s_counted) := ⟨rfl, rfl, rfl, by decide +kernel, rfl, by decide +kernel, by decide +kernel⟩
theorem ok_counted {f : Addr} {fd : FuncData} (F : Fun K "counted" "counted" s_counted f fd) (B : Blt mg) : FnOk P w K mg base CX0 1 f fd ["chances"] spCounted := by
  refine F.ok sc_counted (fun vs H Q E h => ?_) (fun cdv A outer s H vs Q E hr h => ⟨_, (pss_cons (ps_set (i := 1) sc_counted.nd rfl (.inl rfl) (pe_lst (pa_cons (pe_callB call_len_seq (by rfl) B.len PySem.boot_len (pa_cons (pv 0) pa_nil)) pa_nil)))
      (pss_cons (ps_for PassesOwn.never rfl (pi_list (pv 0)) (pg_name (i := 2) sc_counted.nd rfl (Or.inl rfl))
        (pss_one (ps_expr (pe_bm PySem.F.plainAttrs_list PySem.F.slot_list_extend PySem.F.type_list_extend mt_extend (pv 1) (pa_cons (pv 2) pa_nil)))))
      (pss_one (ps_ret (pv 1))))), ?_⟩)
  · obtain ⟨L, fs, rfl, _⟩ := h
    rfl
  · obtain ⟨L, fs, rfl, ⟨as, hL, hl, hR⟩, fl, k⟩ := h
    refine ⟨_, rfl, L, _, rfl, .inl (SqL.of hL), by show 1 ≤ sizeLine; rw [sizeLine_eq]; omega, fun t ht => ?_⟩
    have s1 : Same H (upd H t (.lst [.int ((as.map V.ref).length : Int)])) := same_new ht
    have ln : (as.map V.ref).length = fs.length := by rw [List.length_map, hl, List.length_map]
    rw [ln] at s1 ⊢
    refine ⟨_, rfl, L, rfl, ⟨_, SqL.of (s1 _ _ hL)⟩, ?_⟩
    refine for_list (K := K) (a := L) (xs := as.map V.ref)
      (fun j σ H' => Same H H' ∧ H' t = some (.lst ((((fs.length : Nat) : Int) :: (fs.take j).flatMap fracRow).map V.int)) ∧ ∃ u : Option V, σ = [some (.ref L), some (.ref t), u])
      ⟨s1, upd_same, none, rfl⟩ (fun _ _ _ _ h => h.1.seq (SqL.of hL)) ?_ ?_
    · rintro j x σ H' hx ⟨s2, h2, u, rfl⟩
      rw [List.getElem?_map] at hx
      cases ha : as[j]? with
      | none =>
        rw [ha] at hx
        cases hx
      | some a =>
        rw [ha] at hx
        cases hx
        have jl : j < fs.length := by
          have := (List.getElem?_eq_some_iff.mp ha).1
          rw [hl, List.length_map] at this
          exact this
        obtain ⟨fr, hfr⟩ : ∃ fr, fs[j]? = some fr := ⟨_, List.getElem?_eq_getElem jl⟩
        obtain ⟨a', ha', _, hrow⟩ := hR j (fracRow fr) (by rw [List.getElem?_map, hfr]; rfl)
        rw [ha] at ha'
        cases ha'
        have ff := fr_flat (fs.take j)
        have tl := List.length_take_le' j fs
        refine ⟨_, rfl, .inl ⟨rfl, _, SqL.of h2⟩, _, rfl, t, a, _, _, rfl, rfl, h2, s2 _ _ hrow, ?_, fun b o hb => by rw [upd_ne (ne_of_none hb ht)]; exact s2 _ _ hb, ?_, some (.ref a), rfl⟩
        · rw [List.length_map, List.length_map, List.length_cons, ff, sizeLine_eq]
          show _ + 2 ≤ _
          omega
        · have e : (fs.take (j + 1)).flatMap fracRow = (fs.take j).flatMap fracRow ++ fracRow fr := by
            rw [List.take_succ, hfr, List.flatMap_append]
            show _ ++ (fracRow fr ++ []) = _
            rw [List.append_nil]
          rw [e, ← List.cons_append, List.map_append]
          exact upd_same
    · rintro σ H' ⟨s2, h2, u, rfl⟩
      rw [ln, List.take_length] at h2
      exact ⟨_, rfl, k t H' (noL_0 ht) s2 h2⟩
/-! ### tell_all -/
theorem sc_tell_all : FnScope ["held", "call"] ["held", "call"] (defScope s_tell_all) := ⟨rfl, rfl, rfl, by decide +kernel, rfl, by decide +kernel, by decide +kernel⟩
theorem ok_tell_all {f : Addr} {fd : FuncData} (F : Fun K "tell_all" "tell_all" s_tell_all f fd) (D_counted : Df P w K mg base CX0 1 "counted" ["chances"] spCounted) (D_all_chances : Df P w K mg base CX0 4 "all_chances" ["held"] (spChances CH)) :
    FnOk P w K mg base CX0 20 f fd ["held", "call"] (spTell TT CH CC 3) := by
  obtain ⟨f_counted, fd_counted, m_counted, o_counted, k_counted, b_counted⟩ := D_counted
  obtain ⟨f_all_chances, fd_all_chances, m_all_chances, o_all_chances, k_all_chances, b_all_chances⟩ := D_all_chances
  refine F.ok sc_tell_all (fun vs H Q E h => ?_) (fun cdv A outer s H vs Q E hr h => ⟨_, (pss_one (ps_ret (pe_call o_counted (hr.mono (by decide)) rfl m_counted k_counted b_counted .nil pass0 (pa_cons (pe_call o_all_chances (hr.mono (by decide)) rfl m_all_chances k_all_chances b_all_chances .nil pass0 (pa_cons (pv 0) pa_nil)) pa_nil)))), ?_⟩)
  · obtain ⟨h, c, z, xs, row, e, k, rfl, _⟩ := h
    rfl
  · obtain ⟨h, c, z, xs, row, e, k, rfl, hz, Fz, hT, _, _, hk, q⟩ := h
    obtain rfl := call3 hk
    have len : (allChances (rows z.s) z.c).length = z.s.items.length := by
      unfold allChances
      rw [List.length_map, List.length_range, rows_len]
    have it := Fz.it
    refine ⟨_, rfl, h, z, rfl, hz, Fz, fun L H1 s1 L0 R1 => ⟨L, allChances (rows z.s) z.c, rfl, R1, by omega, fun p H2 np s2 hp => ?_⟩⟩
    refine tell_end (a := ⟨(z.s.items.length : Int), (allChances (rows z.s) z.c).flatMap fracRow⟩) q hz Fz (noL_up (ext_same s1) np) (ext_same (s1.trans s2)) (hT.ext (s1.trans s2)) rfl ?_
    rw [len] at hp
    exact hp
/-! ### tell_mean -/
theorem sc_tell_mean : FnScope ["held", "call"] ["held", "call"] (defScope s_tell_mean) := ⟨rfl, rfl, rfl, by decide +kernel, rfl, by decide +kernel, by decide +kernel⟩
theorem ok_tell_mean {f : Addr} {fd : FuncData} (F : Fun K "tell_mean" "tell_mean" s_tell_mean f fd) (D_mean_unbeaten : Df P w K mg base CX0 4 "mean_unbeaten" ["held"] (spMean CH)) :
    FnOk P w K mg base CX0 20 f fd ["held", "call"] (spTell TT CH CC 4) := by
  obtain ⟨f_mean_unbeaten, fd_mean_unbeaten, m_mean_unbeaten, o_mean_unbeaten, k_mean_unbeaten, b_mean_unbeaten⟩ := D_mean_unbeaten
  refine F.ok sc_tell_mean (fun vs H Q E h => ?_) (fun cdv A outer s H vs Q E hr h => ⟨_, (pss_one (ps_ret (pe_op op_cat (pe_lst (pa_cons pe_int pa_nil)) (pe_call o_mean_unbeaten (hr.mono (by decide)) rfl m_mean_unbeaten k_mean_unbeaten b_mean_unbeaten .nil pass0 (pa_cons (pv 0) pa_nil))))), ?_⟩)
  · obtain ⟨h, c, z, xs, row, e, k, rfl, _⟩ := h
    rfl
  · obtain ⟨h, c, z, xs, row, e, k, rfl, hz, Fz, hT, _, _, hk, q⟩ := h
    obtain rfl := call4 hk
    refine ⟨by show 1 ≤ sizeLine; rw [sizeLine_eq]; omega, fun l hl => ?_⟩
    have s1 : Same H (upd H l (.lst [.int 1])) := same_new hl
    refine ⟨_, rfl, h, z, rfl, hz.same s1, Fz, fun p H2 s2 p0 fr => ?_⟩
    refine ⟨l, p, _, _, rfl, rfl, s2 _ _ upd_same, fr, by show 1 + 2 ≤ sizeLine; rw [sizeLine_eq]; omega, fun p2 hp2 => ?_⟩
    have s3 : Same H (upd H2 p2 (.lst ([.int 1] ++ (fracRow ((allChances (rows z.s) z.c).foldl plus (whole 0))).map V.int))) := s1.trans (Same.trans s2 (same_new hp2))
    exact tell_end (a := ⟨1, fracRow ((allChances (rows z.s) z.c).foldl plus (whole 0))⟩) q hz Fz (noL_of (ext_same (s1.trans s2)) hp2) (ext_same s3) (hT.ext s3) rfl upd_same
/-! ### tell_counts -/
theorem sc_tell_counts : FnScope ["held", "call"] ["held", "call"] (defScope s_tell_counts) := ⟨rfl, rfl, rfl, by decide +kernel, rfl, by decide +kernel, by decide +kernel⟩
theorem ok_tell_counts {f : Addr} {fd : FuncData} (F : Fun K "tell_counts" "tell_counts" s_tell_counts f fd) (gM : ∃ t, mg "MOST_FOR_SETS" = some (.int 12 t)) (D_counted : Df P w K mg base CX0 1 "counted" ["chances"] spCounted) (D_item_count : Df P w K mg base CX0 1 "item_count" ["held"] (spCount CH)) (D_count_chances : Df P w K mg base CX0 9 "count_chances" ["held"] (spCounts TT CH)) :
    FnOk P w K mg base CX0 20 f fd ["held", "call"] (spTell TT CH CC 9) := by
  obtain ⟨tM, g_MOST_FOR_SETS⟩ := gM
  obtain ⟨f_counted, fd_counted, m_counted, o_counted, k_counted, b_counted⟩ := D_counted
  obtain ⟨f_item_count, fd_item_count, m_item_count, o_item_count, k_item_count, b_item_count⟩ := D_item_count
  obtain ⟨f_count_chances, fd_count_chances, m_count_chances, o_count_chances, k_count_chances, b_count_chances⟩ := D_count_chances
  refine F.ok sc_tell_counts (fun vs H Q E h => ?_) (fun cdv A outer s H vs Q E hr h => ⟨_, (pss_cons (ps_if (pt_cmpR op_gt (pe_call o_item_count (hr.mono (by decide)) rfl m_item_count k_item_count b_item_count .nil pass0 (pa_cons (pv 0) pa_nil)) (pe_glob (v := .int 12) rfl g_MOST_FOR_SETS ⟨_, rfl⟩) (nomark _))
        (pss_one (ps_ret (pe_lst (pa_cons (pe_un un_neg pe_int) pa_nil))))
        pss_nil)
      (pss_one (ps_ret (pe_call o_counted (hr.mono (by decide)) rfl m_counted k_counted b_counted .nil pass0 (pa_cons (pe_call o_count_chances (hr.mono (by decide)) rfl m_count_chances k_count_chances b_count_chances .nil pass0 (pa_cons (pv 0) pa_nil)) pa_nil))))), ?_⟩)
  · obtain ⟨h, c, z, xs, row, e, k, rfl, _⟩ := h
    rfl
  · obtain ⟨h, c, z, xs, row, e, k, rfl, hz, Fz, hT, _, _, hk, q⟩ := h
    obtain rfl := call9 hk
    refine ⟨_, rfl, h, z, rfl, hz, _, _, rfl, rfl, _, rfl, ?_⟩
    have hs : ∀ a, (if 12 < z.s.items.length then VaskyBase.one (-9) else ⟨((countChances (rows z.s) z.c).length : Int), (countChances (rows z.s) z.c).flatMap fracRow⟩) = a → Vaskye.step (some z) .counts = (some z, a) := fun a ha => by
      rw [← ha]
      rfl
    by_cases big : 12 < z.s.items.length
    · refine if_t (decide_eq_true (by omega)) ⟨_, rfl, by show 1 ≤ sizeLine; rw [sizeLine_eq]; omega, fun l hl => ?_⟩
      exact tell_end (a := VaskyBase.one (-9)) q hz Fz (noL_0 hl) (ext_same (same_new hl)) (hT.ext (same_new hl)) (hs _ (if_pos big)) upd_same
    · refine if_f (decide_eq_false (by omega)) ⟨_, rfl, h, z, rfl, hz, Fz, by omega, hT, fun L H1 e1 T1 R1 => ⟨L, countChances (rows z.s) z.c, rfl, R1, ?_, fun p H2 np s2 hp => ?_⟩⟩
      · rw [counts_len, rows_len]
        omega
      · exact tell_end (a := ⟨((countChances (rows z.s) z.c).length : Int), (countChances (rows z.s) z.c).flatMap fracRow⟩) q hz Fz (noL_up e1 np) (e1.trans (ext_same s2)) (T1.ext s2) (hs _ (if_neg big)) hp
/-! ### tell_top -/
theorem order_len (z : Vaskye.Held) (Fz : Fine z) : (Vaskye.orderOf (allChances (rows z.s) z.c)).length = z.s.items.length := by
  rw [order_ww Fz.lc, List.length_mergeSort, List.length_range, rows_len]
theorem sc_tell_top : FnScope ["held", "call", "most", "first"] ["held", "call"] (defScope s_tell_top) := ⟨rfl, rfl, rfl, by decide +kernel, rfl, by decide +kernel, by decide +kernel⟩
theorem ok_tell_top {f : Addr} {fd : FuncData} (F : Fun K "tell_top" "tell_top" s_tell_top f fd) (B : Blt mg) (gM : ∃ t, mg "MOST_TOP" = some (.int 16 t)) (T_Call : CallTxt K mg CC fC) (D_likeliest_first : Df P w K mg base CX0 8 "likeliest_first" ["held"] (spFirst TT CH)) :
    FnOk P w K mg base CX0 20 f fd ["held", "call"] (spTell TT CH CC 7) := by
  obtain ⟨tM, g_MOST_TOP⟩ := gM
  obtain ⟨f_likeliest_first, fd_likeliest_first, m_likeliest_first, o_likeliest_first, k_likeliest_first, b_likeliest_first⟩ := D_likeliest_first
  refine F.ok sc_tell_top (fun vs H Q E h => ?_) (fun cdv A outer s H vs Q E hr h => ⟨_, (pss_cons (ps_set (i := 2) sc_tell_top.nd rfl (.inl rfl) (pe_ix ix_list (pe_fld (pv 1) rfl) pe_int (fun _ _ => rfl)))
      (pss_cons (ps_if (PW.pt (pw_or (pt_cmpR op_lt (pv 2) pe_int (nomark _)) (pw_or1 (pt_cmpR op_gt (pv 2) (pe_glob (v := .int 16) rfl g_MOST_TOP ⟨_, rfl⟩) (nomark _)))))
        (pss_one (ps_ret (pe_lst (pa_cons (pe_un un_neg pe_int) pa_nil))))
        pss_nil)
      (pss_cons (ps_set (i := 3) sc_tell_top.nd rfl (.inl rfl) (pe_slice sl_list (pe_call o_likeliest_first (hr.mono (by decide)) rfl m_likeliest_first k_likeliest_first b_likeliest_first .nil pass0 (pa_cons (pv 0) pa_nil)) po_none (po_some (pv 2))))
      (pss_one (ps_ret (pe_op op_cat (pe_lst (pa_cons (pe_callB call_len_seq (by rfl) B.len PySem.boot_len (pa_cons (pv 3) pa_nil)) pa_nil)) (pv 3))))))), ?_⟩)
  · obtain ⟨h, c, z, xs, row, e, k, rfl, _⟩ := h
    rfl
  · obtain ⟨h, c, z, xs, row, e, k, rfl, hz, Fz, hT, ⟨dx, s, r, hc, hs, hrw⟩, _, hk, q⟩ := h
    obtain ⟨m, rfl, rfl⟩ := call7 hk
    have hst : ∀ a, (if m < 0 ∨ (16 : Int) < m then VaskyBase.one (-3) else ⟨(((Vaskye.orderOf (allChances (rows z.s) z.c)).take m.toNat).length : Int), Vaskye.nats ((Vaskye.orderOf (allChances (rows z.s) z.c)).take m.toNat)⟩) = a → Vaskye.step (some z) (.top m) = (some z, a) := fun a ha => by
      rw [← ha]
      rfl
    refine ⟨_, rfl, c, CC, dx, _, _, rfl, hc, T_Call.cl, T_Call.n2, call_s _ _ _ _, s, _, _, _, rfl, rfl, SqL.of hs, atI_nat (j := 0) rfl, ?_⟩
    refine ⟨_, rfl, _, _, rfl, rfl, _, rfl, ?_⟩
    have bad : m < 0 ∨ (16 : Int) < m → ∀ l, H l = none → Q (.ref l) (upd H l (.lst [.int (-3)])) := fun hb l hl =>
      tell_end (a := VaskyBase.one (-3)) q hz Fz (noL_0 hl) (ext_same (same_new hl)) (hT.ext (same_new hl)) (hst _ (if_pos hb)) upd_same
    by_cases lo : m < 0
    · refine if_t (decide_eq_true lo) ⟨_, rfl, by show 1 ≤ sizeLine; rw [sizeLine_eq]; omega, fun l hl => bad (.inl lo) l hl⟩
    · refine if_f (decide_eq_false lo) ⟨_, rfl, _, _, rfl, rfl, _, rfl, ?_⟩
      by_cases hi : (16 : Int) < m
      · refine if_t (decide_eq_true (show m > 16 from hi)) ⟨_, rfl, by show 1 ≤ sizeLine; rw [sizeLine_eq]; omega, fun l hl => bad (.inr hi) l hl⟩
      · refine if_f (decide_eq_false (show ¬ m > 16 from hi)) ⟨_, rfl, h, z, rfl, hz, Fz, hT, fun p H1 e1 T1 h1 => ?_⟩
        obtain ⟨n, rfl⟩ : ∃ n : Nat, m = (n : Int) := ⟨m.toNat, by omega⟩
        refine ⟨_, rfl, (n : Int), rfl, p, _, rfl, SqL.of h1, fun p2 hp2 => ?_⟩
        have cut : cutV ((ni (Vaskye.orderOf (allChances (rows z.s) z.c))).map V.int) none (some (n : Int)) = (ni ((Vaskye.orderOf (allChances (rows z.s) z.c)).take n)).map V.int := by
          unfold cutV
          rw [HT.sIx_none, HT.sIx_nat, List.drop_zero, Nat.sub_zero]
          unfold ni
          rw [List.map_take, List.map_take, List.length_map, List.length_map]
          by_cases c : n ≤ (Vaskye.orderOf (allChances (rows z.s) z.c)).length
          · rw [Nat.min_eq_left c]
          · rw [Nat.min_eq_right (by omega), List.take_of_length_le (by rw [List.length_map, List.length_map]; exact Nat.le_refl _), List.take_of_length_le (i := n) (by rw [List.length_map, List.length_map]; omega)]
        rw [cut]
        have ol := order_len z Fz
        have tl := List.length_take_le' n (Vaskye.orderOf (allChances (rows z.s) z.c))
        have it := Fz.it
        have s2 : Same H1 (upd H1 p2 (.lst ((ni ((Vaskye.orderOf (allChances (rows z.s) z.c)).take n)).map V.int))) := same_new hp2
        refine ⟨_, rfl, p2, _, rfl, .inl (SqL.of upd_same), by show 1 ≤ sizeLine; rw [sizeLine_eq]; omega, fun l hl => ?_⟩
        have s3 := Same.trans s2 (same_new (o := HO.lst [.int ((((ni ((Vaskye.orderOf (allChances (rows z.s) z.c)).take n)).map V.int).length : Nat) : Int)]) hl)
        refine ⟨_, rfl, l, p2, _, _, rfl, rfl, upd_same, (upd_ne (ne_of_none upd_same hl)).trans upd_same, by rw [List.length_map, ni_len, sizeLine_eq]; show 1 + _ ≤ _; omega, fun p3 hp3 => ?_⟩
        refine tell_end (a := ⟨(((Vaskye.orderOf (allChances (rows z.s) z.c)).take n).length : Int), Vaskye.nats ((Vaskye.orderOf (allChances (rows z.s) z.c)).take n)⟩) q hz Fz (noL_of (e1.trans (ext_same s3)) hp3) (e1.trans (ext_same (Same.trans s3 (same_new hp3)))) ((T1.ext s3).ext (same_new hp3)) (hst _ ?_) ?_
        · rw [if_neg (by omega)]
          rfl
        · rw [upd_same, List.length_map, ni_len]
          rfl
/-! ### tell_likely -/
theorem sc_tell_likely : FnScope ["held", "call", "items"] ["held", "call"] (defScope s_tell_likely) := ⟨rfl, rfl, rfl, by decide +kernel, rfl, by decide +kernel, by decide +kernel⟩
theorem ok_tell_likely {f : Addr} {fd : FuncData} (F : Fun K "tell_likely" "tell_likely" s_tell_likely f fd) (B : Blt mg) (gM : ∃ t, mg "MOST_FOR_SETS" = some (.int 12 t)) (D_item_count : Df P w K mg base CX0 1 "item_count" ["held"] (spCount CH)) (D_likeliest_set : Df P w K mg base CX0 9 "likeliest_set" ["held"] (spLikeSet TT CH))
    (D_just_set_chance : Df P w K mg base CX0 4 "just_set_chance" ["held", "items"] (spJust K CH)) : FnOk P w K mg base CX0 20 f fd ["held", "call"] (spTell TT CH CC 6) := by
  obtain ⟨tM, g_MOST_FOR_SETS⟩ := gM
  obtain ⟨f_item_count, fd_item_count, m_item_count, o_item_count, k_item_count, b_item_count⟩ := D_item_count
  obtain ⟨f_likeliest_set, fd_likeliest_set, m_likeliest_set, o_likeliest_set, k_likeliest_set, b_likeliest_set⟩ := D_likeliest_set
  obtain ⟨f_just_set_chance, fd_just_set_chance, m_just_set_chance, o_just_set_chance, k_just_set_chance, b_just_set_chance⟩ := D_just_set_chance
  refine F.ok sc_tell_likely (fun vs H Q E h => ?_) (fun cdv A outer s H vs Q E hr h => ⟨_, (pss_cons (ps_if (pt_cmpR op_gt (pe_call o_item_count (hr.mono (by decide)) rfl m_item_count k_item_count b_item_count .nil pass0 (pa_cons (pv 0) pa_nil)) (pe_glob (v := .int 12) rfl g_MOST_FOR_SETS ⟨_, rfl⟩) (nomark _))
        (pss_one (ps_ret (pe_lst (pa_cons (pe_un un_neg pe_int) pa_nil))))
        pss_nil)
      (pss_cons (ps_set (i := 2) sc_tell_likely.nd rfl (.inl rfl) (pe_call o_likeliest_set (hr.mono (by decide)) rfl m_likeliest_set k_likeliest_set b_likeliest_set .nil pass0 (pa_cons (pv 0) pa_nil)))
      (pss_one (ps_ret (pe_op op_cat (pe_op op_cat (pe_op op_cat (pe_lst (pa_cons pe_int pa_nil)) (pe_call o_just_set_chance (hr.mono (by decide)) rfl m_just_set_chance k_just_set_chance b_just_set_chance .nil pass0 (pa_cons (pv 0) (pa_cons (pv 2) pa_nil)))) (pe_lst (pa_cons (pe_callB call_len_seq (by rfl) B.len PySem.boot_len (pa_cons (pv 2) pa_nil)) pa_nil))) (pv 2)))))), ?_⟩)
  · obtain ⟨h, c, z, xs, row, e, k, rfl, _⟩ := h
    rfl
  · obtain ⟨h, c, z, xs, row, e, k, rfl, hz, Fz, hT, _, _, hk, q⟩ := h
    obtain rfl := call6 hk
    have hst : ∀ a, (if 12 < z.s.items.length then VaskyBase.one (-9) else ⟨1, fracRow (setChance (rows z.s) z.c (likeliest (rows z.s) z.c)) ++ Vaskye.nats ((likeliest (rows z.s) z.c).length :: likeliest (rows z.s) z.c)⟩) = a → Vaskye.step (some z) .likely = (some z, a) := fun a ha => by
      rw [← ha]
      rfl
    refine ⟨_, rfl, h, z, rfl, hz, _, _, rfl, rfl, _, rfl, ?_⟩
    by_cases big : 12 < z.s.items.length
    · refine if_t (decide_eq_true (by omega)) ⟨_, rfl, by show 1 ≤ sizeLine; rw [sizeLine_eq]; omega, fun l hl => ?_⟩
      exact tell_end (a := VaskyBase.one (-9)) q hz Fz (noL_0 hl) (ext_same (same_new hl)) (hT.ext (same_new hl)) (hst _ (if_pos big)) upd_same
    · refine if_f (decide_eq_false (by omega)) ⟨_, rfl, h, z, rfl, hz, Fz, by omega, hT, fun p H1 b e1 T1 eb h1 => ?_⟩
      have il := its_len z.s.items.length b
      have it := Fz.it
      refine ⟨by show 1 ≤ sizeLine; rw [sizeLine_eq]; omega, fun l hl => ?_⟩
      have s2 : Same H1 (upd H1 l (.lst [.int 1])) := same_new hl
      refine ⟨_, rfl, _, rfl, h, p, z, its z.s.items.length b, rfl, (held_ext e1 hz).same s2, Fz, SqL.of (s2 _ _ h1), its_nodup _ _, fun i hi => (mem_its.mp hi).1, fun p2 H2 s3 p20 fr => ?_⟩
      refine ⟨l, p2, _, _, rfl, rfl, s3 _ _ upd_same, fr, by show 1 + 2 ≤ sizeLine; rw [sizeLine_eq]; omega, fun p3 hp3 => ?_⟩
      have s13 := Same.trans s2 (Same.trans s3 (same_new (o := HO.lst ([.int 1] ++ (fracRow (setChance (rows z.s) z.c (its z.s.items.length b))).map V.int)) hp3))
      have hp3v : upd H2 p3 (.lst ([.int 1] ++ (fracRow (setChance (rows z.s) z.c (its z.s.items.length b))).map V.int)) p3 = some (.lst ([.int 1] ++ (fracRow (setChance (rows z.s) z.c (its z.s.items.length b))).map V.int)) := upd_same
      generalize upd H2 p3 (.lst ([.int 1] ++ (fracRow (setChance (rows z.s) z.c (its z.s.items.length b))).map V.int)) = Ha at s13 hp3v
      refine ⟨_, rfl, p, _, rfl, .inl (SqL.of (s13 _ _ h1)), by show 1 ≤ sizeLine; rw [sizeLine_eq]; omega, fun l2 hl2 => ?_⟩
      rw [List.length_map, ni_len]
      have s14 := Same.trans s13 (same_new (o := HO.lst [.int (((its z.s.items.length b).length : Nat) : Int)]) hl2)
      refine ⟨p3, l2, _, _, rfl, rfl, (upd_ne (ne_of_none hp3v hl2)).trans hp3v, upd_same, by show 3 + 1 ≤ sizeLine; rw [sizeLine_eq]; omega, fun p4 hp4 => ?_⟩
      have s15 := Same.trans s14 (same_new (o := HO.lst (([.int 1] ++ (fracRow (setChance (rows z.s) z.c (its z.s.items.length b))).map V.int) ++ [.int (((its z.s.items.length b).length : Nat) : Int)])) hp4)
      refine ⟨_, rfl, p4, p, _, _, rfl, rfl, upd_same, s15 _ _ h1, by rw [List.length_map, ni_len, sizeLine_eq]; show 4 + _ ≤ _; omega, fun p5 hp5 => ?_⟩
      have s16 := Same.trans s15 (same_new (o := HO.lst ((([.int 1] ++ (fracRow (setChance (rows z.s) z.c (its z.s.items.length b))).map V.int) ++ [.int (((its z.s.items.length b).length : Nat) : Int)]) ++ (ni (its z.s.items.length b)).map V.int)) hp5)
      refine tell_end (a := ⟨1, fracRow (setChance (rows z.s) z.c (likeliest (rows z.s) z.c)) ++ Vaskye.nats ((likeliest (rows z.s) z.c).length :: likeliest (rows z.s) z.c)⟩) q hz Fz (noL_of (e1.trans (ext_same s15)) hp5) (e1.trans (ext_same s16)) (T1.ext s16) (hst _ (if_neg big)) ?_
      rw [eb]
      exact upd_same
/-! ### tell_just_set -/
theorem sc_tell_just_set : FnScope ["held", "call", "items", "item"] ["held", "call"] (defScope s_tell_just_set) := ⟨rfl, rfl, rfl, by decide +kernel, rfl, by decide +kernel, by decide +kernel⟩
theorem ok_tell_just_set {f : Addr} {fd : FuncData} (F : Fun K "tell_just_set" "tell_just_set" s_tell_just_set f fd) (B : Blt mg) (T_Call : CallTxt K mg CC fC) (D_is_item : Df P w K mg base CX0 2 "is_item" ["held", "number"] (spIsItem CH))
    (D_just_set_chance : Df P w K mg base CX0 4 "just_set_chance" ["held", "items"] (spJust K CH)) : FnOk P w K mg base CX0 20 f fd ["held", "call"] (spTell TT CH CC 5) := by
  obtain ⟨f_is_item, fd_is_item, m_is_item, o_is_item, k_is_item, b_is_item⟩ := D_is_item
  obtain ⟨f_just_set_chance, fd_just_set_chance, m_just_set_chance, o_just_set_chance, k_just_set_chance, b_just_set_chance⟩ := D_just_set_chance
  refine F.ok sc_tell_just_set (fun vs H Q E h => ?_) (fun cdv A outer s H vs Q E hr h => ⟨_, (pss_cons (ps_set (i := 2) sc_tell_just_set.nd rfl (.inl rfl) (pe_fld (pv 1) rfl))
      (pss_cons (ps_if (PW.pt (pw_or (pt_not (pt_val (pe_callB (cr_all rfl) (by rfl) B.all (by decide +kernel) (pa_cons (pe_lc (own := [("item", 3)]) (g := gName 3) (tt := tYes) rfl sc_tell_just_set.nd (pi_list (pv 2)) (blkOk_by (N := ["held", "call", "items", "item"]) (sc := defScope s_tell_just_set) (by decide +kernel)) (fun _ _ _ _ _ => (pg_name (i := 3) sc_tell_just_set.nd rfl (Or.inl rfl))) (fun _ _ _ _ _ => pts_nil) (fun _ _ _ _ _ => (pe_call o_is_item (hr.mono (by decide)) rfl m_is_item k_is_item b_is_item .nil pass0 (pa_cons (pv 0) (pa_cons (pv 3) pa_nil))))) pa_nil)))) (pw_or1 (pt_cmpR op_lt (KeyL.pe_lenSetI rfl rfl B.len rfl B.set (pv 2)) (pe_callB call_len_seq (by rfl) B.len PySem.boot_len (pa_cons (pv 2) pa_nil)) (nomark _)))))
        (pss_one (ps_ret (pe_lst (pa_cons (pe_un un_neg pe_int) pa_nil))))
        pss_nil)
      (pss_one (ps_ret (pe_op op_cat (pe_lst (pa_cons pe_int pa_nil)) (pe_call o_just_set_chance (hr.mono (by decide)) rfl m_just_set_chance k_just_set_chance b_just_set_chance .nil pass0 (pa_cons (pv 0) (pa_cons (pv 2) pa_nil)))))))), ?_⟩)
  · obtain ⟨h, c, z, xs, row, e, k, rfl, _⟩ := h
    rfl
  · obtain ⟨h, c, z, xs, row, e, k, rfl, hz, Fz, hT, ⟨dx, s, r, hc, hs, hrw⟩, r4, hk, q⟩ := h
    obtain rfl := call5 hk
    refine ⟨_, rfl, c, CC, dx, _, _, rfl, hc, T_Call.cl, T_Call.n3, call_r _ _ _ _, ?_⟩
    have hst : ∀ a, Vaskye.setAnswer z row = a → Vaskye.step (some z) (.set_ row) = (some z, a) := fun a ha => by
      rw [← ha]
      rfl
    refine ⟨_, rfl, r, rfl, ⟨_, SqL.of hrw⟩, fun D hD => lc_list (K := K) (a := r) (xs := row.map V.int)
      (fun j H' => Same H H' ∧ H' D = some (.lst (((row.take j).map fun i => decide (0 ≤ i ∧ i < (z.s.items.length : Int))).map V.bl))) ⟨same_new hD, upd_same⟩ (fun j H' _ h => h.1.seq (SqL.of hrw)) ?_ ?_⟩
    · rintro j x H' hx ⟨s1, h4⟩
      rw [List.getElem?_map] at hx
      cases hj : row[j]? with
      | none =>
        rw [hj] at hx
        cases hx
      | some m =>
        rw [hj] at hx
        cases hx
        have tl := List.length_take_le' j row
        refine ⟨rfl, _, rfl, _, rfl, h, z, m, rfl, hz.same s1, _, h4, ?_, fun c o hb => by rw [upd_ne (ne_of_none hb hD)]; exact s1 _ _ hb, ?_⟩
        · rw [List.length_map, List.length_map, sizeLine_eq]
          omega
        · rw [← ok_take_map (f := fun i : Int => decide (0 ≤ i ∧ i < (z.s.items.length : Int))) hj, List.map_append]
          exact upd_same
    · rintro H1 ⟨s1, h4⟩
      rw [List.length_map, List.take_length] at h4
      refine ⟨D, _, rfl, SqL.of h4, _, rfl, ?_⟩
      have bad : Vaskye.setAnswer z row = VaskyBase.one (-2) → ∀ H2 l, Same H1 H2 → H2 l = none → Q (.ref l) (upd H2 l (.lst [.int (-2)])) := fun hb H2 l s2 hl => by
        have s3 := s1.trans (Same.trans s2 (same_new (o := HO.lst [.int (-2)]) hl))
        exact tell_end (a := VaskyBase.one (-2)) q hz Fz (noL_of (ext_same (s1.trans s2)) hl) (ext_same s3) (hT.ext s3) (hst _ hb) upd_same
      by_cases ok1 : ((row.map fun i => decide (0 ≤ i ∧ i < (z.s.items.length : Int))).all id) = true
      · rw [ok1]
        have all0 : ∀ i ∈ row, 0 ≤ i ∧ i < (z.s.items.length : Int) := fun i hi => by
          rw [List.all_eq_true] at ok1
          exact of_decide_eq_true (ok1 _ (List.mem_map.mpr ⟨i, hi, rfl⟩))
        have no1 : row.any (fun i => (VaskyBase.index i z.s.items.length).isNone) = false := by
          rw [List.any_eq_false]
          intro i hi
          unfold VaskyBase.index
          rw [if_pos (all0 i hi)]
          exact Bool.false_ne_true
        refine if_f rfl ⟨_, rfl, r, row, rfl, SqL.of (s1 _ _ hrw), r4, _, rfl, r, _, rfl, .inl (SqL.of (s1 _ _ hrw)), _, _, rfl, rfl, _, rfl, ?_⟩
        rw [List.length_map]
        by_cases dup : row.eraseDups.length < row.length
        · refine if_t (decide_eq_true (by omega)) ⟨_, rfl, by show 1 ≤ sizeLine; rw [sizeLine_eq]; omega, fun l hl => bad ?_ H1 l (Same.refl H1) hl⟩
          unfold Vaskye.setAnswer
          rw [if_pos (.inr dup)]
        · refine if_f (decide_eq_false (by omega)) ?_
          have rr : row = ni (row.map Int.toNat) := by
            unfold ni
            rw [List.map_map]
            refine (List.map_id' row).symm.trans (List.map_congr_left fun i hi => ?_)
            exact (Int.toNat_of_nonneg (all0 i hi).1).symm
          have ndr : row.Nodup := nodup_of_dups (Nat.le_of_not_lt dup)
          have nd : (row.map Int.toNat).Nodup := by
            rw [rr] at ndr
            unfold ni at ndr
            rw [List.Nodup, List.pairwise_map] at ndr
            exact ndr.imp fun {a b} hne e => hne (by rw [e])
          have lt : ∀ i ∈ row.map Int.toNat, i < z.s.items.length := fun i hi => by
            obtain ⟨y, hy, rfl⟩ := List.mem_map.mp hi
            have := all0 y hy
            omega
          have hS : H r = some (.lst ((ni (row.map Int.toNat)).map V.int)) := by rw [← rr]; exact hrw
          refine ⟨by show 1 ≤ sizeLine; rw [sizeLine_eq]; omega, fun l hl => ?_⟩
          have s2 : Same H (upd H1 l (.lst [.int 1])) := s1.trans (same_new hl)
          refine ⟨_, rfl, _, rfl, h, r, z, row.map Int.toNat, rfl, hz.same s2, Fz, SqL.of (s2 _ _ hS), nd, lt, fun p2 H2 s3 p20 fr => ?_⟩
          refine ⟨l, p2, _, _, rfl, rfl, s3 _ _ upd_same, fr, by show 1 + 2 ≤ sizeLine; rw [sizeLine_eq]; omega, fun p3 hp3 => ?_⟩
          have s4 := s2.trans (Same.trans s3 (same_new (o := HO.lst ([.int 1] ++ (fracRow (setChance (rows z.s) z.c (row.map Int.toNat))).map V.int)) hp3))
          refine tell_end (a := ⟨1, fracRow (setChance (rows z.s) z.c (row.map Int.toNat))⟩) q hz Fz (noL_of (ext_same (s2.trans s3)) hp3) (ext_same s4) (hT.ext s4) (hst _ ?_) upd_same
          unfold Vaskye.setAnswer
          rw [if_neg (fun q => by
            rcases q with q | q
            · rw [no1] at q
              cases q
            · exact dup q)]
      · have f1 : ((row.map fun i => decide (0 ≤ i ∧ i < (z.s.items.length : Int))).all id) = false := by simpa using ok1
        rw [f1]
        refine if_t rfl ⟨_, rfl, by show 1 ≤ sizeLine; rw [sizeLine_eq]; omega, fun l hl => bad ?_ H1 l (Same.refl H1) hl⟩
        have some0 : row.any (fun i => (VaskyBase.index i z.s.items.length).isNone) = true := by
          rw [List.any_eq_true]
          rw [List.all_eq_false] at f1
          obtain ⟨x, hx, nx⟩ := f1
          obtain ⟨i, hi, rfl⟩ := List.mem_map.mp hx
          refine ⟨i, hi, ?_⟩
          unfold VaskyBase.index
          rw [if_neg (fun q => nx (decide_eq_true q))]
          rfl
        unfold Vaskye.setAnswer
        exact if_pos (.inl some0)
end
end Off
end
section
set_option Elab.async false
set_option linter.all false
set_option maxRecDepth 100000
set_option maxHeartbeats 4000000
namespace Off
open PySem PySem.Spec PyProof.Rows L2 LamX NdefX
open VaskyBase (Frac frac plus fracRow whole)
open Vaskya (Measure Item Sheet rows)
open Vaskye (there away product unbeatenChance allChances setChance apart mustGo likeliest countChances addTo known)
theorem fine_set {z : Vaskye.Held} (Fz : Fine z) {y m : Nat} (hm : m ≤ z.c.q) : Fine ⟨z.s, ⟨z.c.q, z.c.ns.set y m⟩⟩ := by
  refine ⟨Fz.ms, Fz.it, Fz.vs, Fz.q1, Fz.q100, ?_, fun n hn => ?_⟩
  · show (z.c.ns.set y m).length = _
    rw [List.length_set]
    exact Fz.ln
  · rcases List.mem_or_eq_of_mem_set hn with h | h
    · exact Fz.le n h
    · rw [h]
      exact hm
section
variable {P : Program} {w : World} {K : PySem.W.Frag} {mg : Str → Option Value} {base : Heap} {CH fH CC fC : Addr} {fdH : FuncData} {TT : List (Addr × Str)}
/-! ### tell_given -/
theorem sc_tell_given : FnScope ["held", "call", "item", "other", "there", "known"] ["held", "call"] (defScope s_tell_given) := ⟨rfl, rfl, rfl, by decide +kernel, rfl, by decide +kernel, by decide +kernel⟩
theorem ok_tell_given {f : Addr} {fd : FuncData} (F : Fun K "tell_given" "tell_given" s_tell_given f fd) (T_Held : HeldTxt K mg CH fH) (T_Call : CallTxt K mg CC fC) (D_is_item : Df P w K mg base CX0 2 "is_item" ["held", "number"] (spIsItem CH))
    (D_with_numerator : Df P w K mg base CX0 3 "with_numerator" ["held", "item", "numerator"] (spWith CH)) (D_unbeaten_chance : Df P w K mg base CX0 4 "unbeaten_chance" ["held", "item"] (spChance CH)) : FnOk P w K mg base CX0 20 f fd ["held", "call"] (spTell TT CH CC 8) := by
  obtain ⟨f_is_item, fd_is_item, m_is_item, o_is_item, k_is_item, b_is_item⟩ := D_is_item
  obtain ⟨f_with_numerator, fd_with_numerator, m_with_numerator, o_with_numerator, k_with_numerator, b_with_numerator⟩ := D_with_numerator
  obtain ⟨f_unbeaten_chance, fd_unbeaten_chance, m_unbeaten_chance, o_unbeaten_chance, k_unbeaten_chance, b_unbeaten_chance⟩ := D_unbeaten_chance
  refine F.ok sc_tell_given (fun vs H Q E h => ?_) (fun cdv A outer s H vs Q E hr h => ⟨_, (pss_cons (ps_set (i := 2) sc_tell_given.nd rfl (.inl rfl) (pe_ix ix_list (pe_fld (pv 1) rfl) pe_int (fun _ _ => rfl)))
      (pss_cons (ps_set (i := 3) sc_tell_given.nd rfl (.inl rfl) (pe_ix ix_list (pe_fld (pv 1) rfl) pe_int (fun _ _ => rfl)))
      (pss_cons (ps_set (i := 4) sc_tell_given.nd rfl (.inl rfl) (pe_ix ix_list (pe_fld (pv 1) rfl) pe_int (fun _ _ => rfl)))
      (pss_cons (ps_if (PW.pt (pw_or (pt_not (pt_val (pe_call o_is_item (hr.mono (by decide)) rfl m_is_item k_is_item b_is_item .nil pass0 (pa_cons (pv 0) (pa_cons (pv 2) pa_nil))))) (pw_or1 (pt_not (pt_val (pe_call o_is_item (hr.mono (by decide)) rfl m_is_item k_is_item b_is_item .nil pass0 (pa_cons (pv 0) (pa_cons (pv 3) pa_nil))))))))
        (pss_one (ps_ret (pe_lst (pa_cons (pe_un un_neg pe_int) pa_nil))))
        pss_nil)
      (pss_cons (ps_if (PW.pt (pw_and (pt_cmpR op_ne (pv 4) pe_int (nomark _)) (pw_and1 (pt_cmpR op_ne (pv 4) pe_int (nomark _)))))
        (pss_one (ps_ret (pe_lst (pa_cons (pe_un un_neg pe_int) pa_nil))))
        pss_nil)
      (pss_cons (ps_set (i := 5) sc_tell_given.nd rfl (.inl rfl) (pe_op op_mul (pv 4) (pe_fld (pv 0) rfl)))
      (pss_cons (ps_if (pt_cmpR op_eq (pe_ix ix_list (pe_fld (pv 0) rfl) (pv 3) (fun _ _ => rfl)) (pe_op op_sub (pe_fld (pv 0) rfl) (pv 5)) (nomark _))
        (pss_one (ps_ret (pe_lst (pa_cons (pe_un un_neg pe_int) pa_nil))))
        pss_nil)
      (pss_one (ps_ret (pe_op op_cat (pe_lst (pa_cons pe_int pa_nil)) (pe_call o_unbeaten_chance (hr.mono (by decide)) rfl m_unbeaten_chance k_unbeaten_chance b_unbeaten_chance .nil pass0 (pa_cons (pe_call o_with_numerator (hr.mono (by decide)) rfl m_with_numerator k_with_numerator b_with_numerator .nil pass0 (pa_cons (pv 0) (pa_cons (pv 3) (pa_cons (pv 5) pa_nil)))) (pa_cons (pv 2) pa_nil))))))))))))), ?_⟩)
  · obtain ⟨h, c, z, xs, row, e, k, rfl, _⟩ := h
    rfl
  · obtain ⟨h, c, z, xs, row, e, k, rfl, hz, Fz, hT, ⟨dx, s, r, hc, hs, hrw⟩, _, hk, q⟩ := h
    obtain ⟨i, j, v, rfl, rfl⟩ := call8 hk
    have hst : ∀ a, (Vaskye.withItem z i fun x => Vaskye.withItem z j fun y => if v ≠ 0 ∧ v ≠ 1 then VaskyBase.one (-5) else if (if v = 1 then there z.c y else away z.c y) = 0 then VaskyBase.one (-8) else ⟨1, fracRow (unbeatenChance (rows z.s) (known z.c y (decide (v = 1))) x)⟩) = a → Vaskye.step (some z) (.given i j v) = (some z, a) := fun a ha => by
      rw [← ha]
      rfl
    have ref : ∀ (n : Int) (a : VaskyBase.Answer), a = VaskyBase.one n → Vaskye.step (some z) (.given i j v) = (some z, a) → ∀ l, H l = none → Q (.ref l) (upd H l (.lst [.int n])) := fun n a ea hs l hl => by
      subst ea
      exact tell_end (a := VaskyBase.one n) q hz Fz (noL_0 hl) (ext_same (same_new hl)) (hT.ext (same_new hl)) hs upd_same
    refine ⟨_, rfl, c, CC, dx, _, _, rfl, hc, T_Call.cl, T_Call.n2, call_s _ _ _ _, s, _, _, _, rfl, rfl, SqL.of hs, atI_nat (j := 0) rfl, ?_⟩
    refine ⟨_, rfl, c, CC, dx, _, _, rfl, hc, T_Call.cl, T_Call.n2, call_s _ _ _ _, s, _, _, _, rfl, rfl, SqL.of hs, atI_nat (j := 1) rfl, ?_⟩
    refine ⟨_, rfl, c, CC, dx, _, _, rfl, hc, T_Call.cl, T_Call.n2, call_s _ _ _ _, s, _, _, _, rfl, rfl, SqL.of hs, atI_nat (j := 2) rfl, ?_⟩
    refine ⟨_, rfl, _, rfl, h, z, i, rfl, hz, _, rfl, ?_⟩
    by_cases ci : 0 ≤ i ∧ i < (z.s.items.length : Int)
    · rw [decide_eq_true ci]
      refine if_f rfl ⟨_, rfl, _, rfl, h, z, j, rfl, hz, _, rfl, ?_⟩
      obtain ⟨x, rfl⟩ : ∃ m : Nat, i = (m : Int) := ⟨i.toNat, by omega⟩
      have xl : x < z.s.items.length := by omega
      by_cases cj : 0 ≤ j ∧ j < (z.s.items.length : Int)
      · rw [decide_eq_true cj]
        obtain ⟨y, rfl⟩ : ∃ m : Nat, j = (m : Int) := ⟨j.toNat, by omega⟩
        have yl : y < z.s.items.length := by omega
        have hst2 : ∀ a, (if v ≠ 0 ∧ v ≠ 1 then VaskyBase.one (-5) else if (if v = 1 then there z.c y else away z.c y) = 0 then VaskyBase.one (-8) else ⟨1, fracRow (unbeatenChance (rows z.s) (known z.c y (decide (v = 1))) x)⟩) = a → Vaskye.step (some z) (.given (x : Int) (y : Int) v) = (some z, a) := fun a ha => hst a (by rw [item_yes xl, item_yes yl]; exact ha)
        refine if_f rfl ⟨_, rfl, rfl, _, rfl, ?_⟩
        have ne_int : ∀ a b : Int, a ≠ b → (!decide (V.int a = V.int b)) = true := fun a b hne => by
          rw [decide_eq_false (fun q => hne (V.int.inj q))]
          rfl
        have eq_int : ∀ a b : Int, a = b → (!decide (V.int a = V.int b)) = false := fun a b he => by
          rw [decide_eq_true (by rw [he])]
          rfl
        -- with v known to be right
        have nget : atI ((ni z.c.ns).map V.int) (y : Int) = some (.int (there z.c y : Int)) := atI_nat (by
          rw [List.getElem?_map, there_get (by rw [Fz.ln]; exact yl)]
          rfl)
        have q100 := Fz.q100
        have tl := there_le Fz y
        obtain ⟨dh, b, n, h1, hR, h3⟩ := id hz
        have go : ∀ (m : Nat), m ≤ z.c.q → v * (z.c.q : Int) = (m : Int) → ((if v = 1 then there z.c y else away z.c y) = 0 ↔ (there z.c y : Int) = (z.c.q : Int) - (m : Int)) → (⟨z.c.q, z.c.ns.set y m⟩ : Vaskye.Chances) = known z.c y (decide (v = 1)) → ¬ (v ≠ 0 ∧ v ≠ 1) →
            (decide (V.int (there z.c y : Int) = V.int ((z.c.q : Int) - (m : Int))) = true → ∀ l, H l = none → Q (.ref l) (upd H l (.lst [.int (-8)]))) ∧
            (decide (V.int (there z.c y : Int) = V.int ((z.c.q : Int) - (m : Int))) = false → ∀ p H', NoL H p → Same H H' → H' p = some (.lst ([.int 1] ++ (fracRow (unbeatenChance (rows z.s) ⟨z.c.q, z.c.ns.set y m⟩ x)).map V.int)) → Q (.ref p) H') := fun m hm _ hz0 hk1 hv => by
          constructor
          · intro ht l hl
            have : (there z.c y : Int) = (z.c.q : Int) - (m : Int) := V.int.inj (of_decide_eq_true ht)
            exact ref (-8) _ rfl (hst2 _ (by rw [if_neg hv, if_pos (hz0.mpr this)])) l hl
          · intro ht p H' np s1 hp
            have : ¬ (there z.c y : Int) = (z.c.q : Int) - (m : Int) := fun q => of_decide_eq_false ht (by rw [q])
            refine tell_end (a := ⟨1, fracRow (unbeatenChance (rows z.s) (known z.c y (decide (v = 1))) x)⟩) q hz Fz np (ext_same s1) (hT.ext s1) (hst2 _ (by rw [if_neg hv, if_neg (fun q => this (hz0.mp q))])) ?_
            rw [← hk1]
            exact hp
        by_cases v0 : v = 0
        · subst v0
          refine if_f (eq_int 0 0 rfl) ?_
          obtain ⟨g8, g1⟩ := go 0 (Nat.zero_le _) (by omega) (by unfold away; rw [if_neg (by decide)]; omega) rfl (fun q => q.1 rfl)
          refine ⟨_, rfl, _, rfl, h, CH, dh, _, _, rfl, h1, T_Held.cl, T_Held.n2, held_q _ _ _, _, _, rfl, rfl, .inr (by omega), ?_⟩
          refine ⟨_, rfl, h, CH, dh, _, _, rfl, h1, T_Held.cl, T_Held.n3, held_n _ _ _, _, rfl, n, _, _, _, rfl, rfl, SqL.of h3, nget, _, rfl, h, CH, dh, _, _, rfl, h1, T_Held.cl, T_Held.n2, held_q _ _ _, _, rfl, _, _, rfl, rfl, rfl, _, rfl, ite_test (show decide (V.int (there z.c y : Int) = V.int ((z.c.q : Int) - 0 * (z.c.q : Int))) = decide (V.int (there z.c y : Int) = V.int ((z.c.q : Int) - ((0 : Nat) : Int))) by rw [Int.zero_mul]; rfl) (fun t8 => ?_) fun t8 => ?_⟩
          · exact ⟨_, rfl, by show 1 ≤ sizeLine; rw [sizeLine_eq]; omega, fun l hl => g8 t8 l hl⟩
          · refine ⟨by show 1 ≤ sizeLine; rw [sizeLine_eq]; omega, fun l hl => ?_⟩
            have s1 : Same H (upd H l (.lst [.int 1])) := same_new hl
            refine ⟨_, rfl, _, rfl, _, rfl, h, z, y, 0, by show [V.ref h, V.int (y : Int), V.int (0 * (z.c.q : Int))] = _; rw [Int.zero_mul]; rfl, hz.same s1, Fz, yl, fun h' H2 s2 hz2 => ?_⟩
            refine ⟨_, rfl, h', ⟨z.s, ⟨z.c.q, z.c.ns.set y (0)⟩⟩, x, rfl, hz2, fine_set Fz (by omega), xl, fun p2 H3 s3 p20 fr => ?_⟩
            refine ⟨l, p2, _, _, rfl, rfl, s3 _ _ (s2 _ _ upd_same), fr, by show 1 + 2 ≤ sizeLine; rw [sizeLine_eq]; omega, fun p3 hp3 => ?_⟩
            exact g1 t8 p3 _ (noL_of (ext_same (s1.trans (Same.trans s2 s3))) hp3) (s1.trans (Same.trans s2 (Same.trans s3 (same_new hp3)))) upd_same
        · refine if_t (ne_int v 0 v0) ⟨_, rfl, rfl, _, rfl, ?_⟩
          by_cases v1 : v = 1
          · subst v1
            refine if_f (eq_int 1 1 rfl) ?_
            obtain ⟨g8, g1⟩ := go z.c.q (Nat.le_refl _) (Int.one_mul _) (by rw [if_pos rfl]; omega) rfl (fun q => q.2 rfl)
            refine ⟨_, rfl, _, rfl, h, CH, dh, _, _, rfl, h1, T_Held.cl, T_Held.n2, held_q _ _ _, _, _, rfl, rfl, .inr (by omega), ?_⟩
            refine ⟨_, rfl, h, CH, dh, _, _, rfl, h1, T_Held.cl, T_Held.n3, held_n _ _ _, _, rfl, n, _, _, _, rfl, rfl, SqL.of h3, nget, _, rfl, h, CH, dh, _, _, rfl, h1, T_Held.cl, T_Held.n2, held_q _ _ _, _, rfl, _, _, rfl, rfl, rfl, _, rfl, ite_test (show decide (V.int (there z.c y : Int) = V.int ((z.c.q : Int) - 1 * (z.c.q : Int))) = decide (V.int (there z.c y : Int) = V.int ((z.c.q : Int) - (z.c.q : Int))) by rw [Int.one_mul]) (fun t8 => ?_) fun t8 => ?_⟩
            · exact ⟨_, rfl, by show 1 ≤ sizeLine; rw [sizeLine_eq]; omega, fun l hl => g8 t8 l hl⟩
            · refine ⟨by show 1 ≤ sizeLine; rw [sizeLine_eq]; omega, fun l hl => ?_⟩
              have s1 : Same H (upd H l (.lst [.int 1])) := same_new hl
              refine ⟨_, rfl, _, rfl, _, rfl, h, z, y, z.c.q, by show [V.ref h, V.int (y : Int), V.int (1 * (z.c.q : Int))] = _; rw [Int.one_mul], hz.same s1, Fz, yl, fun h' H2 s2 hz2 => ?_⟩
              refine ⟨_, rfl, h', ⟨z.s, ⟨z.c.q, z.c.ns.set y (z.c.q)⟩⟩, x, rfl, hz2, fine_set Fz (by omega), xl, fun p2 H3 s3 p20 fr => ?_⟩
              refine ⟨l, p2, _, _, rfl, rfl, s3 _ _ (s2 _ _ upd_same), fr, by show 1 + 2 ≤ sizeLine; rw [sizeLine_eq]; omega, fun p3 hp3 => ?_⟩
              exact g1 t8 p3 _ (noL_of (ext_same (s1.trans (Same.trans s2 s3))) hp3) (s1.trans (Same.trans s2 (Same.trans s3 (same_new hp3)))) upd_same
          · refine if_t (ne_int v 1 v1) ⟨_, rfl, by show 1 ≤ sizeLine; rw [sizeLine_eq]; omega, fun l hl => ref (-5) _ rfl (hst2 _ (if_pos ⟨v0, v1⟩)) l hl⟩
      · rw [decide_eq_false cj]
        refine if_t rfl ⟨_, rfl, by show 1 ≤ sizeLine; rw [sizeLine_eq]; omega, fun l hl => ref (-2) _ rfl (hst _ ?_) l hl⟩
        rw [item_yes xl, item_no cj]
    · rw [decide_eq_false ci]
      refine if_t rfl ⟨_, rfl, by show 1 ≤ sizeLine; rw [sizeLine_eq]; omega, fun l hl => ref (-2) _ rfl (hst _ (item_no ci)) l hl⟩
/-! ### are_chances -/
def okChances (z : Vaskye.Held) (q : Int) (l : List Int) : Bool := decide (1 ≤ q) && decide (q ≤ 100) && decide (l.length = z.s.items.length) && l.all fun n => decide (0 ≤ n ∧ n ≤ q)
def spAre (C : Addr) : Sp := fun vs H Q _ => ∃ (h r : Addr) (z : Vaskye.Held) (q : Int) (l : List Int), vs = [.ref h, .int q, .ref r] ∧ HeldAt C H h z ∧ H r = some (.lst (l.map V.int)) ∧ l.length ≤ 4000 ∧ ∀ H', Same H H' → Q (.bl (okChances z q l)) H'
theorem sc_are_chances : FnScope ["held", "q", "numerators", "numerator"] ["held", "q", "numerators"] (defScope s_are_chances) := ⟨rfl, rfl, rfl, by decide +kernel, rfl, by decide +kernel, by decide +kernel⟩
theorem ok_are_chances {f : Addr} {fd : FuncData} (F : Fun K "are_chances" "are_chances" s_are_chances f fd) (B : Blt mg) (gM : ∃ t, mg "MOST_Q" = some (.int 100 t)) (D_item_count : Df P w K mg base CX0 1 "item_count" ["held"] (spCount CH)) :
    FnOk P w K mg base CX0 2 f fd ["held", "q", "numerators"] (spAre CH) := by
  obtain ⟨tM, g_MOST_Q⟩ := gM
  obtain ⟨f_item_count, fd_item_count, m_item_count, o_item_count, k_item_count, b_item_count⟩ := D_item_count
  refine F.ok sc_are_chances (fun vs H Q E h => ?_) (fun cdv A outer s H vs Q E hr h => ⟨_, (pss_cons (ps_if (PW.pt (pw_or (pt_cmpR op_lt (pv 1) pe_int (nomark _)) (pw_or (pt_cmpR op_gt (pv 1) (pe_glob (v := .int 100) rfl g_MOST_Q ⟨_, rfl⟩) (nomark _)) (pw_or1 (pt_cmpR op_ne (pe_callB call_len_seq (by rfl) B.len PySem.boot_len (pa_cons (pv 2) pa_nil)) (pe_call o_item_count (hr.mono (by decide)) rfl m_item_count k_item_count b_item_count .nil pass0 (pa_cons (pv 0) pa_nil)) (nomark _))))))
        (pss_one (ps_ret pe_bl))
        pss_nil)
      (pss_one (ps_ret (pe_callB (cr_all rfl) (by rfl) B.all (by decide +kernel) (pa_cons (pe_lc (own := [("numerator", 3)]) (g := gName 3) (tt := tYes) rfl sc_are_chances.nd (pi_list (pv 2)) (blkOk_by (N := ["held", "q", "numerators", "numerator"]) (sc := defScope s_are_chances) (by decide +kernel)) (fun _ _ _ _ _ => (pg_name (i := 3) sc_are_chances.nd rfl (Or.inl rfl))) (fun _ _ _ _ _ => pts_nil) (fun _ _ _ _ _ => (pe_chain op_le op_le pe_int (pv 3) (pv 1)))) pa_nil))))), ?_⟩)
  · obtain ⟨h, r, z, q, l, rfl, _⟩ := h
    rfl
  · obtain ⟨h, r, z, q, l, rfl, hz, hr1, hl, k⟩ := h
    refine ⟨_, rfl, _, _, rfl, rfl, _, rfl, ?_⟩
    by_cases c1 : q < 1
    · refine if_t (decide_eq_true c1) ?_
      have := k H (Same.refl H)
      unfold okChances at this
      rw [decide_eq_false (by omega)] at this
      exact this
    refine if_f (decide_eq_false c1) ⟨_, rfl, _, _, rfl, rfl, _, rfl, ?_⟩
    by_cases c2 : (100 : Int) < q
    · refine if_t (decide_eq_true (show q > 100 from c2)) ?_
      have := k H (Same.refl H)
      unfold okChances at this
      rw [decide_eq_true (show (1 : Int) ≤ q by omega), decide_eq_false (show ¬ q ≤ 100 by omega)] at this
      exact this
    refine if_f (decide_eq_false (show ¬ q > 100 from c2)) ⟨_, rfl, r, _, rfl, .inl (SqL.of hr1), _, rfl, h, z, rfl, hz, rfl, _, rfl, ?_⟩
    rw [List.length_map]
    by_cases c3 : l.length = z.s.items.length
    · refine if_f (by rw [c3, decide_eq_true rfl]; rfl) ?_
      refine ⟨_, rfl, r, rfl, ⟨_, SqL.of hr1⟩, fun D hD => lc_list (K := K) (a := r) (xs := l.map V.int)
        (fun j H' => Same H H' ∧ H' D = some (.lst (((l.take j).map fun n => decide (0 ≤ n ∧ n ≤ q)).map V.bl))) ⟨same_new hD, upd_same⟩ (fun j H' _ h => h.1.seq (SqL.of hr1)) ?_ ?_⟩
      · rintro j x H' hx ⟨s1, h4⟩
        rw [List.getElem?_map] at hx
        cases hj : l[j]? with
        | none =>
          rw [hj] at hx
          cases hx
        | some m =>
          rw [hj] at hx
          cases hx
          have tl := List.length_take_le' j l
          have fin : ∀ b, b = decide (0 ≤ m ∧ m ≤ q) → ∃ acc, H' D = some (.lst acc) ∧ acc.length < sizeLine ∧ Same H (upd H' D (.lst (acc ++ [.bl b]))) ∧ upd H' D (.lst (acc ++ [.bl b])) D = some (.lst (((l.take (j + 1)).map fun n => decide (0 ≤ n ∧ n ≤ q)).map V.bl)) := fun b eb => by
            refine ⟨_, h4, ?_, fun c o hb => by rw [upd_ne (ne_of_none hb hD)]; exact s1 _ _ hb, ?_⟩
            · rw [List.length_map, List.length_map, sizeLine_eq]
              omega
            · rw [← ok_take_map (f := fun n : Int => decide (0 ≤ n ∧ n ≤ q)) hj, List.map_append, eb]
              exact upd_same
          by_cases p0 : (0 : Int) ≤ m
          · refine ⟨rfl, _, rfl, _, _, rfl, rfl, _, rfl, if_t (decide_eq_true p0) ⟨_, rfl, _, _, rfl, rfl, fin _ ?_⟩⟩
            exact decide_eq_decide.mpr ⟨fun a => ⟨p0, a⟩, fun a => a.2⟩
          · refine ⟨rfl, _, rfl, _, _, rfl, rfl, _, rfl, if_f (decide_eq_false p0) (fin _ ?_)⟩
            exact (decide_eq_false (fun a => p0 a.1)).symm
      · rintro H' ⟨s1, h4⟩
        rw [List.length_map, List.take_length] at h4
        refine ⟨D, _, rfl, SqL.of h4, ?_⟩
        have := k H' s1
        unfold okChances at this
        rw [decide_eq_true (show (1 : Int) ≤ q by omega), decide_eq_true (show q ≤ 100 by omega), decide_eq_true c3] at this
        rw [List.all_map]
        exact this
    · refine if_t (by rw [decide_eq_false (fun e => c3 (by have := V.int.inj e; omega))]; rfl) ?_
      have := k H (Same.refl H)
      unfold okChances at this
      rw [decide_eq_true (show (1 : Int) ≤ q by omega), decide_eq_true (show q ≤ 100 by omega), decide_eq_false c3] at this
      exact this
theorem tabs_ins {T : List (Addr × Str)} {H H' : Hp} (t : Tabs T H) (e : ∀ c o, H c = some o → (∀ C d fs, o ≠ .ins C d fs) → H' c = some o) : Tabs T H' := fun p hp => by
  obtain ⟨ps, h1, h2, h3⟩ := t p hp
  refine ⟨ps, e _ _ h1 (fun _ _ _ q => by cases q), h2, fun pos cv hc => ?_⟩
  obtain ⟨c, e1, e2⟩ := h3 pos cv hc
  exact ⟨c, e1, e _ _ e2 (fun _ _ _ q => by unfold CodeO at q; cases q)⟩
theorem call_held {CC CH : Addr} {H : Hp} {c h dx dh s r b m : Addr} {n e : Int} {q : Nat} (h1 : H c = some (.ins CC dx (fCall n s r e))) (h2 : H h = some (.ins CH dh (fHeld b q m))) : c ≠ h := fun z => by
  rw [z, h2] at h1
  have h3 := Option.some.inj h1
  injection h3 with _ _ h4
  have h5 := (List.cons.inj h4).1
  have h6 : ("beaters" : Str) = ("number" : Str) := congrArg Prod.fst h5
  exact absurd h6 (by decide)
/-! ### set_chances -/
theorem ok_iff {z : Vaskye.Held} {q : Int} {l : List Int} : okChances z q l = true ↔ (1 ≤ q ∧ q ≤ 100 ∧ l.length = z.s.items.length ∧ ∀ n ∈ l, 0 ≤ n ∧ n ≤ q) := by
  unfold okChances
  rw [Bool.and_eq_true, Bool.and_eq_true, Bool.and_eq_true, decide_eq_true_iff, decide_eq_true_iff, decide_eq_true_iff, List.all_eq_true]
  constructor
  · rintro ⟨⟨⟨a, b⟩, c⟩, d⟩
    exact ⟨a, b, c, fun n hn => of_decide_eq_true (d n hn)⟩
  · rintro ⟨a, b, c, d⟩
    exact ⟨⟨⟨a, b⟩, c⟩, fun n hn => decide_eq_true (d n hn)⟩
theorem bad_iff {z : Vaskye.Held} {q : Int} {l : List Int} : okChances z q l = false ↔ (q < 1 ∨ (Vaskye.PARTS : Int) < q ∨ l.length ≠ z.s.items.length ∨ l.any (fun n => decide (n < 0 ∨ q < n)) = true) := by
  rw [← Bool.not_eq_true, ok_iff]
  show _ ↔ (q < 1 ∨ (100 : Int) < q ∨ _)
  constructor
  · intro h
    by_cases a : q < 1
    · exact .inl a
    by_cases b : (100 : Int) < q
    · exact .inr (.inl b)
    by_cases c : l.length = z.s.items.length
    · refine .inr (.inr (.inr ?_))
      rw [List.any_eq_true]
      cases em : l.any (fun n => decide (n < 0 ∨ q < n)) with
      | true =>
        rw [List.any_eq_true] at em
        exact em
      | false =>
        rw [List.any_eq_false] at em
        refine absurd ⟨by omega, by omega, c, fun n hn => ?_⟩ h
        have := em n hn
        rw [decide_eq_true_iff] at this
        omega
    · exact .inr (.inr (.inl c))
  · rintro (a | a | a | a) ⟨h1, h2, h3, h4⟩
    · omega
    · omega
    · exact a h3
    · rw [List.any_eq_true] at a
      obtain ⟨n, hn, h5⟩ := a
      have := h4 n hn
      have := of_decide_eq_true h5
      omega
theorem sc_set_chances : FnScope ["held", "call", "q"] ["held", "call"] (defScope s_set_chances) := ⟨rfl, rfl, rfl, by decide +kernel, rfl, by decide +kernel, by decide +kernel⟩
theorem ok_set_chances {f : Addr} {fd : FuncData} (F : Fun K "set_chances" "set_chances" s_set_chances f fd) (B : Blt mg) (T_Held : HeldTxt K mg CH fH) (T_Call : CallTxt K mg CC fC) (D_are_chances : Df P w K mg base CX0 2 "are_chances" ["held", "q", "numerators"] (spAre CH)) :
    FnOk P w K mg base CX0 20 f fd ["held", "call"] (spTell TT CH CC 1) := by
  obtain ⟨f_are_chances, fd_are_chances, m_are_chances, o_are_chances, k_are_chances, b_are_chances⟩ := D_are_chances
  refine F.ok sc_set_chances (fun vs H Q E h => ?_) (fun cdv A outer s H vs Q E hr h => ⟨_, (pss_cons (ps_set (i := 2) sc_set_chances.nd rfl (.inl rfl) (pe_ix ix_list (pe_fld (pv 1) rfl) pe_int (fun _ _ => rfl)))
      (pss_cons (ps_if (pt_not (pt_val (pe_call o_are_chances (hr.mono (by decide)) rfl m_are_chances k_are_chances b_are_chances .nil pass0 (pa_cons (pv 0) (pa_cons (pv 2) (pa_cons (pe_fld (pv 1) rfl) pa_nil))))))
        (pss_one (ps_ret (pe_lst (pa_cons (pe_un un_neg pe_int) pa_nil))))
        pss_nil)
      (pss_cons (ps_fld (pv 0) (pv 2) rfl)
      (pss_cons (ps_fld (pv 0) (pe_callTy call_list_of (by rfl) B.list (by decide +kernel) (pa_cons (pe_fld (pv 1) rfl) pa_nil)) rfl)
      (pss_one (ps_ret (pe_lst (pa_cons pe_int pa_nil)))))))), ?_⟩)
  · obtain ⟨h, c, z, xs, row, e, k, rfl, _⟩ := h
    rfl
  · obtain ⟨h, c, z, xs, row, e, k, rfl, hz, Fz, hT, ⟨dx, s, r, hc, hs, hrw⟩, r4, hk, qq⟩ := h
    obtain ⟨q, rfl, rfl⟩ := call1 hk
    refine ⟨_, rfl, c, CC, dx, _, _, rfl, hc, T_Call.cl, T_Call.n2, call_s _ _ _ _, s, _, _, _, rfl, rfl, SqL.of hs, atI_nat (j := 0) rfl, ?_⟩
    refine ⟨_, rfl, _, rfl, _, rfl, c, CC, dx, _, _, rfl, hc, T_Call.cl, T_Call.n3, call_r _ _ _ _, h, r, z, q, row, rfl, hz, hrw, r4, fun H1 s1 => ⟨_, rfl, ?_⟩⟩
    cases oc : okChances z q row with
    | false =>
      refine if_t rfl ⟨_, rfl, by show 1 ≤ sizeLine; rw [sizeLine_eq]; omega, fun l hl => ?_⟩
      have s2 := s1.trans (same_new (o := HO.lst [.int (-4)]) hl)
      refine tell_end (a := VaskyBase.one (-4)) qq hz Fz (noL_of (ext_same s1) hl) (ext_same s2) (hT.ext s2) ?_ upd_same
      show Vaskye.chancesCall z q row = _
      unfold Vaskye.chancesCall
      rw [if_pos (bad_iff.mp oc)]
    | true =>
      obtain ⟨g1, g2, g3, g4⟩ := ok_iff.mp oc
      obtain ⟨qn, rfl⟩ : ∃ m : Nat, q = (m : Int) := ⟨q.toNat, by omega⟩
      obtain ⟨dh, b, n, h1, hR, h3⟩ := id hz
      have hch : c ≠ h := call_held hc h1
      have rh : r ≠ h := ne_of hrw h1 (by intro z; cases z)
      have s1h := s1 _ _ h1
      refine if_f rfl ⟨_, rfl, _, rfl, h, CH, dh, _, rfl, s1h, T_Held.cl, T_Held.n2, (by show 3 < 1000; decide), ?_⟩
      refine ⟨_, rfl, c, CC, dx, _, _, rfl, (upd_ne hch).trans (s1 _ _ hc), T_Call.cl, T_Call.n3, call_r _ _ _ _, r, _, rfl, .inl (SqL.of ((upd_ne rh).trans (s1 _ _ hrw))), fun l hl => ?_⟩
      have lh : l ≠ h := fun z => by
        rw [z, upd_same] at hl
        cases hl
      refine ⟨_, rfl, h, CH, dh, _, rfl, (upd_ne (Ne.symm lh)).trans upd_same, T_Held.cl, T_Held.n3, (by show 3 < 1000; decide), ?_⟩
      refine ⟨by show 1 ≤ sizeLine; rw [sizeLine_eq]; omega, fun l2 hl2 => ?_⟩
      have keep : ∀ x o, H x = some o → x ≠ h → upd (upd (upd (upd H1 h (.ins CH dh (putF "q" (.int (qn : Int)) (fHeld b z.c.q n)))) l (.lst (row.map V.int))) h (.ins CH dh (putF "numerators" (.ref l) (putF "q" (.int (qn : Int)) (fHeld b z.c.q n))))) l2 (.lst [.int 1]) x = some o := fun x o hx xh => by
        have a1 : upd H1 h (.ins CH dh (putF "q" (.int (qn : Int)) (fHeld b z.c.q n))) x = some o := (upd_ne xh).trans (s1 _ _ hx)
        have a2 : upd (upd H1 h (.ins CH dh (putF "q" (.int (qn : Int)) (fHeld b z.c.q n)))) l (.lst (row.map V.int)) x = some o := (upd_ne (ne_of_none a1 hl)).trans a1
        have a3 := (upd_ne (o := HO.ins CH dh (putF "numerators" (.ref l) (putF "q" (.int (qn : Int)) (fHeld b z.c.q n)))) xh).trans a2
        exact (upd_ne (ne_of_none a3 hl2)).trans a3
      have atl : upd (upd (upd (upd H1 h (.ins CH dh (putF "q" (.int (qn : Int)) (fHeld b z.c.q n)))) l (.lst (row.map V.int))) h (.ins CH dh (putF "numerators" (.ref l) (putF "q" (.int (qn : Int)) (fHeld b z.c.q n))))) l2 (.lst [.int 1]) l = some (.lst (row.map V.int)) := by
        have a3 := (upd_ne (H := upd (upd H1 h (.ins CH dh (putF "q" (.int (qn : Int)) (fHeld b z.c.q n)))) l (.lst (row.map V.int))) (o := HO.ins CH dh (putF "numerators" (.ref l) (putF "q" (.int (qn : Int)) (fHeld b z.c.q n)))) lh).trans upd_same
        exact (upd_ne (ne_of_none a3 hl2)).trans a3
      have ath : upd (upd (upd (upd H1 h (.ins CH dh (putF "q" (.int (qn : Int)) (fHeld b z.c.q n)))) l (.lst (row.map V.int))) h (.ins CH dh (putF "numerators" (.ref l) (putF "q" (.int (qn : Int)) (fHeld b z.c.q n))))) l2 (.lst [.int 1]) h = some (.ins CH dh (fHeld b qn l)) :=
        (upd_ne (ne_of_none upd_same hl2)).trans upd_same
      have rr : row = ni (row.map Int.toNat) := by
        unfold ni
        rw [List.map_map]
        refine (List.map_id' row).symm.trans (List.map_congr_left fun i hi => ?_)
        exact (Int.toNat_of_nonneg (g4 i hi).1).symm
      have nl2 : NoL H l2 := fun xs hx => by
        have xh := ne_of hx h1 (by intro z; cases z)
        have a1 : upd H1 h (.ins CH dh (putF "q" (.int (qn : Int)) (fHeld b z.c.q n))) l2 = some (.lst xs) := (upd_ne xh).trans (s1 _ _ hx)
        have a2 : upd (upd H1 h (.ins CH dh (putF "q" (.int (qn : Int)) (fHeld b z.c.q n)))) l (.lst (row.map V.int)) l2 = some (.lst xs) := (upd_ne (ne_of_none a1 hl)).trans a1
        have a3 := (upd_ne (o := HO.ins CH dh (putF "numerators" (.ref l) (putF "q" (.int (qn : Int)) (fHeld b z.c.q n)))) xh).trans a2
        rw [hl2] at a3
        cases a3
      refine qq l2 _ ⟨z.s, ⟨qn, row.map Int.toNat⟩⟩ (VaskyBase.one 1) nl2 (fun t xs ht ft => ?_) (fun x o hx xh _ => keep x o hx xh) ?_ ⟨dh, b, l, ath, ?_, ?_⟩ ?_ ?_ upd_same
      · intro dh2 b2 q2 n2 h4
        rw [ath] at h4
        obtain ⟨f1, _, f3⟩ := ft _ _ _ _ h1
        have h5 := Option.some.inj h4
        injection h5 with _ _ h6
        have eb : b = b2 := V.ref.inj (congrArg Prod.snd (List.cons.inj h6).1)
        have en : l = n2 := V.ref.inj (congrArg Prod.snd (List.cons.inj (List.cons.inj (List.cons.inj h6).2).2).1)
        subst eb en
        refine ⟨f1, fun zt => ?_, fun ys hy => ?_⟩
        · rw [← zt] at ht
          have a1 : upd H1 h (.ins CH dh (putF "q" (.int (qn : Int)) (fHeld b z.c.q n))) l = some (.lst xs) := (upd_ne lh).trans (s1 _ _ ht)
          rw [hl] at a1
          cases a1
        · obtain ⟨as, hb, _⟩ := hR
          rw [keep _ _ hb (ne_of hb h1 (by intro z; cases z))] at hy
          exact f3 ys (hb.trans hy)
      · exact tabs_ins hT fun x o hx no => keep x o hx fun q => by
          rw [q, h1] at hx
          cases hx
          exact no _ _ _ rfl
      · obtain ⟨as, hb, hl3, hr2⟩ := hR
        refine ⟨as, keep _ _ hb (ne_of hb h1 (by intro z; cases z)), hl3, fun i rw0 e => ?_⟩
        obtain ⟨a, x1, x2, x3⟩ := hr2 i rw0 e
        exact ⟨a, x1, x2, keep _ _ x3 (ne_of x3 h1 (by intro z; cases z))⟩
      · rw [← rr]
        exact atl
      · refine ⟨Fz.ms, Fz.it, Fz.vs, by show 1 ≤ qn; omega, by show qn ≤ 100; omega, ?_, fun n hn => ?_⟩
        · show (row.map Int.toNat).length = _
          rw [List.length_map]
          exact g3
        · obtain ⟨m, hm, rfl⟩ := List.mem_map.mp hn
          have := g4 m hm
          show m.toNat ≤ qn
          omega
      · show Vaskye.chancesCall z (qn : Int) row = _
        unfold Vaskye.chancesCall
        rw [if_neg (fun q => by
          have := bad_iff.mpr q
          rw [oc] at this
          cases this)]
        rfl
end
end Off
end
section
set_option Elab.async false
set_option linter.all false
set_option maxRecDepth 100000
set_option maxHeartbeats 4000000
namespace Off
open PySem PySem.Spec PyProof.Rows L2 LamX NdefX
open Vaskya (Measure Item Sheet rows)
section
variable {P : Program} {w : World} {K : PySem.W.Frag} {mg : Str → Option Value} {base : Heap} {CH fH CC fC : Addr} {fdH : FuncData} {TT : List (Addr × Str)}
/-! ### tell -/
def spTellA (T : List (Addr × Str)) (CH CC : Addr) : Sp := fun vs H Q E => ∃ n : Nat, 1 ≤ n ∧ n ≤ 9 ∧ spTell T CH CC (n : Int) vs H Q E
theorem sc_tell : FnScope ["held", "call"] ["held", "call"] (defScope s_tell) := ⟨rfl, rfl, rfl, by decide +kernel, rfl, by decide +kernel, by decide +kernel⟩
theorem ok_tell {f aT : Addr} {xT : List (Key × Value)} {fd : FuncData} (F : Fun K "tell" "tell" s_tell f fd) (T_Call : CallTxt K mg CC fC) (g_TELLING : mg "TELLING" = some (.ref aT)) (wd : WD K P w aT xT)
    (hcal : ∀ n : Nat, 1 ≤ n → n ≤ 9 → ∃ f, valueAt xT (.inl (n : Int)) = some (.ref f) ∧ KeyL.Cal P w K mg base 20 f (spTell TT CH CC (n : Int))) : FnOk P w K mg base CX0 22 f fd ["held", "call"] (spTellA TT CH CC) := by
  refine F.ok sc_tell (fun vs H Q E h => ?_) (fun cdv A outer s H vs Q E hr h => ⟨_, (pss_one (ps_ret (KeyL.pe_callV (k := 20) (hr.mono (by decide)) pass0 (pe_ix ix_wd (pe_glob (v := .ref aT) rfl g_TELLING rfl) (pe_fld (pv 1) rfl) (fun _ _ => rfl)) (pa_cons (pv 0) (pa_cons (pv 1) pa_nil))))), ?_⟩)
  · obtain ⟨n, _, _, h, c, z, xs, row, e, k, rfl, _⟩ := h
    rfl
  · obtain ⟨n, n1, n9, hsp⟩ := h
    obtain ⟨f2, hv, hc⟩ := hcal n n1 n9
    obtain ⟨h, c, z, xs, row, e, k, rfl, hz, Fz, hT, ⟨dx, s, r, hc1, hs, hrw⟩, _⟩ := id hsp
    refine ⟨_, rfl, c, CC, dx, _, _, rfl, hc1, T_Call.cl, T_Call.n1, call_n _ _ _ _, aT, .inl (n : Int), xT, _, .ref f2, rfl, rfl, wd, hv, rfl, f2, _, rfl, hc, _, rfl, _, rfl, hsp⟩
end
end Off
end
section
set_option Elab.async false
set_option linter.all false
set_option maxRecDepth 100000
set_option maxHeartbeats 4000000
namespace Off
open PySem PySem.Spec PyProof.Rows L2 LamX NdefX
open Vaskya (Measure Item Sheet rows)
/-- how many single numbers a call has -/
def single (n : Nat) : Nat := [0, 1, 1, 0, 0, 0, 0, 1, 3, 0].getD n 0
def hasRow (n : Nat) : Bool := n == 0 || n == 1 || n == 5
theorem cut_nat {l : List Int} {i j : Nat} (hij : i ≤ j) (hj : j ≤ l.length) : cutV (l.map V.int) (some (i : Int)) (some (j : Int)) = ((l.drop i).take (j - i)).map V.int := by
  unfold cutV
  rw [HT.sIx_nat, HT.sIx_nat, List.length_map, Nat.min_eq_left hj, Nat.min_eq_left (Nat.le_trans hij hj), List.map_take, List.map_drop]
structure DeskTxt (K : PySem.W.Frag) (mg : Str → Option Value) (C fI : Addr) : Prop where
  cl : Cls K C
  n1 : NoAttr K C "held"
  g : mg "Desk" = some (.ref C)
  mkC : Mk K C fI
/-- the tuples of the top -/
structure TupTxt (K : PySem.W.Frag) (mg : Str → Option Value) (aS aW : Addr) : Prop where
  gS : mg "SINGLES" = some (.ref aS)
  gW : mg "WITH_ROW" = some (.ref aW)
  tS : ∀ H : Hp, SqT K H aS (([0, 1, 1, 0, 0, 0, 0, 1, 3, 0] : List Int).map V.int)
  tW : ∀ H : Hp, SqT K H aW (([0, 1, 5] : List Int).map V.int)
section
variable {P : Program} {w : World} {K : PySem.W.Frag} {mg : Str → Option Value} {base : Heap} {CH fH CC fC CF fF CD CK fK : Addr} {fdH fdC fdK : FuncData} {TT : List (Addr × Str)}
/-! ### Call, Desk -/
def spCallI (C : Addr) : Sp := fun vs H Q _ => ∃ (a dx s r : Addr) (n e : Int), vs = [.ref a, .int n, .ref s, .ref r, .int e] ∧ H a = some (.ins C dx []) ∧
  ∀ H' : Hp, H' a = some (.ins C dx (fCall n s r e)) → (∀ b o, H b = some o → b ≠ a → H' b = some o) → Q .non H'
theorem sc_Call_init : FnScope ["self", "number", "singles", "row", "end"] ["self", "number", "singles", "row", "end"] (defScope s_Call_init) := ⟨rfl, rfl, rfl, by decide +kernel, rfl, by decide +kernel, by decide +kernel⟩
theorem ok_Call_init {f : Addr} {fd : FuncData} (F : Fun K "__init__" "Call.__init__" s_Call_init f fd) (T_Call : CallTxt K mg CC fC) : FnOk P w K mg base CX0 1 f fd ["self", "number", "singles", "row", "end"] (spCallI CC) := by
  refine F.ok sc_Call_init (fun vs H Q E h => ?_) (fun cdv A outer s H vs Q E hr h => ⟨_, (pss_cons (ps_fld (pv 0) (pv 1) rfl)
      (pss_cons (ps_fld (pv 0) (pv 2) rfl)
      (pss_cons (ps_fld (pv 0) (pv 3) rfl)
      (pss_one (ps_fld (pv 0) (pv 4) rfl))))), ?_⟩)
  · obtain ⟨a, dx, s, r, n, e, rfl, _⟩ := h
    rfl
  · obtain ⟨a, dx, s, r, n, e, rfl, ha, k⟩ := h
    refine ⟨_, rfl, _, rfl, a, CC, dx, _, rfl, ha, T_Call.cl, T_Call.n1, (by show 0 < 1000; decide), ?_⟩
    refine ⟨_, rfl, _, rfl, a, CC, dx, _, rfl, upd_same, T_Call.cl, T_Call.n2, (by show 1 < 1000; decide), ?_⟩
    refine ⟨_, rfl, _, rfl, a, CC, dx, _, rfl, upd_same, T_Call.cl, T_Call.n3, (by show 2 < 1000; decide), ?_⟩
    refine ⟨_, rfl, _, rfl, a, CC, dx, _, rfl, upd_same, T_Call.cl, T_Call.n4, (by show 3 < 1000; decide), ?_⟩
    refine k _ upd_same fun c o h n => ?_
    rw [upd_ne n, upd_ne n, upd_ne n, upd_ne n]
    exact h
def spDeskI (C : Addr) : Sp := fun vs H Q _ => ∃ a dx : Addr, vs = [.ref a] ∧ H a = some (.ins C dx []) ∧
  ∀ H' : Hp, H' a = some (.ins C dx [("held", .non)]) → (∀ b o, H b = some o → b ≠ a → H' b = some o) → Q .non H'
theorem sc_Desk_init : FnScope ["self"] ["self"] (defScope s_Desk_init) := ⟨rfl, rfl, rfl, by decide +kernel, rfl, by decide +kernel, by decide +kernel⟩
theorem ok_Desk_init {f : Addr} {fd : FuncData} (F : Fun K "__init__" "Desk.__init__" s_Desk_init f fd) (T_Desk : DeskTxt K mg CK fK) : FnOk P w K mg base CX0 1 f fd ["self"] (spDeskI CK) := by
  refine F.ok sc_Desk_init (fun vs H Q E h => ?_) (fun cdv A outer s H vs Q E hr h => ⟨_, (pss_one (ps_fld (pv 0) pe_non rfl)), ?_⟩)
  · obtain ⟨a, dx, rfl, _⟩ := h
    rfl
  · obtain ⟨a, dx, rfl, ha, k⟩ := h
    refine ⟨_, rfl, a, CK, dx, _, rfl, ha, T_Desk.cl, T_Desk.n1, (by show 0 < 1000; decide), ?_⟩
    refine k _ upd_same fun c o h n => ?_
    rw [upd_ne n]
    exact h
/-! ### call_at -/
def callRest (n : Nat) (row : List Int) : List Int := if hasRow n = true then (row.length : Int) :: row else []
def spCallAt (K : PySem.W.Frag) (C : Addr) : Sp := fun vs H Q _ => ∃ (a : Addr) (l : List Int) (p n : Nat) (xs row rest : List Int), vs = [.ref a, .int (p : Int)] ∧ SqL K H a (l.map V.int) ∧ n ≤ 9 ∧ l.drop p = (n : Int) :: (xs ++ (callRest n row ++ rest)) ∧ xs.length = single n ∧ (hasRow n = false → row = []) ∧
  ∀ c H', Same H H' → H c = none → CallAt C H' c (n : Int) xs row ((p + 1 + xs.length + (callRest n row).length : Nat) : Int) → Q (.ref c) H'
theorem at_drop {l m : List Int} {p : Nat} {x : Int} (h : l.drop p = x :: m) : l[p]? = some x := by
  have : (l.drop p)[0]? = some x := by rw [h]; rfl
  rw [List.getElem?_drop] at this
  exact this
theorem drop_len {l m : List Int} {p : Nat} (h : l.drop p = m) (hm : m ≠ []) : l.length = p + m.length := by
  have e := congrArg List.length h
  rw [List.length_drop] at e
  have : 0 < m.length := List.length_pos_iff.mpr hm
  omega
theorem in_row : ∀ n ≤ 9, inV (.int ((n : Nat) : Int)) (([0, 1, 5] : List Int).map V.int) = hasRow n := by decide
theorem single_at : ∀ n ≤ 9, ([0, 1, 1, 0, 0, 0, 0, 1, 3, 0] : List Int)[n]? = some ((single n : Nat) : Int) := by decide
theorem sc_call_at : FnScope ["calls", "place", "number", "start", "end", "singles", "row"] ["calls", "place"] (defScope s_call_at) := ⟨rfl, rfl, rfl, by decide +kernel, rfl, by decide +kernel, by decide +kernel⟩
theorem ok_call_at {f aS aW : Addr} {fd : FuncData} (F : Fun K "call_at" "call_at" s_call_at f fd) (T_Call : CallTxt K mg CC fC) (U : TupTxt K mg aS aW) (o_Call : FnOk P w K mg base CX0 1 fC fdC ["self", "number", "singles", "row", "end"] (spCallI CC)) (b_Call : Binds K fdC ["self", "number", "singles", "row", "end"] []) :
    FnOk P w K mg base CX0 3 f fd ["calls", "place"] (spCallAt K CC) := by
  have g_SINGLES := U.gS
  have g_WITH_ROW := U.gW
  refine F.ok sc_call_at (fun vs H Q E h => ?_) (fun cdv A outer s H vs Q E hr h => ⟨_, (pss_cons (ps_set (i := 2) sc_call_at.nd rfl (.inl rfl) (pe_ix ix_list (pv 0) (pv 1) (fun _ _ => rfl)))
      (pss_cons (ps_set (i := 3) sc_call_at.nd rfl (.inl rfl) (pe_op op_add (pv 1) pe_int))
      (pss_cons (ps_set (i := 4) sc_call_at.nd rfl (.inl rfl) (pe_op op_add (pv 3) (pe_ix ix_tup (pe_glob (v := .ref aS) rfl g_SINGLES rfl) (pv 2) (fun _ _ => rfl))))
      (pss_cons (ps_set (i := 5) sc_call_at.nd rfl (.inl rfl) (pe_slice sl_list (pv 0) (po_some (pv 3)) (po_some (pv 4))))
      (pss_cons (ps_set (i := 6) sc_call_at.nd rfl (.inl rfl) (pe_lst pa_nil))
      (pss_cons (ps_if (pt_cmpR op_in_seq (pv 2) (pe_glob (v := .ref aW) rfl g_WITH_ROW rfl) (by rfl))
        (pss_cons (ps_set (i := 3) sc_call_at.nd rfl (.inl rfl) (pe_op op_add (pv 4) pe_int))
      (pss_cons (ps_set (i := 4) sc_call_at.nd rfl (.inl rfl) (pe_op op_add (pv 3) (pe_ix ix_list (pv 0) (pv 4) (fun _ _ => rfl))))
      (pss_one (ps_set (i := 6) sc_call_at.nd rfl (.inl rfl) (pe_slice sl_list (pv 0) (po_some (pv 3)) (po_some (pv 4)))))))
        pss_nil)
      (pss_one (ps_ret (pe_make T_Call.mkC o_Call (hr.mono (by decide)) rfl T_Call.g b_Call .nil pass0 (pa_cons (pv 2) (pa_cons (pv 5) (pa_cons (pv 6) (pa_cons (pv 4) pa_nil))))))))))))), ?_⟩)
  · obtain ⟨a, l, p, n, xs, row, rest, rfl, _⟩ := h
    rfl
  · obtain ⟨a, l, p, n, xs, row, rest, rfl, hl, n9, hd, hx, hr0, k⟩ := h
    have ll := drop_len hd (by simp)
    rw [List.length_cons, List.length_append, List.length_append] at ll
    have d1 : l.drop (p + 1) = xs ++ (callRest n row ++ rest) := by
      rw [← List.drop_drop, hd]
      rfl
    have d2 : l.drop (p + 1 + xs.length) = callRest n row ++ rest := by
      rw [← List.drop_drop, d1]
      exact PyFlat.drop_len _ _
    have t1 : (l.drop (p + 1)).take xs.length = xs := by
      rw [d1]
      exact PyFlat.take_len _ _
    have g0 : (l.map V.int)[p]? = some (.int (n : Int)) := by
      rw [List.getElem?_map, at_drop hd]
      rfl
    have gs : (([0, 1, 1, 0, 0, 0, 0, 1, 3, 0] : List Int).map V.int)[n]? = some (.int ((single n : Nat) : Int)) := by
      rw [List.getElem?_map, single_at n n9]
      rfl
    refine ⟨_, rfl, _, rfl, a, _, _, _, rfl, rfl, hl, atI_nat g0, ?_⟩
    refine ⟨_, rfl, _, _, rfl, rfl, ?_⟩
    refine ⟨_, rfl, _, rfl, aS, _, _, _, rfl, rfl, U.tS H, atI_nat gs, _, _, rfl, rfl, ?_⟩
    refine ⟨_, rfl, _, rfl, ((p + 1 : Nat) : Int), rfl, _, rfl, ((p + 1 + single n : Nat) : Int), rfl, a, _, rfl, hl, fun ps hps => ?_⟩
    rw [cut_nat (by omega) (by omega), show p + 1 + single n - (p + 1) = xs.length by omega, t1]
    have s1 : Same H (upd H ps (.lst (xs.map V.int))) := same_new hps
    have v1 : upd H ps (.lst (xs.map V.int)) ps = some (.lst (xs.map V.int)) := upd_same
    generalize upd H ps (.lst (xs.map V.int)) = H1 at s1 v1
    refine ⟨by show 0 ≤ sizeLine; exact Nat.zero_le _, fun pr hpr => ?_⟩
    have s2 : Same H (upd H1 pr (.lst [])) := s1.trans (same_new hpr)
    have v2 : upd H1 pr (.lst []) ps = some (.lst (xs.map V.int)) := (upd_ne (ne_of_none v1 hpr)).trans v1
    have w2 : upd H1 pr (.lst []) pr = some (.lst []) := upd_same
    generalize upd H1 pr (.lst []) = H2 at s2 v2 w2
    refine ⟨_, rfl, aW, _, rfl, .inr (U.tW H2), rfl, (by decide), _, rfl, ?_⟩
    rw [if_neg Bool.false_ne_true, in_row n n9]
    cases hr : hasRow n with
    | true =>
      have cr : callRest n row = (row.length : Int) :: row := by
        unfold callRest
        rw [hr, if_pos rfl]
      rw [cr] at d2 k ll
      rw [List.length_cons] at ll
      have g2 : (l.map V.int)[p + 1 + single n]? = some (.int (row.length : Int)) := by
        rw [List.getElem?_map, ← hx, at_drop (m := row ++ rest) d2]
        rfl
      have t2 : (l.drop (p + 1 + single n + 1)).take row.length = row := by
        rw [← List.drop_drop, ← hx, d2]
        exact PyFlat.take_len row rest
      refine if_t rfl ?_
      refine ⟨_, rfl, _, _, rfl, rfl, ?_⟩
      refine ⟨_, rfl, _, rfl, _, rfl, a, _, _, _, rfl, rfl, s2.seq hl, atI_nat g2, _, _, rfl, rfl, ?_⟩
      refine ⟨_, rfl, _, rfl, ((p + 1 + single n + 1 : Nat) : Int), rfl, _, rfl, ((p + 1 + single n + 1 + row.length : Nat) : Int), rfl, a, _, rfl, s2.seq hl, fun pw hpw => ?_⟩
      rw [cut_nat (by omega) (by omega), show p + 1 + single n + 1 + row.length - (p + 1 + single n + 1) = row.length by omega, t2]
      have s3 : Same H2 (upd H2 pw (.lst (row.map V.int))) := same_new hpw
      refine ⟨_, rfl, _, rfl, _, rfl, _, rfl, ?_⟩
      intro x dx nx ndx ne
      refine ⟨x, dx, ps, pw, (n : Int), ((p + 1 + single n + 1 + row.length : Nat) : Int), rfl, upd_same, fun H4 h4 k4 => ?_⟩
      have s4 := Same.made nx ndx k4
      have e : p + 1 + single n + 1 + row.length = p + 1 + xs.length + ((row.length : Int) :: row).length := by
        rw [List.length_cons]
        omega
      rw [e] at h4
      exact ⟨rfl, k x H4 (s2.trans (Same.trans s3 s4)) (Same.free s2 (Same.free s3 nx)) ⟨dx, ps, pw, h4, s4 _ _ (s3 _ _ v2), s4 _ _ upd_same⟩⟩
    | false =>
      have cr : callRest n row = [] := by
        unfold callRest
        rw [hr, if_neg Bool.false_ne_true]
      have er := hr0 hr
      subst er
      rw [cr] at k
      refine if_f rfl ⟨_, rfl, _, rfl, _, rfl, _, rfl, ?_⟩
      intro x dx nx ndx ne
      refine ⟨x, dx, ps, pr, (n : Int), ((p + 1 + single n : Nat) : Int), rfl, upd_same, fun H4 h4 k4 => ?_⟩
      have s4 := Same.made nx ndx k4
      have e : p + 1 + single n = p + 1 + xs.length + ([] : List Int).length := by
        rw [hx]
        rfl
      rw [e] at h4
      exact ⟨rfl, k x H4 (s2.trans s4) (Same.free s2 nx) ⟨dx, ps, pr, h4, s4 _ _ v2, s4 _ _ w2⟩⟩
end
end Off
end
section
set_option Elab.async false
set_option linter.all false
set_option maxRecDepth 100000
set_option maxHeartbeats 4000000
namespace Off
open PySem PySem.Spec PyProof.Rows L2 LamX NdefX
open Vaskya (Measure Item Sheet rows)
/-- the desk, and what it holds -/
def DeskAt (CK CH : Addr) (H : Hp) (d : Addr) (o : Vaskye.Obj) : Prop := ∃ (dx : Addr) (v : V), H d = some (.ins CK dx [("held", v)]) ∧
  ((o = none ∧ v = .non) ∨ ∃ (h : Addr) (z : Vaskye.Held), o = some z ∧ v = .ref h ∧ HeldAt CH H h z ∧ Fine z)
theorem desk_h (v : V) : ([("held", v)] : List (Str × V)).lookup ("held" : Str) = some v := lk_here
theorem desk_same {CK CH : Addr} {H H' : Hp} {d : Addr} {o : Vaskye.Obj} (s : Same H H') (x : DeskAt CK CH H d o) : DeskAt CK CH H' d o := by
  obtain ⟨dx, v, h1, h2⟩ := x
  refine ⟨dx, v, s _ _ h1, ?_⟩
  rcases h2 with h2 | ⟨h, z, e1, e2, e3, e4⟩
  · exact .inl h2
  · exact .inr ⟨h, z, e1, e2, e3.same s, e4⟩
/-- no list of what the desk holds is this one -/
def DFar (CK CH : Addr) (H : Hp) (d t : Addr) : Prop := ∀ dx h, H d = some (.ins CK dx [("held", .ref h)]) → Far CH H h t
theorem dfar_ext {CK CH : Addr} {H H' : Hp} {d : Addr} {o : Vaskye.Obj} (hD : DeskAt CK CH H d o) (e : ExtN H H') (t : Addr) (xs : List V) (ht : H t = some (.lst xs)) (f : DFar CK CH H d t) : DFar CK CH H' d t := fun dx h h2 => by
  obtain ⟨dx0, v, h1, hv⟩ := hD
  rw [e _ _ h1 (fun _ z => by cases z)] at h2
  have h3 := Option.some.inj h2
  injection h3 with _ _ h4
  have h5 : v = .ref h := congrArg Prod.snd (List.cons.inj h4).1
  subst h5
  rcases hv with ⟨_, h6⟩ | ⟨h', z, _, h6, hz, _⟩
  · cases h6
  · have h7 := V.ref.inj h6
    subst h7
    exact far_ext hz e t xs ht (f dx0 h h1)
/-- all but instances and tables stays -/
def ExtI (H H' : Hp) : Prop := ∀ b o, H b = some o → (∀ C dx fs, o ≠ .ins C dx fs) → (∀ ps, o ≠ .tbl ps) → H' b = some o
theorem held_kept {CH : Addr} {H H' : Hp} {h : Addr} {z : Vaskye.Held} (x : HeldAt CH H h z) (e1 : ∀ o, H h = some o → H' h = some o) (e2 : ∀ b xs, H b = some (.lst xs) → H' b = some (.lst xs)) : HeldAt CH H' h z := by
  obtain ⟨dx, b, n, h1, ⟨as, hb, hl, hr⟩, h3⟩ := x
  refine ⟨dx, b, n, e1 _ h1, ⟨as, e2 _ _ hb, hl, fun i row e => ?_⟩, e2 _ _ h3⟩
  obtain ⟨a, x1, x2, x3⟩ := hr i row e
  exact ⟨a, x1, x2, e2 _ _ x3⟩
def t_sload (C : Addr) : Addr → Value → Option Addr → TS := fun a cls d => tRet (tLst (tCons (tC (.int 0)) (tCons (tXf a cls d C "code" (tVar 3)) (tCons (tXf a cls d C "place" (tVar 3)) tNil))))
/-- a list of bytes, as numbers -/
def byN (b : VaskyBase.Bytes) : List Int := b.map fun c => (c.toNat : Int)
theorem byN_tx (b : VaskyBase.Bytes) : (byN b).map V.int = tx b := by
  unfold byN tx
  rw [List.map_map]
  rfl
section
variable {P : Program} {w : World} {K : PySem.W.Frag} {mg : Str → Option Value} {base : Heap} {CH fH CC fC CF fF CD fD CK fK : Addr} {fdH fdC fdK : FuncData} {TT : List (Addr × Str)}
/-! ### load -/
def spLoad (T : List (Addr × Str)) (CK CH : Addr) : Sp := fun vs H Q _ => ∃ (d t : Addr) (o : Vaskye.Obj) (b : VaskyBase.Bytes), vs = [.ref d, .ref t] ∧ DeskAt CK CH H d o ∧ Tabs T H ∧ H t = some (.lst ((byN b).map V.int)) ∧ b.length ≤ 100000 ∧
  ∀ (p : Addr) (H' : Hp) (o' : Vaskye.Obj) (a : VaskyBase.Answer), NoL H p → (∀ t xs, H t = some (.lst xs) → DFar CK CH H d t → DFar CK CH H' d t) → (∀ c u, H c = some u → c ≠ d → H' c = some u) → Tabs T H' → DeskAt CK CH H' d o' → Vaskye.step o (.load b) = (o', a) → H' p = some (.lst ((VaskyeNeutral.encode a).map V.int)) → Q (.ref p) H'
theorem sc_load : FnScope ["desk", "text", "told", "fault"] ["desk", "text"] (defScope s_load) := ⟨rfl, rfl, rfl, by decide +kernel, rfl, by decide +kernel, by decide +kernel⟩
theorem ok_load {f : Addr} {fd : FuncData} (F : Fun K "load" "load" s_load f fd) (B : Blt mg) (T_Fault : FaultTxt K mg CF fF) (T_Told : ToldTxt K mg CD fD) (T_Desk : DeskTxt K mg CK fK) (D_read_list : Df P w K mg base (L2.CX P w) 7 "read_list" ["text"] (spReadList K CF CD))
    (D_all_beaters : Df P w K mg base CX0 3 "all_beaters" ["merits"] spAllBeaters) (D_sure_ones : Df P w K mg base CX0 3 "sure_ones" ["beaters"] (spSure CH)) : FnOk P w K mg base CX0 10 f fd ["desk", "text"] (spLoad TT CK CH) := by
  obtain ⟨f_read_list, fd_read_list, m_read_list, o_read_list, k_read_list, b_read_list⟩ := D_read_list
  obtain ⟨f_all_beaters, fd_all_beaters, m_all_beaters, o_all_beaters, k_all_beaters, b_all_beaters⟩ := D_all_beaters
  obtain ⟨f_sure_ones, fd_sure_ones, m_sure_ones, o_sure_ones, k_sure_ones, b_sure_ones⟩ := D_sure_ones
  refine F.ok sc_load (fun vs H Q E h => ?_) (fun cdv A outer s H vs Q E hr h => ⟨_, (pss_cons (ps_try_as (i := 3) (tb := fun W => tAsg (tCallS (spReadList K CF CD) (WE W) (tCons (tVar 1) tNil)) (gName 2)) (ts := t_sload CF) (Wout := fun _ _ _ _ => False) rfl rfl sc_load.nd rfl rfl ⟨rfl, by decide, Or.inl T_Fault.gC⟩ L2.takes0
          (fun W pn xe tk _ => pss_one (ps_set (i := 2) sc_load.nd rfl (Or.inl rfl) (by exact (pe_callS o_read_list (hr.mono (by decide)) rfl m_read_list k_read_list b_read_list (fun σ => passAt tk σ) (by exact (pa_cons (pv 1) pa_nil))))))
          (fun a oe cls d pn hz hf => pss_one (ps_ret (by exact (pe_lst (pa_cons pe_int (pa_cons (pe_xf T_Fault.xf T_Fault.nC hz hf (pv 3)) (pa_cons (pe_xf T_Fault.xf T_Fault.nP hz hf (pv 3)) pa_nil))))))))
      (pss_cons (ps_fld (pv 0) (pe_call o_sure_ones (hr.mono (by decide)) rfl m_sure_ones k_sure_ones b_sure_ones .nil pass0 (pa_cons (pe_call o_all_beaters (hr.mono (by decide)) rfl m_all_beaters k_all_beaters b_all_beaters .nil pass0 (pa_cons (pe_fld (pv 2) rfl) pa_nil)) pa_nil)) rfl)
      (pss_one (ps_ret (pe_lst (pa_cons pe_int (pa_cons (pe_fld (pv 2) rfl) (pa_cons (pe_callB call_len_seq (by rfl) B.len PySem.boot_len (pa_cons (pe_fld (pv 2) rfl) pa_nil)) pa_nil)))))))), ?_⟩)
  · obtain ⟨d, t, o, b, rfl, _⟩ := h
    rfl
  · obtain ⟨d, t, o, b, rfl, hD, hT, ht, bl, k⟩ := h
    have st : ∀ o' a, (match Vaskya.read b with
        | .ok s => ((some ⟨s, ⟨1, s.items.map fun _ => 1⟩⟩ : Vaskye.Obj), (⟨1, Vaskye.nats [s.ms.length, s.items.length]⟩ : VaskyBase.Answer))
        | .error f => (o, VaskyBase.faulty f)) = (o', a) → Vaskye.step o (.load b) = (o', a) := fun o' a e => e
    have hs : SqL K H t (tx b) := by
      rw [← byN_tx]
      exact SqL.of ht
    refine ⟨_, rfl, t, b, rfl, hs, bl, fun f ef d1 H1 s1 fl => ⟨true, T_Fault.te, fun _ a ha => ?_, fun q => Bool.noConfusion q⟩, fun sh es l4 l16 lv x H1 s1 td => ?_⟩
    · rw [ef] at st
      refine ⟨_, rfl, rfl, rfl, d1, _, .int f.code, rfl, fl, (lk_past (by decide +kernel)).trans lk_here, _, rfl, rfl, rfl, d1, _, .int f.place, rfl, fl, lk_here, by show 3 ≤ sizeLine; rw [sizeLine_eq]; omega, fun l hl => ?_⟩
      have s2 : Same H (upd H1 l (.lst [.int 0, .int f.code, .int f.place])) := s1.trans (same_new hl)
      exact k l _ o (VaskyBase.faulty f) (noL_of (ext_same s1) hl) (dfar_ext hD (ext_same s2)) (fun c u hc _ => s2 c u hc) (hT.ext s2) (desk_same s2 hD) (st _ _ rfl) upd_same
    · rw [es] at st
      obtain ⟨dx1, q, hx, hq⟩ := td
      have er : rowsI sh.ms sh.items = rows sh := rfl
      rw [er] at hq
      have rl := rows_len sh
      have rln : ∀ r ∈ rows sh, r.length = sh.ms.length := fun r hr => by
        unfold rows at hr
        obtain ⟨y, hy, rfl⟩ := List.mem_map.mp hr
        unfold Vaskya.goodOf
        rw [List.length_map, List.length_zip, lv y hy, Nat.min_self]
      refine ⟨_, rfl, x, CD, dx1, _, _, rfl, hx, T_Told.cl, T_Told.n2, told_merits _ _, q, rows sh, sh.ms.length, rfl, hq, rln, by omega, fun b1 H2 s2 b10 R2 fr => ?_⟩
      have bl2 : (allBeaters (rows sh)).length = sh.items.length := by rw [allBeaters_len, rl]
      refine ⟨b1, allBeaters (rows sh), rfl, R2, by omega, fun h n dh H3 s3 n0 h3 hn => ?_⟩
      have s13 : Same H H3 := s1.trans (s2.trans s3)
      obtain ⟨dxd, v, hd, _⟩ := hD
      have hd3 := s13 _ _ hd
      have hh : h ≠ d := fun z => by
        rw [z, hd3] at h3
        have h4 := Option.some.inj h3
        injection h4 with _ _ h5
        have h6 : ("held" : Str) = ("beaters" : Str) := congrArg Prod.fst (List.cons.inj h5).1
        exact absurd h6 (by decide)
      have xd : x ≠ d := fun z => by
        rw [z, s1 _ _ hd] at hx
        have h4 := Option.some.inj hx
        injection h4 with _ _ h5
        have h6 : ("held" : Str) = ("measures" : Str) := congrArg Prod.fst (List.cons.inj h5).1
        exact absurd h6 (by decide)
      refine ⟨_, rfl, d, CK, dxd, _, rfl, hd3, T_Desk.cl, T_Desk.n1, (by show 1 < 1000; decide), ?_⟩
      have kp : ∀ c u, H3 c = some u → c ≠ d → upd H3 d (.ins CK dxd (putF "held" (.ref h) [("held", v)])) c = some u := fun c u hc cd => by
        rw [upd_ne cd]
        exact hc
      have hd4 : upd H3 d (.ins CK dxd (putF "held" (.ref h) [("held", v)])) d = some (.ins CK dxd [("held", .ref h)]) := upd_same
      generalize upd H3 d (.ins CK dxd (putF "held" (.ref h) [("held", v)])) = H4 at kp hd4
      have hx4 := kp _ _ (s3 _ _ (s2 _ _ hx)) xd
      have qd : q ≠ d := by
        obtain ⟨as, q1, _⟩ := hq
        exact ne_of q1 (s1 _ _ hd) (by intro z; cases z)
      obtain ⟨as, q1, q2, _⟩ := hq
      refine ⟨_, rfl, x, CD, dx1, _, _, rfl, hx4, T_Told.cl, T_Told.n1, told_measures _ _, _, rfl, x, CD, dx1, _, _, rfl, hx4, T_Told.cl, T_Told.n2, told_merits _ _, q, _, rfl, .inl (SqL.of (kp _ _ (s3 _ _ (s2 _ _ q1)) qd)), by show 3 ≤ sizeLine; rw [sizeLine_eq]; omega, fun l hl => ?_⟩
      have ql : (as.map V.ref).length = sh.items.length := by rw [List.length_map, q2, rl]
      rw [ql]
      have keep : ∀ c u, H c = some u → c ≠ d → upd H4 l (.lst [.int 1, .int (sh.ms.length : Int), .int (sh.items.length : Int)]) c = some u := fun c u hc cd => by
        have := kp _ _ (s13 _ _ hc) cd
        rw [upd_ne (ne_of_none this hl)]
        exact this
      have up : ∀ c u, H4 c = some u → upd H4 l (.lst [.int 1, .int (sh.ms.length : Int), .int (sh.items.length : Int)]) c = some u := fun c u hc => by
        rw [upd_ne (ne_of_none hc hl)]
        exact hc
      have nl : NoL H l := fun xs hc => by
        have := kp _ _ (s13 _ _ hc) (ne_of hc hd (by intro z; cases z))
        rw [hl] at this
        cases this
      refine k l _ (some ⟨sh, ⟨1, sh.items.map fun _ => 1⟩⟩) ⟨1, Vaskye.nats [sh.ms.length, sh.items.length]⟩ nl (fun t xs ht _ => ?_) keep ?_ ⟨dxd, .ref h, up _ _ hd4, .inr ⟨h, _, rfl, rfl, ⟨dh, b1, n, up _ _ (kp _ _ h3 hh), ?_, ?_⟩, ?_⟩⟩ (st _ _ rfl) upd_same
      · intro dx2 h' e1 dh2 bb q2 nn e2
        rw [up _ _ hd4] at e1
        have e3 := Option.some.inj e1
        injection e3 with _ _ e4
        have e5 : h = h' := V.ref.inj (congrArg Prod.snd (List.cons.inj e4).1)
        subst e5
        rw [up _ _ (kp _ _ h3 hh)] at e2
        have e6 := Option.some.inj e2
        injection e6 with _ _ e7
        have eb : b1 = bb := V.ref.inj (congrArg Prod.snd (List.cons.inj e7).1)
        have en : n = nn := V.ref.inj (congrArg Prod.snd (List.cons.inj (List.cons.inj (List.cons.inj e7).2).2).1)
        subst eb en
        have t1 := s1 _ _ ht
        refine ⟨fun z => ?_, fun z => ?_, fun ys hy hm => ?_⟩
        · rw [z, t1] at b10
          cases b10
        · rw [z, s2 _ _ t1] at n0
          cases n0
        · obtain ⟨as2, r1, _⟩ := R2
          rw [up _ _ (kp _ _ (s3 _ _ r1) (ne_of (s3 _ _ r1) hd3 (by intro z; cases z)))] at hy
          have := fr ys (r1.trans hy) t hm
          rw [t1] at this
          cases this
      · exact tabs_ins hT fun c u hc no => keep c u hc fun z => by
          rw [z, hd] at hc
          cases hc
          exact no _ _ _ rfl
      · obtain ⟨as2, r1, r2, r3⟩ := R2
        have lk : ∀ c xs, H2 c = some (.lst xs) → upd H4 l (.lst [.int 1, .int (sh.ms.length : Int), .int (sh.items.length : Int)]) c = some (.lst xs) := fun c xs hc => up _ _ (kp _ _ (s3 _ _ hc) (ne_of (s3 _ _ hc) hd3 (by intro z; cases z)))
        refine ⟨as2, lk _ _ r1, r2, fun i row e => ?_⟩
        obtain ⟨a, x1, x2, x3⟩ := r3 i row e
        exact ⟨a, x1, x2, lk _ _ x3⟩
      · have en : (allBeaters (rows sh)).map (fun _ => 1) = sh.items.map fun _ => 1 := by
          rw [List.map_const', List.map_const', bl2]
        rw [en] at hn
        exact up _ _ (kp _ _ hn (ne_of hn hd3 (by intro z; cases z)))
      · refine ⟨l4, l16, lv, Nat.le_refl _, by show 1 ≤ 100; omega, List.length_map .., fun m hm => ?_⟩
        obtain ⟨_, _, rfl⟩ := List.mem_map.mp hm
        exact Nat.le_refl _
end
end Off
end
section
set_option Elab.async false
set_option linter.all false
set_option maxRecDepth 100000
set_option maxHeartbeats 4000000
namespace Off
open PySem PySem.Spec PyProof.Rows L2 LamX NdefX
open Vaskya (Measure Item Sheet rows)
theorem bytes_by {row : List Int} (h : NeutralIO.bytes row = true) : row = byN (VaskyeNeutral.bytesOf row) := by
  unfold byN VaskyeNeutral.bytesOf
  rw [List.map_map]
  refine (List.map_id' row).symm.trans (List.map_congr_left fun x hx => ?_)
  unfold NeutralIO.bytes at h
  rw [List.all_eq_true] at h
  have := h x hx
  rw [Bool.and_eq_true, decide_eq_true_iff, decide_eq_true_iff] at this
  obtain ⟨m, rfl⟩ : ∃ m : Nat, x = (m : Int) := ⟨x.toNat, by omega⟩
  show (m : Int) = ((UInt8.ofNat ((m : Int)).toNat).toNat : Int)
  rw [Int.toNat_natCast, UInt8.toNat_ofNat']
  have : m < 256 := by omega
  rw [Nat.mod_eq_of_lt this]
theorem call0 {xs row : List Int} {k : Vaskye.Call} (h : VaskyeNeutral.callOf ((0 :: xs) :: rws 0 row) = some k) : NeutralIO.bytes row = true ∧ k = .load (VaskyeNeutral.bytesOf row) := by
  have e : rws 0 row = [row] := rfl
  rw [e] at h
  match xs, h with
  | [], h =>
    have h' : (if NeutralIO.bytes row = true then some (Vaskye.Call.load (VaskyeNeutral.bytesOf row)) else none) = some k := h
    by_cases c : NeutralIO.bytes row = true
    · rw [if_pos c] at h'
      exact ⟨c, (Option.some.inj h').symm⟩
    · rw [if_neg c] at h'
      cases h'
theorem none_tells {n : Nat} {xs row : List Int} {k : Vaskye.Call} (n1 : 1 ≤ n) (n9 : n ≤ 9) (h : VaskyeNeutral.callOf (((n : Int) :: xs) :: rws (n : Int) row) = some k) : Vaskye.step none k = (none, VaskyBase.one (-1)) := by
  have : n = 1 ∨ n = 2 ∨ n = 3 ∨ n = 4 ∨ n = 5 ∨ n = 6 ∨ n = 7 ∨ n = 8 ∨ n = 9 := by omega
  rcases this with rfl | rfl | rfl | rfl | rfl | rfl | rfl | rfl | rfl
  · obtain ⟨_, _, rfl⟩ := call1 h
    rfl
  · obtain ⟨_, _, rfl⟩ := call2 h
    rfl
  · obtain rfl := call3 h
    rfl
  · obtain rfl := call4 h
    rfl
  · obtain rfl := call5 h
    rfl
  · obtain rfl := call6 h
    rfl
  · obtain ⟨_, _, rfl⟩ := call7 h
    rfl
  · obtain ⟨_, _, _, _, rfl⟩ := call8 h
    rfl
  · obtain rfl := call9 h
    rfl
section
variable {P : Program} {w : World} {K : PySem.W.Frag} {mg : Str → Option Value} {base : Heap} {CH fH CC fC CF fF CD fD CK fK : Addr} {fdH fdC fdK : FuncData} {TT : List (Addr × Str)}
/-! ### answer -/
def spAnswer (T : List (Addr × Str)) (CK CH CC : Addr) : Sp := fun vs H Q _ => ∃ (d c : Addr) (o : Vaskye.Obj) (n : Nat) (xs row : List Int) (e : Int) (k : Vaskye.Call), vs = [.ref d, .ref c] ∧ DeskAt CK CH H d o ∧ Tabs T H ∧ CallAt CC H c (n : Int) xs row e ∧ n ≤ 9 ∧ row.length ≤ 8192 ∧ (n ≠ 0 → row.length ≤ 4000) ∧
  VaskyeNeutral.callOf (((n : Int) :: xs) :: rws (n : Int) row) = some k ∧
  ∀ (p : Addr) (H' : Hp) (o' : Vaskye.Obj) (a : VaskyBase.Answer), NoL H p → (∀ t xs, H t = some (.lst xs) → DFar CK CH H d t → DFar CK CH H' d t) → ExtI H H' → (∀ u, H c = some u → H' c = some u) → Tabs T H' → DeskAt CK CH H' d o' → Vaskye.step o k = (o', a) → H' p = some (.lst ((VaskyeNeutral.encode a).map V.int)) → Q (.ref p) H'
theorem desk_ne_call {CC CK : Addr} {H : Hp} {c d dx dy s r : Addr} {n e : Int} {v : V} (h1 : H c = some (.ins CC dx (fCall n s r e))) (h2 : H d = some (.ins CK dy [("held", v)])) : c ≠ d := fun z => by
  rw [z, h2] at h1
  have h3 := Option.some.inj h1
  injection h3 with _ _ h4
  have h6 : ("held" : Str) = ("number" : Str) := congrArg Prod.fst (List.cons.inj h4).1
  exact absurd h6 (by decide)
theorem desk_ne_held {CH CK : Addr} {H : Hp} {h d dx dy b m : Addr} {q : Nat} {v : V} (h1 : H h = some (.ins CH dx (fHeld b q m))) (h2 : H d = some (.ins CK dy [("held", v)])) : d ≠ h := fun z => by
  rw [← z, h2] at h1
  have h3 := Option.some.inj h1
  injection h3 with _ _ h4
  have h6 : ("held" : Str) = ("beaters" : Str) := congrArg Prod.fst (List.cons.inj h4).1
  exact absurd h6 (by decide)
theorem sc_answer : FnScope ["desk", "call"] ["desk", "call"] (defScope s_answer) := ⟨rfl, rfl, rfl, by decide +kernel, rfl, by decide +kernel, by decide +kernel⟩
theorem ok_answer {f : Addr} {fd : FuncData} (F : Fun K "answer" "answer" s_answer f fd) (gL : ∃ t, mg "LOAD" = some (.int 0 t)) (T_Call : CallTxt K mg CC fC) (T_Desk : DeskTxt K mg CK fK) (D_load : Df P w K mg base CX0 10 "load" ["desk", "text"] (spLoad TT CK CH)) (D_tell : Df P w K mg base CX0 22 "tell" ["held", "call"] (spTellA TT CH CC)) :
    FnOk P w K mg base CX0 24 f fd ["desk", "call"] (spAnswer TT CK CH CC) := by
  obtain ⟨tL, g_LOAD⟩ := gL
  obtain ⟨f_load, fd_load, m_load, o_load, k_load, b_load⟩ := D_load
  obtain ⟨f_tell, fd_tell, m_tell, o_tell, k_tell, b_tell⟩ := D_tell
  refine F.ok sc_answer (fun vs H Q E h => ?_) (fun cdv A outer s H vs Q E hr h => ⟨_, (pss_cons (ps_if (pt_cmpR op_eq (pe_fld (pv 1) rfl) (pe_glob (v := .int 0) rfl g_LOAD ⟨_, rfl⟩) (nomark _))
        (pss_one (ps_ret (pe_call o_load (hr.mono (by decide)) rfl m_load k_load b_load .nil pass0 (pa_cons (pv 0) (pa_cons (pe_fld (pv 1) rfl) pa_nil)))))
        pss_nil)
      (pss_cons (ps_if (pt_cmpR op_isN (pe_fld (pv 0) rfl) pe_non (nomark _))
        (pss_one (ps_ret (pe_lst (pa_cons (pe_un un_neg pe_int) pa_nil))))
        pss_nil)
      (pss_one (ps_ret (pe_call o_tell (hr.mono (by decide)) rfl m_tell k_tell b_tell .nil pass0 (pa_cons (pe_fld (pv 0) rfl) (pa_cons (pv 1) pa_nil))))))), ?_⟩)
  · obtain ⟨d, c, o, n, xs, row, e, k, rfl, _⟩ := h
    rfl
  · obtain ⟨d, c, o, n, xs, row, e, k, rfl, hD, hT, hC, n9, r8, r4, hk, q⟩ := h
    obtain ⟨dx, s, r, hc, hs, hrw⟩ := id hC
    obtain ⟨dxd, v, hd, hv⟩ := id hD
    have cd := desk_ne_call hc hd
    refine ⟨_, rfl, c, CC, dx, _, _, rfl, hc, T_Call.cl, T_Call.n1, call_n _ _ _ _, rfl, _, rfl, ?_⟩
    by_cases n0 : n = 0
    · subst n0
      obtain ⟨hb, rfl⟩ := call0 hk
      refine if_t (decide_eq_true rfl) ⟨_, rfl, _, rfl, c, CC, dx, _, _, rfl, hc, T_Call.cl, T_Call.n3, call_r _ _ _ _, d, r, o, VaskyeNeutral.bytesOf row, rfl, hD, hT, ?_, ?_, fun p H' o' a np fr kp T' D' st hp => q p H' o' a np fr (fun b u hb nI _ => kp b u hb fun z => ?_) (fun u hu => kp c u hu cd) T' D' st hp⟩
      · rw [← bytes_by hb]
        exact hrw
      · unfold VaskyeNeutral.bytesOf
        rw [List.length_map]
        omega
      · rw [z, hd] at hb
        cases hb
        exact nI _ _ _ rfl
    · refine if_f (decide_eq_false fun z => n0 (by have := V.int.inj z; omega)) ⟨_, rfl, d, CK, dxd, _, _, rfl, hd, T_Desk.cl, T_Desk.n1, desk_h v, rfl, _, rfl, ?_⟩
      rcases hv with ⟨rfl, rfl⟩ | ⟨h, z, rfl, rfl, hz, Fz⟩
      · refine if_t (decide_eq_true rfl) ⟨_, rfl, by show 1 ≤ sizeLine; rw [sizeLine_eq]; omega, fun l hl => ?_⟩
        have s1 : Same H (upd H l (.lst [.int (-1)])) := same_new hl
        exact q l _ none (VaskyBase.one (-1)) (noL_0 hl) (dfar_ext hD (ext_same s1)) (fun b u hb _ _ => s1 b u hb) (fun u hu => s1 c u hu) (hT.ext s1) (desk_same s1 hD) (none_tells (by omega) n9 hk) upd_same
      · refine if_f (decide_eq_false fun z => by cases z) ⟨_, rfl, d, CK, dxd, _, _, rfl, hd, T_Desk.cl, T_Desk.n1, desk_h _, _, rfl, n, by omega, n9, h, c, z, xs, row, e, k, rfl, hz, Fz, hT, hC, r4 n0, hk, fun p H' z' a np fr eB T' hz' Fz' st hp => ?_⟩
        obtain ⟨dh, b, m, h1, _, _⟩ := hz
        refine q p H' (some z') a np (fun t xs ht ft dx2 h' e1 => ?_) (fun x u hx nI nt => eB x u hx (fun y => ?_) nt) (fun u hu => eB c u hu (call_held hc h1) fun ps y => ?_) T' ⟨dxd, .ref h, eB d _ hd (desk_ne_held h1 hd) (fun _ y => by cases y), .inr ⟨h, z', rfl, rfl, hz', Fz'⟩⟩ st hp
        · rw [eB d _ hd (desk_ne_held h1 hd) (fun _ y => by cases y)] at e1
          have e3 := Option.some.inj e1
          injection e3 with _ _ e4
          have e5 : h = h' := V.ref.inj (congrArg Prod.snd (List.cons.inj e4).1)
          subst e5
          exact fr t xs ht (ft dxd h hd)
        · rw [y, h1] at hx
          cases hx
          exact nI _ _ _ rfl
        · rw [hc, y] at hu
          cases hu
end
end Off
end
section
set_option Elab.async false
set_option linter.all false
set_option maxRecDepth 100000
set_option maxHeartbeats 4000000
namespace Off
open PySem PySem.Spec PyProof.Rows L2 LamX NdefX
open Vaskya (Measure Item Sheet rows)
/-- a call as it may be handed in -/
structure OkC (c : List (List Int)) (n : Nat) (xs row : List Int) (k : Vaskye.Call) : Prop where
  eq : c = ((n : Int) :: xs) :: rws (n : Int) row
  n9 : n ≤ 9
  sg : xs.length = single n
  nr : hasRow n = false → row = []
  r8 : row.length ≤ 8192
  r4 : n ≠ 0 → row.length ≤ 4000
  cl : VaskyeNeutral.callOf (((n : Int) :: xs) :: rws (n : Int) row) = some k
theorem rws_row : ∀ n ≤ 9, (hasRow n = true ↔ ((n : Int) = 0 ∨ (n : Int) = 1 ∨ (n : Int) = 5)) := by decide
theorem put1_ok {c : List (List Int)} {n : Nat} {xs row : List Int} {k : Vaskye.Call} (h : OkC c n xs row k) : PyFlat.put1 c = (n : Int) :: (xs ++ callRest n row) := by
  rw [h.eq]
  unfold rws callRest
  have r := rws_row n h.n9
  by_cases q : hasRow n = true
  · rw [if_pos (r.mp q), if_pos q]
    show ((n : Int) :: xs) ++ (((row.length : Int) :: row) ++ []) = _
    rw [List.append_nil]
    rfl
  · rw [if_neg (fun z => q (r.mpr z)), if_neg q]
    rfl
abbrev playS (o : Vaskye.Obj) (cs : List (List (List Int))) : List (List Int) := PyFlat.played VaskyeNeutral.step o cs
theorem told_cons {o o' : Vaskye.Obj} {a : VaskyBase.Answer} {c : List (List Int)} {n : Nat} {xs row : List Int} {k : Vaskye.Call} (h : OkC c n xs row k) (st : Vaskye.step o k = (o', a)) (cs : List (List (List Int))) :
    PyFlat.told (playS o (c :: cs)) = (((VaskyeNeutral.encode a).length : Int) :: VaskyeNeutral.encode a) ++ PyFlat.told (playS o' cs) := by
  have e : VaskyeNeutral.step o c = (o', VaskyeNeutral.encode a) := by
    unfold VaskyeNeutral.step
    rw [h.eq, h.cl]
    show ((Vaskye.step o k).1, VaskyeNeutral.encode (Vaskye.step o k).2) = _
    rw [st]
  unfold playS PyFlat.told
  show List.flatMap _ ((VaskyeNeutral.step o c).2 :: PyFlat.played VaskyeNeutral.step (VaskyeNeutral.step o c).1 cs) = _
  rw [e, List.flatMap_cons]
theorem sqL_extI {K : PySem.W.Frag} {H H' : Hp} (e : ExtI H H') {a : Addr} {xs : List V} (h : SqL K H a xs) : SqL K H' a xs := by
  rcases h with (h | ⟨ob, h⟩) | h
  · exact .inl (.inl (e _ _ h (fun _ _ _ z => by cases z) (fun _ z => by cases z)))
  · exact .inl (.inr ⟨ob, e _ _ h (fun _ _ _ z => by cases z) (fun _ z => by cases z)⟩)
  · exact .inr h
theorem calls_upd {K : PySem.W.Frag} {H : Hp} {a t : Addr} {xs ys : List V} (h : SqL K H a xs) (n : a ≠ t ∨ ∀ H, SqL K H a xs) : SqL K (upd H t (.lst ys)) a xs := by
  rcases n with n | n
  · rcases h with (h | ⟨ob, h⟩) | h
    · exact .inl (.inl ((upd_ne n).trans h))
    · exact .inl (.inr ⟨ob, (upd_ne n).trans h⟩)
    · exact .inr h
  · exact n _
theorem calls_off {K : PySem.W.Frag} {H : Hp} {a t : Addr} {xs : List V} (h : SqL K H a xs) (ht : H t = none) : a ≠ t ∨ ∀ H, SqL K H a xs := by
  rcases h with (h | ⟨ob, h⟩) | h
  · exact .inl (ne_of_none h ht)
  · exact .inl (ne_of_none h ht)
  · exact .inr fun _ => .inr h
theorem held_upd {CH : Addr} {H : Hp} {h t : Addr} {z : Vaskye.Held} {xs ys : List V} (x : HeldAt CH H h z) (ht : H t = some (.lst xs)) (f : Far CH H h t) : HeldAt CH (upd H t (.lst ys)) h z ∧ Far CH (upd H t (.lst ys)) h t := by
  obtain ⟨dx, b, n, h1, ⟨as, hb, hl, hr⟩, h3⟩ := x
  obtain ⟨f1, f2, f3⟩ := f _ _ _ _ h1
  have hh : h ≠ t := ne_of h1 ht (by intro z; cases z)
  refine ⟨⟨dx, b, n, (upd_ne hh).trans h1, ⟨as, (upd_ne f1).trans hb, hl, fun i row e => ?_⟩, (upd_ne f2).trans h3⟩, fun dh2 b2 q2 n2 h4 => ?_⟩
  · obtain ⟨a, x1, x2, x3⟩ := hr i row e
    refine ⟨a, x1, x2, (upd_ne fun z => ?_).trans x3⟩
    subst z
    exact f3 _ hb (List.mem_map.mpr ⟨a, List.mem_of_getElem? x1, rfl⟩)
  · rw [upd_ne hh, h1] at h4
    have h5 := Option.some.inj h4
    injection h5 with _ _ h6
    have eb : b = b2 := V.ref.inj (congrArg Prod.snd (List.cons.inj h6).1)
    have en : n = n2 := V.ref.inj (congrArg Prod.snd (List.cons.inj (List.cons.inj (List.cons.inj h6).2).2).1)
    subst eb en
    refine ⟨f1, f2, fun y hy => ?_⟩
    rw [upd_ne f1] at hy
    exact f3 y hy
theorem desk_upd {CK CH : Addr} {H : Hp} {d t : Addr} {o : Vaskye.Obj} {xs ys : List V} (x : DeskAt CK CH H d o) (ht : H t = some (.lst xs)) (f : DFar CK CH H d t) : DeskAt CK CH (upd H t (.lst ys)) d o ∧ DFar CK CH (upd H t (.lst ys)) d t := by
  obtain ⟨dx, v, h1, hv⟩ := x
  have hd : d ≠ t := ne_of h1 ht (by intro z; cases z)
  rcases hv with ⟨e1, e2⟩ | ⟨h, z, e1, e2, hz, Fz⟩
  · refine ⟨⟨dx, v, (upd_ne hd).trans h1, .inl ⟨e1, e2⟩⟩, fun dx2 h2 q => ?_⟩
    rw [upd_ne hd, h1, e2] at q
    have q1 := Option.some.inj q
    injection q1 with _ _ q2
    have q3 : V.non = V.ref h2 := congrArg Prod.snd (List.cons.inj q2).1
    cases q3
  · subst e2
    obtain ⟨g1, g2⟩ := held_upd (ys := ys) hz ht (f _ _ h1)
    refine ⟨⟨dx, _, (upd_ne hd).trans h1, .inr ⟨h, z, e1, rfl, g1, Fz⟩⟩, fun dx2 h2 q => ?_⟩
    rw [upd_ne hd, h1] at q
    have q1 := Option.some.inj q
    injection q1 with _ _ q2
    have q3 : h = h2 := V.ref.inj (congrArg Prod.snd (List.cons.inj q2).1)
    subst q3
    exact g2
theorem tabs_upd {T : List (Addr × Str)} {H : Hp} {t : Addr} {xs ys : List V} (x : Tabs T H) (ht : H t = some (.lst xs)) : Tabs T (upd H t (.lst ys)) := fun p hp => by
  obtain ⟨ps, h1, h2, h3⟩ := x p hp
  refine ⟨ps, (upd_ne (ne_of h1 ht (by intro z; cases z))).trans h1, h2, fun pos cv hc => ?_⟩
  obtain ⟨c, e1, e2⟩ := h3 pos cv hc
  exact ⟨c, e1, (upd_ne (ne_of e2 ht (by unfold CodeO; intro z; cases z))).trans e2⟩
section
variable {P : Program} {w : World} {K : PySem.W.Frag} {mg : Str → Option Value} {base : Heap} {CH fH CC fC CF fF CD fD CK fK : Addr} {fdH fdC fdK : FuncData} {TT : List (Addr × Str)}
def spAnswers (K : PySem.W.Frag) (T : List (Addr × Str)) : Sp := fun vs H Q _ => ∃ (a : Addr) (l : List Int) (cs : List (List (List Int))), vs = [.ref a] ∧ SqL K H a (l.map V.int) ∧ Tabs T H ∧ l = PyFlat.put cs ∧ (∀ c ∈ cs, ∃ n xs row k, OkC c n xs row k) ∧
  (PyFlat.told (playS none cs)).length ≤ 10000000 ∧ ∀ p H', H' p = some (.lst ((PyFlat.told (playS none cs)).map V.int)) → Q (.ref p) H'
theorem sc_answers : FnScope ["calls", "desk", "told", "place", "call", "numbers"] ["calls"] (defScope s_answers) := ⟨rfl, rfl, rfl, by decide +kernel, rfl, by decide +kernel, by decide +kernel⟩
theorem ok_answers {f : Addr} {fd : FuncData} (F : Fun K "answers" "answers" s_answers f fd) (B : Blt mg) (T_Call : CallTxt K mg CC fC) (T_Desk : DeskTxt K mg CK fK) (o_Desk : FnOk P w K mg base CX0 1 fK fdK ["self"] (spDeskI CK)) (b_Desk : Binds K fdK ["self"] [])
    (D_call_at : Df P w K mg base CX0 3 "call_at" ["calls", "place"] (spCallAt K CC)) (D_answer : Df P w K mg base CX0 24 "answer" ["desk", "call"] (spAnswer TT CK CH CC)) : FnOk P w K mg base CX0 26 f fd ["calls"] (spAnswers K TT) := by
  obtain ⟨f_call_at, fd_call_at, m_call_at, o_call_at, k_call_at, b_call_at⟩ := D_call_at
  obtain ⟨f_answer, fd_answer, m_answer, o_answer, k_answer, b_answer⟩ := D_answer
  refine F.ok sc_answers (fun vs H Q E h => ?_) (fun cdv A outer s H vs Q E hr h => ⟨_, (pss_cons (ps_set (i := 1) sc_answers.nd rfl (.inl rfl) (pe_make0 T_Desk.mkC o_Desk (hr.mono (by decide)) rfl T_Desk.g b_Desk .nil pass0))
      (pss_cons (ps_set (i := 2) sc_answers.nd rfl (.inl rfl) (pe_lst pa_nil))
      (pss_cons (ps_set (i := 3) sc_answers.nd rfl (.inl rfl) pe_int)
      (pss_cons (ps_while PassesOwn.never (pt_cmpR op_lt (pv 3) (pe_callB call_len_seq (by rfl) B.len PySem.boot_len (pa_cons (pv 0) pa_nil)) (nomark _))
        (pss_cons (ps_set (i := 4) sc_answers.nd rfl (.inl rfl) (pe_call o_call_at (hr.mono (by decide)) rfl m_call_at k_call_at b_call_at .nil pass0 (pa_cons (pv 0) (pa_cons (pv 3) pa_nil))))
      (pss_cons (ps_set (i := 5) sc_answers.nd rfl (.inl rfl) (pe_call o_answer (hr.mono (by decide)) rfl m_answer k_answer b_answer .nil pass0 (pa_cons (pv 1) (pa_cons (pv 4) pa_nil))))
      (pss_cons (ps_expr (pe_bm PySem.F.plainAttrs_list PySem.F.slot_list_append PySem.F.type_list_append mt_append (pv 2) (pa_cons (pe_callB call_len_seq (by rfl) B.len PySem.boot_len (pa_cons (pv 5) pa_nil)) pa_nil)))
      (pss_cons (ps_expr (pe_bm PySem.F.plainAttrs_list PySem.F.slot_list_extend PySem.F.type_list_extend mt_extend (pv 2) (pa_cons (pv 5) pa_nil)))
      (pss_one (ps_set (i := 3) sc_answers.nd rfl (.inl rfl) (pe_fld (pv 4) rfl))))))))
      (pss_one (ps_ret (pv 2))))))), ?_⟩)
  · obtain ⟨a, l, cs, rfl, _⟩ := h
    rfl
  · obtain ⟨a, l, cs, rfl, hl, hT, el, hok, hsz, k⟩ := h
    intro d dx nd ndx ne
    refine ⟨d, dx, rfl, upd_same, fun H1 h1 k1 => ⟨rfl, ?_⟩⟩
    have s1 := Same.made nd ndx k1
    refine ⟨by show 0 ≤ sizeLine; exact Nat.zero_le _, fun t ht => ?_⟩
    have s2 : Same H (upd H1 t (.lst [])) := s1.trans (same_new ht)
    have t2 : upd H1 t (.lst []) t = some (.lst (([] : List Int).map V.int)) := upd_same
    have d2 : upd H1 t (.lst []) d = some (.ins CK dx [("held", .non)]) := (upd_ne (ne_of_none h1 ht)).trans h1
    have hat := calls_off (s1.seq hl) ht
    generalize upd H1 t (.lst []) = H2 at s2 t2 d2
    have f0 : DFar CK CH H2 d t := fun dx2 h2 q => by
      rw [d2] at q
      have q1 := Option.some.inj q
      injection q1 with _ _ q2
      have q3 : V.non = V.ref h2 := congrArg Prod.snd (List.cons.inj q2).1
      cases q3
    obtain ⟨total, htot⟩ : ∃ total, total = PyFlat.told (playS none cs) := ⟨_, rfl⟩
    rw [← htot] at hsz k
    refine while_w (fun m σ H' => ∃ (p : Nat) (cs' : List (List (List Int))) (o : Vaskye.Obj) (acc : List Int) (u v : Option V), m = cs'.length ∧ l.drop p = PyFlat.put cs' ∧ (∀ c ∈ cs', ∃ n xs row k, OkC c n xs row k) ∧ acc ++ PyFlat.told (playS o cs') = total ∧
        H' t = some (.lst (acc.map V.int)) ∧ DeskAt CK CH H' d o ∧ DFar CK CH H' d t ∧ Tabs TT H' ∧ SqL K H' a (l.map V.int) ∧ σ = [some (.ref a), some (.ref d), some (.ref t), some (.int (p : Int)), u, v])
      (fun σ H' => H' t = some (.lst (total.map V.int)) ∧ ∃ u v r, σ = [some (.ref a), some (.ref d), some (.ref t), u, v, r]) ⟨_, 0, cs, none, [], none, none, rfl, by rw [List.drop_zero]; exact el, hok, by rw [htot]; rfl, t2, ⟨dx, .non, d2, .inl ⟨rfl, rfl⟩⟩, f0, hT.ext s2, s2.seq hl, rfl⟩ ?_ ?_
    · rintro σ H' ⟨h, u, v, r, rfl⟩
      exact ⟨_, rfl, k t H' h⟩
    · rintro fin m σ H' ⟨p, cs', o, acc, u, v, rfl, hp, hcs, hacc, hta, hD, hF, hTT, hla, rfl⟩
      refine ⟨_, rfl, _, rfl, a, _, rfl, .inl hla, _, _, rfl, rfl, _, rfl, ?_⟩
      rw [List.length_map]
      cases cs' with
      | nil =>
        have hp0 : l.drop p = [] := hp
        have lp : l.length ≤ p := List.drop_eq_nil_iff.mp hp0
        refine if_f (decide_eq_false (by omega)) (fin _ _ ⟨?_, some (.int (p : Int)), u, v, rfl⟩)
        have : PyFlat.told (playS o []) = [] := rfl
        rw [this, List.append_nil] at hacc
        rw [← hacc]
        exact hta
      | cons c cs2 =>
        obtain ⟨n, xs, row, k', hc⟩ := hcs c (List.mem_cons_self ..)
        have hp1 : l.drop p = (n : Int) :: (xs ++ (callRest n row ++ PyFlat.put cs2)) := by
          rw [hp]
          show PyFlat.put1 c ++ PyFlat.put cs2 = _
          rw [put1_ok hc, List.cons_append, List.append_assoc]
        have pl : p < l.length := by
          have := congrArg List.length hp1
          rw [List.length_drop, List.length_cons] at this
          omega
        refine if_t (decide_eq_true (by omega)) ⟨fun σ' H' => _, fun _ _ h => h, ?_⟩
        refine ⟨_, rfl, _, rfl, a, l, p, n, xs, row, PyFlat.put cs2, rfl, hla, hc.n9, hp1, hc.sg, hc.nr, fun ca H3 s3 c0 hC => ?_⟩
        refine ⟨_, rfl, _, rfl, d, ca, o, n, xs, row, _, k', rfl, desk_same s3 hD, hTT.ext s3, hC, hc.n9, hc.r8, hc.r4, hc.cl, fun pa H4 o' an np fr e4 kc T4 D4 st hpa => ?_⟩
        obtain ⟨dxc, sc, rc, hca, _, _⟩ := hC
        have hca4 := kc _ hca
        have hta3 := s3 _ _ hta
        have hta4 := e4 _ _ hta3 (fun _ _ _ z => by cases z) (fun _ z => by cases z)
        have hF4 := np
        have hF5 := fr t _ hta3 (dfar_ext hD (ext_same s3) t _ hta hF)
        have hla4 := sqL_extI e4 (s3.seq hla)
        have pt : pa ≠ t := fun z => np _ (by rw [z]; exact hta3)
        have ct : ca ≠ t := ne_of hca4 hta4 (by intro z; cases z)
        have tc := told_cons hc st cs2
        rw [tc] at hacc
        have sz : acc.length + (1 + (VaskyeNeutral.encode an).length) ≤ 10000000 := by
          have := congrArg List.length hacc
          rw [List.length_append, List.length_append, List.length_cons] at this
          omega
        obtain ⟨D5, F5⟩ := desk_upd (ys := acc.map V.int ++ [.int (((VaskyeNeutral.encode an).length : Nat) : Int)]) D4 hta4 hF5
        have T5 := tabs_upd (ys := acc.map V.int ++ [.int (((VaskyeNeutral.encode an).length : Nat) : Int)]) T4 hta4
        have la5 := calls_upd (ys := acc.map V.int ++ [.int (((VaskyeNeutral.encode an).length : Nat) : Int)]) hla4 hat
        refine ⟨_, rfl, .inl ⟨rfl, _, SqL.of hta4⟩, _, rfl, pa, _, rfl, .inl (SqL.of hpa), t, _, _, rfl, rfl, hta4, ?_, ?_⟩
        · rw [List.length_map, sizeLine_eq]
          omega
        · have pa5 : upd H4 t (.lst (acc.map V.int ++ [.int (((VaskyeNeutral.encode an).length : Nat) : Int)])) pa = some (.lst ((VaskyeNeutral.encode an).map V.int)) := (upd_ne pt).trans hpa
          have ca5 : upd H4 t (.lst (acc.map V.int ++ [.int (((VaskyeNeutral.encode an).length : Nat) : Int)])) ca = some (.ins CC dxc (fCall (n : Int) sc rc ((p + 1 + xs.length + (callRest n row).length : Nat) : Int))) := (upd_ne ct).trans hca4
          have t5 : upd H4 t (.lst (acc.map V.int ++ [.int (((VaskyeNeutral.encode an).length : Nat) : Int)])) t = some (.lst (acc.map V.int ++ [.int (((VaskyeNeutral.encode an).length : Nat) : Int)])) := upd_same
          rw [List.length_map]
          generalize upd H4 t (.lst (acc.map V.int ++ [.int (((VaskyeNeutral.encode an).length : Nat) : Int)])) = H5 at D5 F5 T5 la5 pa5 ca5 t5
          obtain ⟨D6, F6⟩ := desk_upd (ys := (acc.map V.int ++ [.int (((VaskyeNeutral.encode an).length : Nat) : Int)]) ++ (VaskyeNeutral.encode an).map V.int) D5 t5 F5
          have T6 := tabs_upd (ys := (acc.map V.int ++ [.int (((VaskyeNeutral.encode an).length : Nat) : Int)]) ++ (VaskyeNeutral.encode an).map V.int) T5 t5
          have la6 := calls_upd (ys := (acc.map V.int ++ [.int (((VaskyeNeutral.encode an).length : Nat) : Int)]) ++ (VaskyeNeutral.encode an).map V.int) la5 hat
          refine ⟨_, rfl, .inl ⟨rfl, _, SqL.of t5⟩, _, rfl, t, pa, _, _, rfl, rfl, t5, pa5, ?_, ?_⟩
          · rw [List.length_append, List.length_map, List.length_map, List.length_singleton, sizeLine_eq]
            omega
          · refine ⟨_, rfl, ca, CC, dxc, _, _, rfl, (upd_ne ct).trans ca5, T_Call.cl, T_Call.n4, call_e _ _ _ _, cs2.length, Nat.lt_succ_self _, p + 1 + xs.length + (callRest n row).length, cs2, o', acc ++ (((VaskyeNeutral.encode an).length : Int) :: VaskyeNeutral.encode an), _, _, rfl, ?_, fun c' hc' => hcs c' (List.mem_cons_of_mem _ hc'), ?_, ?_, D6, F6, T6, la6, rfl⟩
            · have : l.drop (p + 1 + xs.length + (callRest n row).length) = (l.drop p).drop (1 + xs.length + (callRest n row).length) := by
                rw [List.drop_drop]
                congr 1
                omega
              rw [this, hp1, show 1 + xs.length + (callRest n row).length = (xs.length + (callRest n row).length) + 1 by omega, List.drop_succ_cons, ← List.append_assoc, List.drop_left' (by rw [List.length_append])]
            · rw [List.append_assoc]
              exact hacc
            · rw [List.map_append, List.map_cons, List.append_assoc]
              exact upd_same
end
end Off
end
section
set_option Elab.async false
set_option linter.all false
set_option maxRecDepth 100000
set_option maxHeartbeats 4000000
namespace Off
open PySem PySem.Spec PyProof.Rows L2 LamX NdefX
/-! ### what is asked, as calls -/
theorem whole_id (c : List (List Int)) : PyVaskye.whole c = c := by
  unfold PyVaskye.whole
  split <;> rfl
theorem okc_of {c : List (List Int)} (h : VaskyeNeutral.asked1 c = true) : ∃ n xs row k, OkC c n xs row k := by
  unfold VaskyeNeutral.asked1 at h
  split at h
  · rename_i b
    rw [Bool.and_eq_true, decide_eq_true_iff] at h
    have hb : NeutralIO.bytes b = true := by
      unfold NeutralIO.bytes
      rw [List.all_eq_true]
      intro z hz
      have := List.all_eq_true.mp h.1 z hz
      unfold VaskyeNeutral.natural at this
      rw [Bool.and_eq_true, decide_eq_true_iff, decide_eq_true_iff] at this ⊢
      exact ⟨this.1, by have := this.2; omega⟩
    refine ⟨0, [], b, .load (VaskyeNeutral.bytesOf b), rfl, by decide, rfl, (fun z => by cases z), h.2, fun z => (z rfl).elim, ?_⟩
    show (if NeutralIO.bytes b = true then some (Vaskye.Call.load (VaskyeNeutral.bytesOf b)) else none) = _
    rw [if_pos hb]
  · rename_i q l
    rw [Bool.and_eq_true, Bool.and_eq_true, decide_eq_true_iff] at h
    have := h.2.2
    exact ⟨1, [q], l, .chances q l, rfl, by decide, rfl, (fun z => by cases z), by omega, fun _ => by omega, rfl⟩
  · rename_i i
    exact ⟨2, [i], [], .unbeaten i, rfl, by decide, rfl, fun _ => rfl, Nat.zero_le _, fun _ => Nat.zero_le _, rfl⟩
  · exact ⟨3, [], [], .all_, rfl, by decide, rfl, fun _ => rfl, Nat.zero_le _, fun _ => Nat.zero_le _, rfl⟩
  · exact ⟨4, [], [], .mean, rfl, by decide, rfl, fun _ => rfl, Nat.zero_le _, fun _ => Nat.zero_le _, rfl⟩
  · rename_i l
    rw [Bool.and_eq_true, decide_eq_true_iff] at h
    have := h.2
    exact ⟨5, [], l, .set_ l, rfl, by decide, rfl, (fun z => by cases z), by omega, fun _ => by omega, rfl⟩
  · exact ⟨6, [], [], .likely, rfl, by decide, rfl, fun _ => rfl, Nat.zero_le _, fun _ => Nat.zero_le _, rfl⟩
  · rename_i k
    exact ⟨7, [k], [], .top k, rfl, by decide, rfl, fun _ => rfl, Nat.zero_le _, fun _ => Nat.zero_le _, rfl⟩
  · rename_i i j v
    exact ⟨8, [i, j, v], [], .given i j v, rfl, by decide, rfl, fun _ => rfl, Nat.zero_le _, fun _ => Nat.zero_le _, rfl⟩
  · exact ⟨9, [], [], .counts, rfl, by decide, rfl, fun _ => rfl, Nat.zero_le _, fun _ => Nat.zero_le _, rfl⟩
  · cases h
theorem asked_calls {l : List Int} (h : PyVaskye.answers_asked l = true) : ∃ cs, l = PyFlat.put cs ∧ (∀ c ∈ cs, ∃ n xs row k, OkC c n xs row k) ∧ (PyFlat.told (playS none cs)).length ≤ 10000000 ∧ PyVaskye.answers l = PyFlat.told (playS none cs) := by
  unfold PyVaskye.answers_asked at h
  cases e : PyFlat.calls PyVaskye.shape l.length l with
  | none =>
    rw [e] at h
    cases h
  | some raw =>
    rw [e] at h
    have h' : (!raw.isEmpty && PyFlat.atMost 20 raw && PyInside.calls PyVaskye.bound raw && VaskyeNeutral.asked (raw.map PyVaskye.whole) && PyFlat.short 10000000 (PyVaskye.answers l)) = true := h
    rw [Bool.and_eq_true, Bool.and_eq_true] at h'
    obtain ⟨⟨_, h2⟩, h3⟩ := h'
    have wid : raw.map PyVaskye.whole = raw := by
      rw [show PyVaskye.whole = fun c => c from funext whole_id]
      exact List.map_id' raw
    have ans : PyVaskye.answers l = PyFlat.told (playS none raw) := by
      unfold PyVaskye.answers PyVaskye.calls
      rw [e]
      show PyFlat.told (PyFlat.played VaskyeNeutral.step VaskyeNeutral.start (raw.map PyVaskye.whole)) = _
      rw [wid]
      rfl
    rw [wid] at h2
    unfold VaskyeNeutral.asked at h2
    rw [Bool.and_eq_true] at h2
    refine ⟨raw, (PyFlat.put_calls _ _ _ e).1, fun c hc => okc_of (List.all_eq_true.mp h2.1 c hc), ?_, ans⟩
    rw [← ans]
    exact of_decide_eq_true h3
end Off
end
section
set_option Elab.async false
set_option linter.all false
set_option maxRecDepth 100000
set_option maxHeartbeats 4000000
namespace Off
open PySem PySem.Spec PyProof.Rows L2 LamX NdefX
open VaskyBase (Bytes SIGNS)
/-! ### the end: what the top has written -/
def DefIn (K : PySem.W.Frag) (x : Str) (st : Stmt) : Prop :=
  ∃ (f : Addr) (oc : Value) (od an : Option Addr) (kV dc pm cd ct : Value) (sl : Array (Option Value)), PySem.W.nsIn K mainGlobals x = some (some (.ref f)) ∧
    K.lookup f = some ⟨oc, od, .func (PySem.W.fnOf x x (defArgs st) (defBody st) (defScope st) .none kV dc pm an cd ct), sl⟩ ∧ PySem.W.codeIn K cd x = true ∧ PySem.W.keepIn K (.ref f) = true
theorem def_in {K : PySem.W.Frag} {x : Str} {st : Stmt} {f : Addr} {oc : Value} {od an : Option Addr} {kV dc pm cd ct : Value} {sl : Array (Option Value)} (a : PySem.W.nsIn K mainGlobals x = some (some (.ref f)))
    (l : K.lookup f = some ⟨oc, od, .func (PySem.W.fnOf x x (defArgs st) (defBody st) (defScope st) .none kV dc pm an cd ct), sl⟩) (c : PySem.W.codeIn K cd x = true) (k : PySem.W.keepIn K (.ref f) = true) : DefIn K x st :=
  ⟨f, oc, od, an, kV, dc, pm, cd, ct, sl, a, l, c, k⟩
theorem DefIn.get {K : PySem.W.Frag} {h : Heap} {mg : Str → Option Value} {x : Str} {st : Stmt} (X : K.In h) (G : h.Ns mainGlobals mg) (D : DefIn K x st) : ∃ (f : Addr) (fd : FuncData), mg x = some (.ref f) ∧ Fun K x x st f fd := by
  obtain ⟨f, oc, od, an, kV, dc, pm, cd, ct, sl, a, l, c, k⟩ := D
  exact ⟨f, _, PySem.W.mg_of X G a, fun_mk (st := st) l c k⟩
def MethIn (K : PySem.W.Frag) (C : Addr) (m q : Str) (st : Stmt) : Prop :=
  ∃ (f : Addr) (oc : Value) (od an : Option Addr) (kV dc pm cd ct : Value) (sl : Array (Option Value)), PySem.W.findIn K (.ref C) m = some (some (.ref f)) ∧ PySem.W.isFn K (.ref f) = true ∧
    K.lookup f = some ⟨oc, od, .func (PySem.W.fnOf m q (defArgs st) (defBody st) (defScope st) .none kV dc pm an cd ct), sl⟩ ∧ PySem.W.codeIn K cd q = true ∧ PySem.W.keepIn K (.ref f) = true
theorem meth_in {K : PySem.W.Frag} {C : Addr} {m q : Str} {st : Stmt} {f : Addr} {oc : Value} {od an : Option Addr} {kV dc pm cd ct : Value} {sl : Array (Option Value)} (a : PySem.W.findIn K (.ref C) m = some (some (.ref f))) (i : PySem.W.isFn K (.ref f) = true)
    (l : K.lookup f = some ⟨oc, od, .func (PySem.W.fnOf m q (defArgs st) (defBody st) (defScope st) .none kV dc pm an cd ct), sl⟩) (c : PySem.W.codeIn K cd q = true) (k : PySem.W.keepIn K (.ref f) = true) : MethIn K C m q st :=
  ⟨f, oc, od, an, kV, dc, pm, cd, ct, sl, a, i, l, c, k⟩
theorem MethIn.get {K : PySem.W.Frag} {C : Addr} {m q : Str} {st : Stmt} (D : MethIn K C m q st) : ∃ (f : Addr) (fd : FuncData), PySem.W.findIn K (.ref C) m = some (some (.ref f)) ∧ PySem.W.isFn K (.ref f) = true ∧ Fun K m q st f fd := by
  obtain ⟨f, oc, od, an, kV, dc, pm, cd, ct, sl, a, i, l, c, k⟩ := D
  exact ⟨f, _, a, i, fun_mk (st := st) l c k⟩
/-- a class of the top -/
structure ClsIn (K : PySem.W.Frag) (x : Str) (C : Addr) : Prop where
  a : PySem.W.nsIn K mainGlobals x = some (some (.ref C))
  pg : PySem.W.plainGet K C Str.empty = true
  hd : PySem.W.hasDictIn K C = true
  po : PySem.W.plainOver K C = true
  sa : PySem.W.findIn K (.ref C) "__setattr__" = some (some (.builtin "object.__setattr__"))
  mk1 : PySem.W.makesIn K C = true
  kc : PySem.W.keepIn K (.ref C) = true
theorem ClsIn.cls {K : PySem.W.Frag} {x : Str} {C : Addr} (c : ClsIn K x C) : Cls K C := ⟨c.pg, c.hd, c.po, c.sa⟩
theorem exm_own {K : PySem.W.Frag} {S : Addr} (h1 : PySem.W.subIn K (.ref S) (.type "BaseException") = some true) (h2 : PySem.W.isClsIn K S = true) (h3 : PySem.W.typeIn K (.ref S) = some (.type "type")) (h4 : PySem.W.subIn K (.ref S) (.ref S) = some true) :
    PySem.W.exmOne K (.ref S) (.ref S) = some true := by
  have q : (PySem.W.clsIn K S).isSome = true := h2
  unfold PySem.W.exmOne PySem.W.kitCls
  rw [h1]
  show (if ((PySem.W.clsIn K S).isSome && (PySem.W.typeIn K (.ref S) == some (.type "type"))) = true then PySem.W.subIn K (.ref S) (.ref S) else none) = some true
  rw [q, h3, h4]
  rfl
/-- the class of the errors -/
structure FaultIn (K : PySem.W.Frag) (C : Addr) : Prop where
  a : PySem.W.nsIn K mainGlobals "Fault" = some (some (.ref C))
  cls : ∃ nm q N bs sn sub ab col dd k0 k1 k2 k3 k5, K.lookup C = some (excClassObj nm q C N bs PySem.Flt1.tail3 true sn sub ab col dd k0 k1 k2 k3 k5 "Exception.__new__")
  sa : PySem.W.findIn K (.ref C) "__setattr__" = some (some (.builtin "object.__setattr__"))
  exC : PySem.W.subIn K (.ref C) (.type "BaseException") = some true
  tyC : PySem.W.typeIn K (.ref C) = some (.type "type")
  kC : PySem.W.keepIn K (.ref C) = true
  vE : PySem.W.findCls K (.type "Exception") (.type "type") "__init__" = some (.val (.builtin "Exception.__init__"))
  nC : PySem.W.findIn K (.ref C) "code" = some none
  nP : PySem.W.findIn K (.ref C) "place" = some none
  ga : PySem.W.findIn K (.ref C) "__getattribute__" = some (some (.builtin "BaseException.__getattribute__"))
  gg : PySem.W.findIn K (.ref C) "__getattr__" = some none
  hdC : PySem.W.hasDictIn K C = true
  iC : PySem.W.isClsIn K C = true
  sC : PySem.W.subIn K (.ref C) (.ref C) = some true
theorem fault_in {K : PySem.W.Frag} {C N : Addr} {nm q : Str} {bs sub : List Value} {sn : List Str} {ab : Bool} {col : Option Bool} {dd : Option Addr} {k0 k1 k2 k3 k5 : Option Value}
    (a : PySem.W.nsIn K mainGlobals "Fault" = some (some (.ref C)))
    (cls : K.lookup C = some (excClassObj nm q C N bs [.type "Exception", .type "BaseException", .type "object"] true sn sub ab col dd k0 k1 k2 k3 k5 "Exception.__new__"))
    (sa : PySem.W.findIn K (.ref C) "__setattr__" = some (some (.builtin "object.__setattr__"))) (exC : PySem.W.subIn K (.ref C) (.type "BaseException") = some true) (tyC : PySem.W.typeIn K (.ref C) = some (.type "type")) (kC : PySem.W.keepIn K (.ref C) = true)
    (vE : PySem.W.findCls K (.type "Exception") (.type "type") "__init__" = some (.val (.builtin "Exception.__init__"))) (nC : PySem.W.findIn K (.ref C) "code" = some none) (nP : PySem.W.findIn K (.ref C) "place" = some none)
    (ga : PySem.W.findIn K (.ref C) "__getattribute__" = some (some (.builtin "BaseException.__getattribute__"))) (gg : PySem.W.findIn K (.ref C) "__getattr__" = some none) (hdC : PySem.W.hasDictIn K C = true) (iC : PySem.W.isClsIn K C = true) (sC : PySem.W.subIn K (.ref C) (.ref C) = some true) : FaultIn K C :=
  ⟨a, ⟨nm, q, N, bs, sn, sub, ab, col, dd, k0, k1, k2, k3, k5, cls⟩, sa, exC, tyC, kC, vE, nC, nP, ga, gg, hdC, iC, sC⟩
theorem tup_all {K : PySem.W.Frag} {a : Addr} {o : Obj} {xs : List V} (l : K.lookup a = some o) (c : o.cls = .type "tuple" ∧ ∃ its n, o.data = .seq its n ∧ its.size ≤ sizeLine ∧ Vals xs its.toList) : ∀ H, SqT K H a xs := fun H => by
  obtain ⟨c, its, n, d, hs, v⟩ := c
  exact .inr ⟨o, its, n, l, c, d, hs, v⟩
/-! ### dicts of the top -/
def entI (e : DictEntry) : Bool := match e.key with
  | .int i _ => e.hash == hashInt i
  | _ => false
def entP (e : DictEntry) : Key × Value := match e.key with
  | .int i _ => (.inl i, e.val)
  | _ => (.inl 0, e.val)
theorem ent_pairs {P : Program} {w : World} : ∀ {es : List DictEntry}, es.all entI = true → Pairs (mixKind P w) es (es.map entP)
  | [], _ => .nil
  | e :: es, h => by
    rw [List.all_cons, Bool.and_eq_true] at h
    obtain ⟨hs, k, v⟩ := e
    cases k with
    | int i t => exact .cons (mixKind_int P w i t) rfl (ent_pairs h.2)
    | _ => cases h.1
theorem wd_of {xs : List (Key × Value)} {K : PySem.W.Frag} {P : Program} {w : World} {a : Addr} {o : Obj} (l : K.lookup a = some o) (c : ∃ es ep, o = ⟨.type "dict", none, .dict es ep, #[]⟩ ∧ es.toList.all entI = true ∧ es.toList.map entP = xs ∧ (xs.map (·.1)).Nodup) (na : (a == sysModules) = false) : WD K P w a xs := by
  obtain ⟨es, ep, rfl, h1, h2, h3⟩ := c
  refine ⟨na, fun h X => ⟨_, es, ep, X _ _ l, ⟨rfl, rfl, rfl⟩, rfl, fun e he => ?_, ?_, h3⟩⟩
  · have := List.all_eq_true.mp h1 e (Array.mem_toList_iff.mpr he)
    obtain ⟨hs, k, v⟩ := e
    cases k with
    | int i t => exact ⟨.inl i, mixKind_int P w i t, eq_of_beq this⟩
    | _ => cases this
  · rw [← h2]
    exact ent_pairs h1
def signs4 (t1 t2 t3 t4 : Tok) : List (Key × Value) := [(.inl 44, .str "," t1), (.inl 58, .str ":" t2), (.inl 59, .str ";" t3), (.inl 45, .str "-" t4)]
theorem sign_txt {K : PySem.W.Frag} {P : Program} {w : World} {mg : Str → Option Value} {a : Addr} {t1 t2 t3 t4 : Tok} (g : mg "SIGNS" = some (.ref a)) (wd : WD K P w a (signs4 t1 t2 t3 t4)) : SignTxt K P w mg a (signs4 t1 t2 t3 t4) where
  g := g
  wd := wd
  yes := fun c hc => by
    have : c = 44 ∨ c = 58 ∨ c = 59 ∨ c = 45 := by
      have : SIGNS = [44, 58, 59, 45] := rfl
      rw [this] at hc
      simpa using hc
    rcases this with rfl | rfl | rfl | rfl
    · exact ⟨t1, rfl⟩
    · exact ⟨t2, rfl⟩
    · exact ⟨t3, rfl⟩
    · exact ⟨t4, rfl⟩
  no := fun c hc => by
    have h4 : c ≠ 44 ∧ c ≠ 58 ∧ c ≠ 59 ∧ c ≠ 45 := by
      refine ⟨?_, ?_, ?_, ?_⟩ <;> (rintro rfl; exact absurd hc (by decide))
    have ne : ∀ d : UInt8, c ≠ d → ¬ ((Sum.inl (d.toNat : Int) : Key) = Sum.inl (c.toNat : Int)) := fun d hd q => hd (UInt8.toNat_inj.mp (by have := Sum.inl.inj q; omega))
    unfold valueAt signs4
    rw [List.find?_cons_of_neg (by rw [decide_eq_true_iff]; exact ne 44 h4.1), List.find?_cons_of_neg (by rw [decide_eq_true_iff]; exact ne 58 h4.2.1), List.find?_cons_of_neg (by rw [decide_eq_true_iff]; exact ne 59 h4.2.2.1), List.find?_cons_of_neg (by rw [decide_eq_true_iff]; exact ne 45 h4.2.2.2)]
    rfl
def tells9 (f1 f2 f3 f4 f5 f6 f7 f8 f9 : Addr) : List (Key × Value) := [(.inl 1, .ref f1), (.inl 2, .ref f2), (.inl 3, .ref f3), (.inl 4, .ref f4), (.inl 5, .ref f5), (.inl 6, .ref f6), (.inl 7, .ref f7), (.inl 8, .ref f8), (.inl 9, .ref f9)]
/-! ### defs with a table -/
def LamIn (K : PySem.W.Frag) (x : Str) (st : Stmt) (T : Addr) : Prop :=
  ∃ (f c : Addr) (oc : Value) (od an : Option Addr) (kV dc pm ct : Value) (sl : Array (Option Value)) (o : Obj), PySem.W.nsIn K mainGlobals x = some (some (.ref f)) ∧
    K.lookup f = some ⟨oc, od, .func (PySem.W.fnOf x x (defArgs st) (defBody st) (defScope st) .none kV dc pm an (.ref c) ct), sl⟩ ∧ PySem.W.codeIn K (.ref c) x = true ∧ PySem.W.keepIn K (.ref f) = true ∧
    K.lookup c = some o ∧ ∃ vs, o.data = .fields vs ∧ vs[11]? = some (.ref T)
theorem lam_in {K : PySem.W.Frag} {x : Str} {st : Stmt} {f c T : Addr} {oc : Value} {od an : Option Addr} {kV dc pm ct : Value} {sl : Array (Option Value)} {o : Obj} (a : PySem.W.nsIn K mainGlobals x = some (some (.ref f)))
    (l : K.lookup f = some ⟨oc, od, .func (PySem.W.fnOf x x (defArgs st) (defBody st) (defScope st) .none kV dc pm an (.ref c) ct), sl⟩) (cc : PySem.W.codeIn K (.ref c) x = true) (k : PySem.W.keepIn K (.ref f) = true)
    (lc : K.lookup c = some o) (t : ∃ vs, o.data = .fields vs ∧ vs[11]? = some (.ref T)) : LamIn K x st T :=
  ⟨f, c, oc, od, an, kV, dc, pm, ct, sl, o, a, l, cc, k, lc, t⟩
theorem LamIn.get {K : PySem.W.Frag} {h : Heap} {mg : Str → Option Value} {q : Program} {x : Str} {st : Stmt} {T : Addr} (X : K.In h) (G : h.Ns mainGlobals mg) (D : LamIn K x st T) (F : KeyL.TabF q mg h) (r : ((recsOf q).any fun d => d.name == x) = true) :
    ∃ (f c : Addr) (fd : FuncData), mg x = some (.ref f) ∧ Fun K x x st f fd ∧ fd.code = .ref c ∧ PySem.W.CodeHd h c T ∧ h.get? T = some { cls := .none, data := .fields #[] } := by
  obtain ⟨f, c, oc, od, an, kV, dc, pm, ct, sl, o, a, l, cc, k, lc, vs, hv, ht⟩ := D
  have m := PySem.W.mg_of X G a
  obtain ⟨d, hd, hn⟩ := List.any_eq_true.mp r
  obtain ⟨a', o', fd, c', T', m', g', d', e', ic, ta⟩ := F d hd
  rw [eq_of_beq hn, m] at m'
  cases m'
  rw [X _ _ l] at g'
  cases g'
  cases d'
  have ec : c = c' := Value.ref.inj e'
  subst ec
  have tt : T' = T := by
    obtain ⟨⟨o2, vs2, g2, _, d2, v2⟩, _⟩ := id ta
    rw [X _ _ lc] at g2
    cases g2
    rw [hv] at d2
    cases d2
    rw [ht] at v2
    exact (Value.ref.inj (Option.some.inj v2)).symm
  subst tt
  exact ⟨f, c, _, m, fun_mk (st := st) l cc k, rfl, PySem.W.CodeHd.of ic ta, ta.2⟩
end Off
end
section
set_option Elab.async false
set_option linter.all false
set_option maxRecDepth 100000
set_option maxHeartbeats 8000000
namespace Off
open PySem PySem.Spec PyProof.Rows L2 LamX NdefX
/-! ### all the defs, put together -/
/-- the promise, by the tables' places -/
def spOf (cs : List (Addr × Addr)) (K : PySem.W.Frag) : Sp := match cs with
  | [p1, p2] => spAnswers K [(p1.2, lamQ "likeliest_first"), (p2.2, lamQ "set_weights")]
  | _ => fun _ _ _ _ => True
theorem all_end {P : Program} {w : World} {K : PySem.W.Frag} {h : Heap} {mg : Str → Option Value} {fa : Addr} {q : Program} {CF CT CR CD CH CC CK T_likeliest_first T_set_weights a_BLANKS a_WORDS a_SINGLES a_WITH_ROW q_set_chances q_tell_unbeaten q_tell_all q_tell_mean q_tell_just_set q_tell_likely q_tell_top q_tell_given q_tell_counts a_SIGNS a_TELLING : Addr} {t_ROW_END : Tok} {t_REMARK : Tok} {t_MOST_NAME_BYTES : Tok} {t_NO_TOKEN : Tok} {t_MOST_DIGITS : Tok} {t_ZERO : Tok} {t_MOST_NUMBER : Tok} {t_NOT_ALLOWED : Tok} {t_TOO_GREAT : Tok} {t_MOST_VALUE : Tok} {t_NAME_AGAIN : Tok} {t_TOO_MANY : Tok} {t_MOST_MEASURES : Tok} {t_MOST_ITEMS : Tok} {t_TOO_LONG : Tok} {t_MOST_BYTES : Tok} {t_MOST_FOR_SETS : Tok} {t_MOST_TOP : Tok} {t_MOST_Q : Tok} {t_LOAD : Tok} {o_BLANKS : Obj} {o_WORDS : Obj} {o_SINGLES : Obj} {o_WITH_ROW : Obj} {t_s1 : Tok} {t_s2 : Tok} {t_s3 : Tok} {t_s4 : Tok} {o_SIGNS : Obj} {o_TELLING : Obj} (X : K.In h) (G : h.Ns mainGlobals mg) (hfa : mg "answers" = some (.ref fa)) (TF : KeyL.TabF q mg h)
    (z_len : PySem.W.nsIn K mainGlobals "len" = some none)
    (z_zip : PySem.W.nsIn K mainGlobals "zip" = some none)
    (z_enumerate : PySem.W.nsIn K mainGlobals "enumerate" = some none)
    (z_range : PySem.W.nsIn K mainGlobals "range" = some none)
    (z_tuple : PySem.W.nsIn K mainGlobals "tuple" = some none)
    (z_list : PySem.W.nsIn K mainGlobals "list" = some none)
    (z_all : PySem.W.nsIn K mainGlobals "all" = some none)
    (z_ord : PySem.W.nsIn K mainGlobals "ord" = some none)
    (z_Exception : PySem.W.nsIn K mainGlobals "Exception" = some none)
    (z_any : PySem.W.nsIn K mainGlobals "any" = some none)
    (z_sum : PySem.W.nsIn K mainGlobals "sum" = some none)
    (z_max : PySem.W.nsIn K mainGlobals "max" = some none)
    (z_set : PySem.W.nsIn K mainGlobals "set" = some none)
    (z_sorted : PySem.W.nsIn K mainGlobals "sorted" = some none)
    (fa_ : FaultIn K CF)
    (c_Token : ClsIn K "Token" CT)
    (n_Token_kind : PySem.W.findIn K (.ref CT) "kind" = some none)
    (n_Token_place : PySem.W.findIn K (.ref CT) "place" = some none)
    (n_Token_end : PySem.W.findIn K (.ref CT) "end" = some none)
    (n_Token_value : PySem.W.findIn K (.ref CT) "value" = some none)
    (c_Reader : ClsIn K "Reader" CR)
    (n_Reader_tokens : PySem.W.findIn K (.ref CR) "tokens" = some none)
    (n_Reader_at : PySem.W.findIn K (.ref CR) "at" = some none)
    (c_Told : ClsIn K "Told" CD)
    (n_Told_measures : PySem.W.findIn K (.ref CD) "measures" = some none)
    (n_Told_merits : PySem.W.findIn K (.ref CD) "merits" = some none)
    (c_Held : ClsIn K "Held" CH)
    (n_Held_beaters : PySem.W.findIn K (.ref CH) "beaters" = some none)
    (n_Held_q : PySem.W.findIn K (.ref CH) "q" = some none)
    (n_Held_numerators : PySem.W.findIn K (.ref CH) "numerators" = some none)
    (c_Call : ClsIn K "Call" CC)
    (n_Call_number : PySem.W.findIn K (.ref CC) "number" = some none)
    (n_Call_singles : PySem.W.findIn K (.ref CC) "singles" = some none)
    (n_Call_row : PySem.W.findIn K (.ref CC) "row" = some none)
    (n_Call_end : PySem.W.findIn K (.ref CC) "end" = some none)
    (c_Desk : ClsIn K "Desk" CK)
    (n_Desk_held : PySem.W.findIn K (.ref CK) "held" = some none)
    (M_Fault_init : MethIn K CF "__init__" "Fault.__init__" s_Fault_init)
    (M_Token_init : MethIn K CT "__init__" "Token.__init__" s_Token_init)
    (M_Reader_init : MethIn K CR "__init__" "Reader.__init__" s_Reader_init)
    (M_Reader_sees : MethIn K CR "sees" "Reader.sees" s_Reader_sees)
    (M_Reader_take : MethIn K CR "take" "Reader.take" s_Reader_take)
    (M_Told_init : MethIn K CD "__init__" "Told.__init__" s_Told_init)
    (M_Held_init : MethIn K CH "__init__" "Held.__init__" s_Held_init)
    (M_Call_init : MethIn K CC "__init__" "Call.__init__" s_Call_init)
    (M_Desk_init : MethIn K CK "__init__" "Desk.__init__" s_Desk_init)
    (D_is_letter : DefIn K "is_letter" s_is_letter)
    (D_is_digit : DefIn K "is_digit" s_is_digit)
    (D_behind_remark : DefIn K "behind_remark" s_behind_remark)
    (D_behind_blanks : DefIn K "behind_blanks" s_behind_blanks)
    (D_word_kind : DefIn K "word_kind" s_word_kind)
    (D_word_at : DefIn K "word_at" s_word_at)
    (D_number_at : DefIn K "number_at" s_number_at)
    (D_token_at : DefIn K "token_at" s_token_at)
    (D_tokens_of : DefIn K "tokens_of" s_tokens_of)
    (D_read_value : DefIn K "read_value" s_read_value)
    (D_keep_name : DefIn K "keep_name" s_keep_name)
    (D_read_measure : DefIn K "read_measure" s_read_measure)
    (D_read_measures : DefIn K "read_measures" s_read_measures)
    (D_read_merits : DefIn K "read_merits" s_read_merits)
    (D_read_items : DefIn K "read_items" s_read_items)
    (D_read_list : DefIn K "read_list" s_read_list)
    (D_beats : DefIn K "beats" s_beats)
    (D_beaters_of : DefIn K "beaters_of" s_beaters_of)
    (D_all_beaters : DefIn K "all_beaters" s_all_beaters)
    (D_common_divisor : DefIn K "common_divisor" s_common_divisor)
    (D_lowest : DefIn K "lowest" s_lowest)
    (D_sure_ones : DefIn K "sure_ones" s_sure_ones)
    (D_with_numerator : DefIn K "with_numerator" s_with_numerator)
    (D_item_count : DefIn K "item_count" s_item_count)
    (D_chance_of : DefIn K "chance_of" s_chance_of)
    (D_worlds_weight : DefIn K "worlds_weight" s_worlds_weight)
    (D_unbeaten_weight : DefIn K "unbeaten_weight" s_unbeaten_weight)
    (D_unbeaten_weights : DefIn K "unbeaten_weights" s_unbeaten_weights)
    (D_unbeaten_chance : DefIn K "unbeaten_chance" s_unbeaten_chance)
    (D_all_chances : DefIn K "all_chances" s_all_chances)
    (D_mean_unbeaten : DefIn K "mean_unbeaten" s_mean_unbeaten)
    (D_likeliest_first : LamIn K "likeliest_first" s_likeliest_first T_likeliest_first)
    (D_is_beaten : DefIn K "is_beaten" s_is_beaten)
    (D_just_set_chance : DefIn K "just_set_chance" s_just_set_chance)
    (D_bit_of : DefIn K "bit_of" s_bit_of)
    (D_bits_of : DefIn K "bits_of" s_bits_of)
    (D_items_of : DefIn K "items_of" s_items_of)
    (D_joined_by : DefIn K "joined_by" s_joined_by)
    (D_set_weights : LamIn K "set_weights" s_set_weights T_set_weights)
    (D_likeliest_set : DefIn K "likeliest_set" s_likeliest_set)
    (D_count_chances : DefIn K "count_chances" s_count_chances)
    (D_is_item : DefIn K "is_item" s_is_item)
    (D_tell_unbeaten : DefIn K "tell_unbeaten" s_tell_unbeaten)
    (D_counted : DefIn K "counted" s_counted)
    (D_tell_all : DefIn K "tell_all" s_tell_all)
    (D_tell_mean : DefIn K "tell_mean" s_tell_mean)
    (D_tell_counts : DefIn K "tell_counts" s_tell_counts)
    (D_tell_top : DefIn K "tell_top" s_tell_top)
    (D_tell_likely : DefIn K "tell_likely" s_tell_likely)
    (D_tell_just_set : DefIn K "tell_just_set" s_tell_just_set)
    (D_tell_given : DefIn K "tell_given" s_tell_given)
    (D_are_chances : DefIn K "are_chances" s_are_chances)
    (D_set_chances : DefIn K "set_chances" s_set_chances)
    (D_tell : DefIn K "tell" s_tell)
    (D_call_at : DefIn K "call_at" s_call_at)
    (D_load : DefIn K "load" s_load)
    (D_answer : DefIn K "answer" s_answer)
    (D_answers : DefIn K "answers" s_answers)
    (g_ROW_END : PySem.W.nsIn K mainGlobals "ROW_END" = some (some (.int 10 t_ROW_END)))
    (g_REMARK : PySem.W.nsIn K mainGlobals "REMARK" = some (some (.int 35 t_REMARK)))
    (g_MOST_NAME_BYTES : PySem.W.nsIn K mainGlobals "MOST_NAME_BYTES" = some (some (.int 16 t_MOST_NAME_BYTES)))
    (g_NO_TOKEN : PySem.W.nsIn K mainGlobals "NO_TOKEN" = some (some (.int 2 t_NO_TOKEN)))
    (g_MOST_DIGITS : PySem.W.nsIn K mainGlobals "MOST_DIGITS" = some (some (.int 10 t_MOST_DIGITS)))
    (g_ZERO : PySem.W.nsIn K mainGlobals "ZERO" = some (some (.int 48 t_ZERO)))
    (g_MOST_NUMBER : PySem.W.nsIn K mainGlobals "MOST_NUMBER" = some (some (.int 1000000000 t_MOST_NUMBER)))
    (g_NOT_ALLOWED : PySem.W.nsIn K mainGlobals "NOT_ALLOWED" = some (some (.int 3 t_NOT_ALLOWED)))
    (g_TOO_GREAT : PySem.W.nsIn K mainGlobals "TOO_GREAT" = some (some (.int 7 t_TOO_GREAT)))
    (g_MOST_VALUE : PySem.W.nsIn K mainGlobals "MOST_VALUE" = some (some (.int 1000 t_MOST_VALUE)))
    (g_NAME_AGAIN : PySem.W.nsIn K mainGlobals "NAME_AGAIN" = some (some (.int 5 t_NAME_AGAIN)))
    (g_TOO_MANY : PySem.W.nsIn K mainGlobals "TOO_MANY" = some (some (.int 4 t_TOO_MANY)))
    (g_MOST_MEASURES : PySem.W.nsIn K mainGlobals "MOST_MEASURES" = some (some (.int 4 t_MOST_MEASURES)))
    (g_MOST_ITEMS : PySem.W.nsIn K mainGlobals "MOST_ITEMS" = some (some (.int 16 t_MOST_ITEMS)))
    (g_TOO_LONG : PySem.W.nsIn K mainGlobals "TOO_LONG" = some (some (.int 1 t_TOO_LONG)))
    (g_MOST_BYTES : PySem.W.nsIn K mainGlobals "MOST_BYTES" = some (some (.int 4096 t_MOST_BYTES)))
    (g_MOST_FOR_SETS : PySem.W.nsIn K mainGlobals "MOST_FOR_SETS" = some (some (.int 12 t_MOST_FOR_SETS)))
    (g_MOST_TOP : PySem.W.nsIn K mainGlobals "MOST_TOP" = some (some (.int 16 t_MOST_TOP)))
    (g_MOST_Q : PySem.W.nsIn K mainGlobals "MOST_Q" = some (some (.int 100 t_MOST_Q)))
    (g_LOAD : PySem.W.nsIn K mainGlobals "LOAD" = some (some (.int 0 t_LOAD)))
    (g_BLANKS : PySem.W.nsIn K mainGlobals "BLANKS" = some (some (.ref a_BLANKS)))
    (l_BLANKS : K.lookup a_BLANKS = some o_BLANKS)
    (v_BLANKS : o_BLANKS.cls = .type "tuple" ∧ ∃ its n, o_BLANKS.data = .seq its n ∧ its.size ≤ sizeLine ∧ Vals [.int 32, .int 9, .int 10] its.toList)
    (g_WORDS : PySem.W.nsIn K mainGlobals "WORDS" = some (some (.ref a_WORDS)))
    (l_WORDS : K.lookup a_WORDS = some o_WORDS)
    (v_WORDS : o_WORDS.cls = .type "tuple" ∧ ∃ its n, o_WORDS.data = .seq its n ∧ its.size ≤ sizeLine ∧ Vals [.str wMeasures, .str wUp, .str wDown, .str wItem] its.toList)
    (g_SINGLES : PySem.W.nsIn K mainGlobals "SINGLES" = some (some (.ref a_SINGLES)))
    (l_SINGLES : K.lookup a_SINGLES = some o_SINGLES)
    (v_SINGLES : o_SINGLES.cls = .type "tuple" ∧ ∃ its n, o_SINGLES.data = .seq its n ∧ its.size ≤ sizeLine ∧ Vals (([0, 1, 1, 0, 0, 0, 0, 1, 3, 0] : List Int).map V.int) its.toList)
    (g_WITH_ROW : PySem.W.nsIn K mainGlobals "WITH_ROW" = some (some (.ref a_WITH_ROW)))
    (l_WITH_ROW : K.lookup a_WITH_ROW = some o_WITH_ROW)
    (v_WITH_ROW : o_WITH_ROW.cls = .type "tuple" ∧ ∃ its n, o_WITH_ROW.data = .seq its n ∧ its.size ≤ sizeLine ∧ Vals (([0, 1, 5] : List Int).map V.int) its.toList)
    (q0_set_chances : PySem.W.nsIn K mainGlobals "set_chances" = some (some (.ref q_set_chances)))
    (q0_tell_unbeaten : PySem.W.nsIn K mainGlobals "tell_unbeaten" = some (some (.ref q_tell_unbeaten)))
    (q0_tell_all : PySem.W.nsIn K mainGlobals "tell_all" = some (some (.ref q_tell_all)))
    (q0_tell_mean : PySem.W.nsIn K mainGlobals "tell_mean" = some (some (.ref q_tell_mean)))
    (q0_tell_just_set : PySem.W.nsIn K mainGlobals "tell_just_set" = some (some (.ref q_tell_just_set)))
    (q0_tell_likely : PySem.W.nsIn K mainGlobals "tell_likely" = some (some (.ref q_tell_likely)))
    (q0_tell_top : PySem.W.nsIn K mainGlobals "tell_top" = some (some (.ref q_tell_top)))
    (q0_tell_given : PySem.W.nsIn K mainGlobals "tell_given" = some (some (.ref q_tell_given)))
    (q0_tell_counts : PySem.W.nsIn K mainGlobals "tell_counts" = some (some (.ref q_tell_counts)))
    (g_SIGNS : PySem.W.nsIn K mainGlobals "SIGNS" = some (some (.ref a_SIGNS)))
    (l_SIGNS : K.lookup a_SIGNS = some o_SIGNS)
    (v_SIGNS : ∃ es ep, o_SIGNS = ⟨.type "dict", none, .dict es ep, #[]⟩ ∧ es.toList.all entI = true ∧ es.toList.map entP = signs4 t_s1 t_s2 t_s3 t_s4 ∧ ((signs4 t_s1 t_s2 t_s3 t_s4).map (·.1)).Nodup)
    (na_SIGNS : (a_SIGNS == sysModules) = false)
    (g_TELLING : PySem.W.nsIn K mainGlobals "TELLING" = some (some (.ref a_TELLING)))
    (l_TELLING : K.lookup a_TELLING = some o_TELLING)
    (v_TELLING : ∃ es ep, o_TELLING = ⟨.type "dict", none, .dict es ep, #[]⟩ ∧ es.toList.all entI = true ∧ es.toList.map entP = tells9 q_set_chances q_tell_unbeaten q_tell_all q_tell_mean q_tell_just_set q_tell_likely q_tell_top q_tell_given q_tell_counts ∧ ((tells9 q_set_chances q_tell_unbeaten q_tell_all q_tell_mean q_tell_just_set q_tell_likely q_tell_top q_tell_given q_tell_counts).map (·.1)).Nodup)
    (na_TELLING : (a_TELLING == sysModules) = false)
    (rec_likeliest_first : ((recsOf q).any fun d => d.name == ("likeliest_first" : Str)) = true)
    (rec_set_weights : ((recsOf q).any fun d => d.name == ("set_weights" : Str)) = true)
    (neT : T_likeliest_first ≠ T_set_weights) :
    ∃ (fd : FuncData) (cs : List (Addr × Addr)), (∀ p ∈ cs, PySem.W.CodeHd h p.1 p.2 ∧ h.get? p.2 = some { cls := .none, data := .fields #[] }) ∧ (∀ (s : Shared) (us : List Value), us.length = (["calls"] : List Str).length → BindsTo s fd ⟨us, []⟩ ((["calls"] : List Str).zip us)) ∧
      ∀ base : Heap, K.In base → base.Ns mainGlobals mg → (∀ p ∈ cs, TabB base mg p.1 p.2) → FnOk P w K mg base CX0 26 fa fd ["calls"] (spOf cs K) := by
  have B : Blt mg := ⟨PySem.W.mg_none_of X G z_len, PySem.W.mg_none_of X G z_zip, PySem.W.mg_none_of X G z_enumerate, PySem.W.mg_none_of X G z_range, PySem.W.mg_none_of X G z_tuple, PySem.W.mg_none_of X G z_list, PySem.W.mg_none_of X G z_all, PySem.W.mg_none_of X G z_ord, PySem.W.mg_none_of X G z_Exception, PySem.W.mg_none_of X G z_any, PySem.W.mg_none_of X G z_sum, PySem.W.mg_none_of X G z_max, PySem.W.mg_none_of X G z_set, PySem.W.mg_none_of X G z_sorted⟩
  obtain ⟨fF, fdF, a_fF, i_fF, F_fF⟩ := M_Fault_init.get
  have b_fdF : Binds K fdF ["self", "code", "place"] [] := F_fF.binds (ps := ["self", "code", "place"]) fun _ _ _ _ _ _ us hl => match us, hl with | [_, _, _], _ => rfl
  obtain ⟨fT, fdT, a_fT, i_fT, F_fT⟩ := M_Token_init.get
  have b_fdT : Binds K fdT ["self", "kind", "place", "end", "value"] [] := F_fT.binds (ps := ["self", "kind", "place", "end", "value"]) fun _ _ _ _ _ _ us hl => match us, hl with | [_, _, _, _, _], _ => rfl
  obtain ⟨fRI, fdR, a_fRI, i_fRI, F_fRI⟩ := M_Reader_init.get
  have b_fdR : Binds K fdR ["self", "tokens"] [] := F_fRI.binds (ps := ["self", "tokens"]) fun _ _ _ _ _ _ us hl => match us, hl with | [_, _], _ => rfl
  obtain ⟨fRS, fdS, a_fRS, i_fRS, F_fRS⟩ := M_Reader_sees.get
  have b_fdS : Binds K fdS ["self", "kind"] [] := F_fRS.binds (ps := ["self", "kind"]) fun _ _ _ _ _ _ us hl => match us, hl with | [_, _], _ => rfl
  obtain ⟨fRT, fdK, a_fRT, i_fRT, F_fRT⟩ := M_Reader_take.get
  have b_fdK : Binds K fdK ["self", "kind"] [] := F_fRT.binds (ps := ["self", "kind"]) fun _ _ _ _ _ _ us hl => match us, hl with | [_, _], _ => rfl
  obtain ⟨fD, fdD, a_fD, i_fD, F_fD⟩ := M_Told_init.get
  have b_fdD : Binds K fdD ["self", "measures", "merits"] [] := F_fD.binds (ps := ["self", "measures", "merits"]) fun _ _ _ _ _ _ us hl => match us, hl with | [_, _, _], _ => rfl
  obtain ⟨fH, fdH, a_fH, i_fH, F_fH⟩ := M_Held_init.get
  have b_fdH : Binds K fdH ["self", "beaters", "q", "numerators"] [] := F_fH.binds (ps := ["self", "beaters", "q", "numerators"]) fun _ _ _ _ _ _ us hl => match us, hl with | [_, _, _, _], _ => rfl
  obtain ⟨fC, fdC, a_fC, i_fC, F_fC⟩ := M_Call_init.get
  have b_fdC : Binds K fdC ["self", "number", "singles", "row", "end"] [] := F_fC.binds (ps := ["self", "number", "singles", "row", "end"]) fun _ _ _ _ _ _ us hl => match us, hl with | [_, _, _, _, _], _ => rfl
  obtain ⟨fK, fdDK, a_fK, i_fK, F_fK⟩ := M_Desk_init.get
  have b_fdDK : Binds K fdDK ["self"] [] := F_fK.binds (ps := ["self"]) fun _ _ _ _ _ _ us hl => match us, hl with | [_], _ => rfl
  have T_Fault : FaultTxt K mg CF fF := ⟨PySem.W.mg_of X G fa_.a, ⟨fa_.cls, fa_.sa, fa_.exC, fa_.tyC, fa_.kC⟩, fa_.vE, fa_.nC, fa_.nP, a_fF, eq_of_beq i_fF, ⟨fa_.ga, fa_.gg, fa_.exC, fa_.hdC⟩, exm_own fa_.exC fa_.iC fa_.tyC fa_.sC⟩
  have T_Token : TokTxt K mg CT fT := ⟨c_Token.cls, n_Token_kind, n_Token_place, n_Token_end, n_Token_value, PySem.W.mg_of X G c_Token.a, ⟨c_Token.mk1, a_fT, i_fT, c_Token.kc⟩⟩
  have T_Told : ToldTxt K mg CD fD := ⟨c_Told.cls, n_Told_measures, n_Told_merits, PySem.W.mg_of X G c_Told.a, ⟨c_Told.mk1, a_fD, i_fD, c_Told.kc⟩⟩
  have T_Held : HeldTxt K mg CH fH := ⟨c_Held.cls, n_Held_beaters, n_Held_q, n_Held_numerators, PySem.W.mg_of X G c_Held.a, ⟨c_Held.mk1, a_fH, i_fH, c_Held.kc⟩⟩
  have T_Call : CallTxt K mg CC fC := ⟨c_Call.cls, n_Call_number, n_Call_singles, n_Call_row, n_Call_end, PySem.W.mg_of X G c_Call.a, ⟨c_Call.mk1, a_fC, i_fC, c_Call.kc⟩⟩
  have T_Desk : DeskTxt K mg CK fK := ⟨c_Desk.cls, n_Desk_held, PySem.W.mg_of X G c_Desk.a, ⟨c_Desk.mk1, a_fK, i_fK, c_Desk.kc⟩⟩
  have T_Reader : RdTxt K mg CR fRI fRS fRT := ⟨c_Reader.cls, n_Reader_tokens, n_Reader_at, PySem.W.mg_of X G c_Reader.a, ⟨c_Reader.mk1, a_fRI, i_fRI, c_Reader.kc⟩, ⟨a_fRS, i_fRS, F_fRS.kp⟩, ⟨a_fRT, i_fRT, F_fRT.kp⟩⟩
  obtain ⟨f_is_letter, fd_is_letter, m_is_letter, F_is_letter⟩ := D_is_letter.get X G
  have b_fd_is_letter : Binds K fd_is_letter ["byte"] [] := F_is_letter.binds (ps := ["byte"]) fun _ _ _ _ _ _ us hl => match us, hl with | [_], _ => rfl
  obtain ⟨f_is_digit, fd_is_digit, m_is_digit, F_is_digit⟩ := D_is_digit.get X G
  have b_fd_is_digit : Binds K fd_is_digit ["byte"] [] := F_is_digit.binds (ps := ["byte"]) fun _ _ _ _ _ _ us hl => match us, hl with | [_], _ => rfl
  obtain ⟨f_behind_remark, fd_behind_remark, m_behind_remark, F_behind_remark⟩ := D_behind_remark.get X G
  have b_fd_behind_remark : Binds K fd_behind_remark ["text", "place"] [] := F_behind_remark.binds (ps := ["text", "place"]) fun _ _ _ _ _ _ us hl => match us, hl with | [_, _], _ => rfl
  obtain ⟨f_behind_blanks, fd_behind_blanks, m_behind_blanks, F_behind_blanks⟩ := D_behind_blanks.get X G
  have b_fd_behind_blanks : Binds K fd_behind_blanks ["text", "place"] [] := F_behind_blanks.binds (ps := ["text", "place"]) fun _ _ _ _ _ _ us hl => match us, hl with | [_, _], _ => rfl
  obtain ⟨f_word_kind, fd_word_kind, m_word_kind, F_word_kind⟩ := D_word_kind.get X G
  have b_fd_word_kind : Binds K fd_word_kind ["spelling"] [] := F_word_kind.binds (ps := ["spelling"]) fun _ _ _ _ _ _ us hl => match us, hl with | [_], _ => rfl
  obtain ⟨f_word_at, fd_word_at, m_word_at, F_word_at⟩ := D_word_at.get X G
  have b_fd_word_at : Binds K fd_word_at ["text", "place"] [] := F_word_at.binds (ps := ["text", "place"]) fun _ _ _ _ _ _ us hl => match us, hl with | [_, _], _ => rfl
  obtain ⟨f_number_at, fd_number_at, m_number_at, F_number_at⟩ := D_number_at.get X G
  have b_fd_number_at : Binds K fd_number_at ["text", "place"] [] := F_number_at.binds (ps := ["text", "place"]) fun _ _ _ _ _ _ us hl => match us, hl with | [_, _], _ => rfl
  obtain ⟨f_token_at, fd_token_at, m_token_at, F_token_at⟩ := D_token_at.get X G
  have b_fd_token_at : Binds K fd_token_at ["text", "place"] [] := F_token_at.binds (ps := ["text", "place"]) fun _ _ _ _ _ _ us hl => match us, hl with | [_, _], _ => rfl
  obtain ⟨f_tokens_of, fd_tokens_of, m_tokens_of, F_tokens_of⟩ := D_tokens_of.get X G
  have b_fd_tokens_of : Binds K fd_tokens_of ["text"] [] := F_tokens_of.binds (ps := ["text"]) fun _ _ _ _ _ _ us hl => match us, hl with | [_], _ => rfl
  obtain ⟨f_read_value, fd_read_value, m_read_value, F_read_value⟩ := D_read_value.get X G
  have b_fd_read_value : Binds K fd_read_value ["reader"] [] := F_read_value.binds (ps := ["reader"]) fun _ _ _ _ _ _ us hl => match us, hl with | [_], _ => rfl
  obtain ⟨f_keep_name, fd_keep_name, m_keep_name, F_keep_name⟩ := D_keep_name.get X G
  have b_fd_keep_name : Binds K fd_keep_name ["names", "token"] [] := F_keep_name.binds (ps := ["names", "token"]) fun _ _ _ _ _ _ us hl => match us, hl with | [_, _], _ => rfl
  obtain ⟨f_read_measure, fd_read_measure, m_read_measure, F_read_measure⟩ := D_read_measure.get X G
  have b_fd_read_measure : Binds K fd_read_measure ["reader", "names"] [] := F_read_measure.binds (ps := ["reader", "names"]) fun _ _ _ _ _ _ us hl => match us, hl with | [_, _], _ => rfl
  obtain ⟨f_read_measures, fd_read_measures, m_read_measures, F_read_measures⟩ := D_read_measures.get X G
  have b_fd_read_measures : Binds K fd_read_measures ["reader"] [] := F_read_measures.binds (ps := ["reader"]) fun _ _ _ _ _ _ us hl => match us, hl with | [_], _ => rfl
  obtain ⟨f_read_merits, fd_read_merits, m_read_merits, F_read_merits⟩ := D_read_merits.get X G
  have b_fd_read_merits : Binds K fd_read_merits ["reader", "turns"] [] := F_read_merits.binds (ps := ["reader", "turns"]) fun _ _ _ _ _ _ us hl => match us, hl with | [_, _], _ => rfl
  obtain ⟨f_read_items, fd_read_items, m_read_items, F_read_items⟩ := D_read_items.get X G
  have b_fd_read_items : Binds K fd_read_items ["reader", "turns"] [] := F_read_items.binds (ps := ["reader", "turns"]) fun _ _ _ _ _ _ us hl => match us, hl with | [_, _], _ => rfl
  obtain ⟨f_read_list, fd_read_list, m_read_list, F_read_list⟩ := D_read_list.get X G
  have b_fd_read_list : Binds K fd_read_list ["text"] [] := F_read_list.binds (ps := ["text"]) fun _ _ _ _ _ _ us hl => match us, hl with | [_], _ => rfl
  obtain ⟨f_beats, fd_beats, m_beats, F_beats⟩ := D_beats.get X G
  have b_fd_beats : Binds K fd_beats ["one", "other"] [] := F_beats.binds (ps := ["one", "other"]) fun _ _ _ _ _ _ us hl => match us, hl with | [_, _], _ => rfl
  obtain ⟨f_beaters_of, fd_beaters_of, m_beaters_of, F_beaters_of⟩ := D_beaters_of.get X G
  have b_fd_beaters_of : Binds K fd_beaters_of ["merits", "item"] [] := F_beaters_of.binds (ps := ["merits", "item"]) fun _ _ _ _ _ _ us hl => match us, hl with | [_, _], _ => rfl
  obtain ⟨f_all_beaters, fd_all_beaters, m_all_beaters, F_all_beaters⟩ := D_all_beaters.get X G
  have b_fd_all_beaters : Binds K fd_all_beaters ["merits"] [] := F_all_beaters.binds (ps := ["merits"]) fun _ _ _ _ _ _ us hl => match us, hl with | [_], _ => rfl
  obtain ⟨f_common_divisor, fd_common_divisor, m_common_divisor, F_common_divisor⟩ := D_common_divisor.get X G
  have b_fd_common_divisor : Binds K fd_common_divisor ["first", "second"] [] := F_common_divisor.binds (ps := ["first", "second"]) fun _ _ _ _ _ _ us hl => match us, hl with | [_, _], _ => rfl
  obtain ⟨f_lowest, fd_lowest, m_lowest, F_lowest⟩ := D_lowest.get X G
  have b_fd_lowest : Binds K fd_lowest ["above", "below"] [] := F_lowest.binds (ps := ["above", "below"]) fun _ _ _ _ _ _ us hl => match us, hl with | [_, _], _ => rfl
  obtain ⟨f_sure_ones, fd_sure_ones, m_sure_ones, F_sure_ones⟩ := D_sure_ones.get X G
  have b_fd_sure_ones : Binds K fd_sure_ones ["beaters"] [] := F_sure_ones.binds (ps := ["beaters"]) fun _ _ _ _ _ _ us hl => match us, hl with | [_], _ => rfl
  obtain ⟨f_with_numerator, fd_with_numerator, m_with_numerator, F_with_numerator⟩ := D_with_numerator.get X G
  have b_fd_with_numerator : Binds K fd_with_numerator ["held", "item", "numerator"] [] := F_with_numerator.binds (ps := ["held", "item", "numerator"]) fun _ _ _ _ _ _ us hl => match us, hl with | [_, _, _], _ => rfl
  obtain ⟨f_item_count, fd_item_count, m_item_count, F_item_count⟩ := D_item_count.get X G
  have b_fd_item_count : Binds K fd_item_count ["held"] [] := F_item_count.binds (ps := ["held"]) fun _ _ _ _ _ _ us hl => match us, hl with | [_], _ => rfl
  obtain ⟨f_chance_of, fd_chance_of, m_chance_of, F_chance_of⟩ := D_chance_of.get X G
  have b_fd_chance_of : Binds K fd_chance_of ["held", "weight"] [] := F_chance_of.binds (ps := ["held", "weight"]) fun _ _ _ _ _ _ us hl => match us, hl with | [_, _], _ => rfl
  obtain ⟨f_worlds_weight, fd_worlds_weight, m_worlds_weight, F_worlds_weight⟩ := D_worlds_weight.get X G
  have b_fd_worlds_weight : Binds K fd_worlds_weight ["held", "there", "away"] [] := F_worlds_weight.binds (ps := ["held", "there", "away"]) fun _ _ _ _ _ _ us hl => match us, hl with | [_, _, _], _ => rfl
  obtain ⟨f_unbeaten_weight, fd_unbeaten_weight, m_unbeaten_weight, F_unbeaten_weight⟩ := D_unbeaten_weight.get X G
  have b_fd_unbeaten_weight : Binds K fd_unbeaten_weight ["held", "item"] [] := F_unbeaten_weight.binds (ps := ["held", "item"]) fun _ _ _ _ _ _ us hl => match us, hl with | [_, _], _ => rfl
  obtain ⟨f_unbeaten_weights, fd_unbeaten_weights, m_unbeaten_weights, F_unbeaten_weights⟩ := D_unbeaten_weights.get X G
  have b_fd_unbeaten_weights : Binds K fd_unbeaten_weights ["held"] [] := F_unbeaten_weights.binds (ps := ["held"]) fun _ _ _ _ _ _ us hl => match us, hl with | [_], _ => rfl
  obtain ⟨f_unbeaten_chance, fd_unbeaten_chance, m_unbeaten_chance, F_unbeaten_chance⟩ := D_unbeaten_chance.get X G
  have b_fd_unbeaten_chance : Binds K fd_unbeaten_chance ["held", "item"] [] := F_unbeaten_chance.binds (ps := ["held", "item"]) fun _ _ _ _ _ _ us hl => match us, hl with | [_, _], _ => rfl
  obtain ⟨f_all_chances, fd_all_chances, m_all_chances, F_all_chances⟩ := D_all_chances.get X G
  have b_fd_all_chances : Binds K fd_all_chances ["held"] [] := F_all_chances.binds (ps := ["held"]) fun _ _ _ _ _ _ us hl => match us, hl with | [_], _ => rfl
  obtain ⟨f_mean_unbeaten, fd_mean_unbeaten, m_mean_unbeaten, F_mean_unbeaten⟩ := D_mean_unbeaten.get X G
  have b_fd_mean_unbeaten : Binds K fd_mean_unbeaten ["held"] [] := F_mean_unbeaten.binds (ps := ["held"]) fun _ _ _ _ _ _ us hl => match us, hl with | [_], _ => rfl
  obtain ⟨f_likeliest_first, c_likeliest_first, fd_likeliest_first, m_likeliest_first, F_likeliest_first, cd_likeliest_first, hd_likeliest_first, em_likeliest_first⟩ := D_likeliest_first.get X G TF rec_likeliest_first
  have b_fd_likeliest_first : Binds K fd_likeliest_first ["held"] [] := F_likeliest_first.binds (ps := ["held"]) fun _ _ _ _ _ _ us hl => match us, hl with | [_], _ => rfl
  obtain ⟨f_is_beaten, fd_is_beaten, m_is_beaten, F_is_beaten⟩ := D_is_beaten.get X G
  have b_fd_is_beaten : Binds K fd_is_beaten ["held", "item", "items"] [] := F_is_beaten.binds (ps := ["held", "item", "items"]) fun _ _ _ _ _ _ us hl => match us, hl with | [_, _, _], _ => rfl
  obtain ⟨f_just_set_chance, fd_just_set_chance, m_just_set_chance, F_just_set_chance⟩ := D_just_set_chance.get X G
  have b_fd_just_set_chance : Binds K fd_just_set_chance ["held", "items"] [] := F_just_set_chance.binds (ps := ["held", "items"]) fun _ _ _ _ _ _ us hl => match us, hl with | [_, _], _ => rfl
  obtain ⟨f_bit_of, fd_bit_of, m_bit_of, F_bit_of⟩ := D_bit_of.get X G
  have b_fd_bit_of : Binds K fd_bit_of ["held", "item"] [] := F_bit_of.binds (ps := ["held", "item"]) fun _ _ _ _ _ _ us hl => match us, hl with | [_, _], _ => rfl
  obtain ⟨f_bits_of, fd_bits_of, m_bits_of, F_bits_of⟩ := D_bits_of.get X G
  have b_fd_bits_of : Binds K fd_bits_of ["held", "items"] [] := F_bits_of.binds (ps := ["held", "items"]) fun _ _ _ _ _ _ us hl => match us, hl with | [_, _], _ => rfl
  obtain ⟨f_items_of, fd_items_of, m_items_of, F_items_of⟩ := D_items_of.get X G
  have b_fd_items_of : Binds K fd_items_of ["held", "bits"] [] := F_items_of.binds (ps := ["held", "bits"]) fun _ _ _ _ _ _ us hl => match us, hl with | [_, _], _ => rfl
  obtain ⟨f_joined_by, fd_joined_by, m_joined_by, F_joined_by⟩ := D_joined_by.get X G
  have b_fd_joined_by : Binds K fd_joined_by ["held", "weights", "item"] [] := F_joined_by.binds (ps := ["held", "weights", "item"]) fun _ _ _ _ _ _ us hl => match us, hl with | [_, _, _], _ => rfl
  obtain ⟨f_set_weights, c_set_weights, fd_set_weights, m_set_weights, F_set_weights, cd_set_weights, hd_set_weights, em_set_weights⟩ := D_set_weights.get X G TF rec_set_weights
  have b_fd_set_weights : Binds K fd_set_weights ["held"] [] := F_set_weights.binds (ps := ["held"]) fun _ _ _ _ _ _ us hl => match us, hl with | [_], _ => rfl
  obtain ⟨f_likeliest_set, fd_likeliest_set, m_likeliest_set, F_likeliest_set⟩ := D_likeliest_set.get X G
  have b_fd_likeliest_set : Binds K fd_likeliest_set ["held"] [] := F_likeliest_set.binds (ps := ["held"]) fun _ _ _ _ _ _ us hl => match us, hl with | [_], _ => rfl
  obtain ⟨f_count_chances, fd_count_chances, m_count_chances, F_count_chances⟩ := D_count_chances.get X G
  have b_fd_count_chances : Binds K fd_count_chances ["held"] [] := F_count_chances.binds (ps := ["held"]) fun _ _ _ _ _ _ us hl => match us, hl with | [_], _ => rfl
  obtain ⟨f_is_item, fd_is_item, m_is_item, F_is_item⟩ := D_is_item.get X G
  have b_fd_is_item : Binds K fd_is_item ["held", "number"] [] := F_is_item.binds (ps := ["held", "number"]) fun _ _ _ _ _ _ us hl => match us, hl with | [_, _], _ => rfl
  obtain ⟨f_tell_unbeaten, fd_tell_unbeaten, m_tell_unbeaten, F_tell_unbeaten⟩ := D_tell_unbeaten.get X G
  have b_fd_tell_unbeaten : Binds K fd_tell_unbeaten ["held", "call"] [] := F_tell_unbeaten.binds (ps := ["held", "call"]) fun _ _ _ _ _ _ us hl => match us, hl with | [_, _], _ => rfl
  obtain ⟨f_counted, fd_counted, m_counted, F_counted⟩ := D_counted.get X G
  have b_fd_counted : Binds K fd_counted ["chances"] [] := F_counted.binds (ps := ["chances"]) fun _ _ _ _ _ _ us hl => match us, hl with | [_], _ => rfl
  obtain ⟨f_tell_all, fd_tell_all, m_tell_all, F_tell_all⟩ := D_tell_all.get X G
  have b_fd_tell_all : Binds K fd_tell_all ["held", "call"] [] := F_tell_all.binds (ps := ["held", "call"]) fun _ _ _ _ _ _ us hl => match us, hl with | [_, _], _ => rfl
  obtain ⟨f_tell_mean, fd_tell_mean, m_tell_mean, F_tell_mean⟩ := D_tell_mean.get X G
  have b_fd_tell_mean : Binds K fd_tell_mean ["held", "call"] [] := F_tell_mean.binds (ps := ["held", "call"]) fun _ _ _ _ _ _ us hl => match us, hl with | [_, _], _ => rfl
  obtain ⟨f_tell_counts, fd_tell_counts, m_tell_counts, F_tell_counts⟩ := D_tell_counts.get X G
  have b_fd_tell_counts : Binds K fd_tell_counts ["held", "call"] [] := F_tell_counts.binds (ps := ["held", "call"]) fun _ _ _ _ _ _ us hl => match us, hl with | [_, _], _ => rfl
  obtain ⟨f_tell_top, fd_tell_top, m_tell_top, F_tell_top⟩ := D_tell_top.get X G
  have b_fd_tell_top : Binds K fd_tell_top ["held", "call"] [] := F_tell_top.binds (ps := ["held", "call"]) fun _ _ _ _ _ _ us hl => match us, hl with | [_, _], _ => rfl
  obtain ⟨f_tell_likely, fd_tell_likely, m_tell_likely, F_tell_likely⟩ := D_tell_likely.get X G
  have b_fd_tell_likely : Binds K fd_tell_likely ["held", "call"] [] := F_tell_likely.binds (ps := ["held", "call"]) fun _ _ _ _ _ _ us hl => match us, hl with | [_, _], _ => rfl
  obtain ⟨f_tell_just_set, fd_tell_just_set, m_tell_just_set, F_tell_just_set⟩ := D_tell_just_set.get X G
  have b_fd_tell_just_set : Binds K fd_tell_just_set ["held", "call"] [] := F_tell_just_set.binds (ps := ["held", "call"]) fun _ _ _ _ _ _ us hl => match us, hl with | [_, _], _ => rfl
  obtain ⟨f_tell_given, fd_tell_given, m_tell_given, F_tell_given⟩ := D_tell_given.get X G
  have b_fd_tell_given : Binds K fd_tell_given ["held", "call"] [] := F_tell_given.binds (ps := ["held", "call"]) fun _ _ _ _ _ _ us hl => match us, hl with | [_, _], _ => rfl
  obtain ⟨f_are_chances, fd_are_chances, m_are_chances, F_are_chances⟩ := D_are_chances.get X G
  have b_fd_are_chances : Binds K fd_are_chances ["held", "q", "numerators"] [] := F_are_chances.binds (ps := ["held", "q", "numerators"]) fun _ _ _ _ _ _ us hl => match us, hl with | [_, _, _], _ => rfl
  obtain ⟨f_set_chances, fd_set_chances, m_set_chances, F_set_chances⟩ := D_set_chances.get X G
  have b_fd_set_chances : Binds K fd_set_chances ["held", "call"] [] := F_set_chances.binds (ps := ["held", "call"]) fun _ _ _ _ _ _ us hl => match us, hl with | [_, _], _ => rfl
  obtain ⟨f_tell, fd_tell, m_tell, F_tell⟩ := D_tell.get X G
  have b_fd_tell : Binds K fd_tell ["held", "call"] [] := F_tell.binds (ps := ["held", "call"]) fun _ _ _ _ _ _ us hl => match us, hl with | [_, _], _ => rfl
  obtain ⟨f_call_at, fd_call_at, m_call_at, F_call_at⟩ := D_call_at.get X G
  have b_fd_call_at : Binds K fd_call_at ["calls", "place"] [] := F_call_at.binds (ps := ["calls", "place"]) fun _ _ _ _ _ _ us hl => match us, hl with | [_, _], _ => rfl
  obtain ⟨f_load, fd_load, m_load, F_load⟩ := D_load.get X G
  have b_fd_load : Binds K fd_load ["desk", "text"] [] := F_load.binds (ps := ["desk", "text"]) fun _ _ _ _ _ _ us hl => match us, hl with | [_, _], _ => rfl
  obtain ⟨f_answer, fd_answer, m_answer, F_answer⟩ := D_answer.get X G
  have b_fd_answer : Binds K fd_answer ["desk", "call"] [] := F_answer.binds (ps := ["desk", "call"]) fun _ _ _ _ _ _ us hl => match us, hl with | [_, _], _ => rfl
  obtain ⟨f_answers, fd_answers, m_answers, F_answers⟩ := D_answers.get X G
  have b_fd_answers : Binds K fd_answers ["calls"] [] := F_answers.binds (ps := ["calls"]) fun _ _ _ _ _ _ us hl => match us, hl with | [_], _ => rfl
  have T_Tup : TupTxt K mg a_SINGLES a_WITH_ROW := ⟨PySem.W.mg_of X G g_SINGLES, PySem.W.mg_of X G g_WITH_ROW, tup_all l_SINGLES v_SINGLES, tup_all l_WITH_ROW v_WITH_ROW⟩
  have e_set_chances : q_set_chances = f_set_chances := Value.ref.inj (Option.some.inj ((PySem.W.mg_of X G q0_set_chances).symm.trans m_set_chances))
  have e_tell_unbeaten : q_tell_unbeaten = f_tell_unbeaten := Value.ref.inj (Option.some.inj ((PySem.W.mg_of X G q0_tell_unbeaten).symm.trans m_tell_unbeaten))
  have e_tell_all : q_tell_all = f_tell_all := Value.ref.inj (Option.some.inj ((PySem.W.mg_of X G q0_tell_all).symm.trans m_tell_all))
  have e_tell_mean : q_tell_mean = f_tell_mean := Value.ref.inj (Option.some.inj ((PySem.W.mg_of X G q0_tell_mean).symm.trans m_tell_mean))
  have e_tell_just_set : q_tell_just_set = f_tell_just_set := Value.ref.inj (Option.some.inj ((PySem.W.mg_of X G q0_tell_just_set).symm.trans m_tell_just_set))
  have e_tell_likely : q_tell_likely = f_tell_likely := Value.ref.inj (Option.some.inj ((PySem.W.mg_of X G q0_tell_likely).symm.trans m_tell_likely))
  have e_tell_top : q_tell_top = f_tell_top := Value.ref.inj (Option.some.inj ((PySem.W.mg_of X G q0_tell_top).symm.trans m_tell_top))
  have e_tell_given : q_tell_given = f_tell_given := Value.ref.inj (Option.some.inj ((PySem.W.mg_of X G q0_tell_given).symm.trans m_tell_given))
  have e_tell_counts : q_tell_counts = f_tell_counts := Value.ref.inj (Option.some.inj ((PySem.W.mg_of X G q0_tell_counts).symm.trans m_tell_counts))
  subst e_set_chances e_tell_unbeaten e_tell_all e_tell_mean e_tell_just_set e_tell_likely e_tell_top e_tell_given e_tell_counts
  have efa := hfa.symm.trans m_answers
  have efb : f_answers = fa := (Value.ref.inj (Option.some.inj efa)).symm
  subst efb
  have bB : ∀ (s : Shared) (us : List Value), us.length = (["calls"] : List Str).length → BindsTo s fd_answers ⟨us, []⟩ ((["calls"] : List Str).zip us) := by
    obtain ⟨oc, od, kV, doc, pm, an, cdv, ct, osl, ef, _⟩ := F_answers.ex
    rw [ef]
    intro s us hu
    match us, hu with
    | [_], _ => exact .of_eq rfl
  refine ⟨fd_answers, [(c_likeliest_first, T_likeliest_first), (c_set_weights, T_set_weights)], ?_, bB, ?_⟩
  · intro p hp
    rcases List.mem_cons.mp hp with rfl | hp
    · exact ⟨hd_likeliest_first, em_likeliest_first⟩
    · rcases List.mem_cons.mp hp with rfl | hp
      · exact ⟨hd_set_weights, em_set_weights⟩
      · cases hp
  · intro base hb1 hb2 htb
    have tb_likeliest_first := htb _ (List.mem_cons_self ..)
    have tb_set_weights := htb _ (List.mem_cons_of_mem _ (List.mem_cons_self ..))
    obtain ⟨TT, hTT⟩ : ∃ TT : List (Addr × Str), TT = [(T_likeliest_first, lamQ "likeliest_first"), (T_set_weights, lamQ "set_weights")] := ⟨_, rfl⟩
    have mT_likeliest_first : (T_likeliest_first, lamQ "likeliest_first") ∈ TT := by rw [hTT]; exact List.mem_cons_self ..
    have mT_set_weights : (T_set_weights, lamQ "set_weights") ∈ TT := by rw [hTT]; exact List.mem_cons_of_mem _ (List.mem_cons_self ..)
    have u_likeliest_first : ∀ p ∈ TT, p.1 = T_likeliest_first → p.2 = lamQ "likeliest_first" := fun p hp e => by
      rw [hTT] at hp
      rcases List.mem_cons.mp hp with rfl | hp
      · rfl
      · rcases List.mem_cons.mp hp with rfl | hp
        · exact (neT e.symm).elim
        · cases hp
    have u_set_weights : ∀ p ∈ TT, p.1 = T_set_weights → p.2 = lamQ "set_weights" := fun p hp e => by
      rw [hTT] at hp
      rcases List.mem_cons.mp hp with rfl | hp
      · exact (neT e).elim
      · rcases List.mem_cons.mp hp with rfl | hp
        · rfl
        · cases hp
    have T_Sign : SignTxt K P w mg a_SIGNS (signs4 t_s1 t_s2 t_s3 t_s4) := sign_txt (PySem.W.mg_of X G g_SIGNS) (wd_of l_SIGNS v_SIGNS na_SIGNS)
    have O_fF : FnOk P w K mg base CX0 1 fF fdF ["self", "code", "place"] (spFault CF) := ok_Fault F_fF T_Fault B
    have O_f_is_letter : FnOk P w K mg base CX0 1 f_is_letter fd_is_letter ["byte"] spLetter := ok_letter F_is_letter
    have Df_is_letter : Df P w K mg base CX0 1 "is_letter" ["byte"] spLetter := ⟨_, _, m_is_letter, O_f_is_letter, F_is_letter.kp, b_fd_is_letter⟩
    have O_f_is_digit : FnOk P w K mg base CX0 1 f_is_digit fd_is_digit ["byte"] spDigit := ok_digit F_is_digit
    have Df_is_digit : Df P w K mg base CX0 1 "is_digit" ["byte"] spDigit := ⟨_, _, m_is_digit, O_f_is_digit, F_is_digit.kp, b_fd_is_digit⟩
    have O_f_behind_remark : FnOk P w K mg base CX0 1 f_behind_remark fd_behind_remark ["text", "place"] (spRemark K) := ok_remark F_behind_remark B ⟨_, PySem.W.mg_of X G g_ROW_END⟩
    have Df_behind_remark : Df P w K mg base CX0 1 "behind_remark" ["text", "place"] (spRemark K) := ⟨_, _, m_behind_remark, O_f_behind_remark, F_behind_remark.kp, b_fd_behind_remark⟩
    have O_f_behind_blanks : FnOk P w K mg base CX0 2 f_behind_blanks fd_behind_blanks ["text", "place"] (spBlanks K) := ok_blanks F_behind_blanks B ⟨_, PySem.W.mg_of X G g_REMARK⟩ ⟨_, PySem.W.mg_of X G g_BLANKS, tup_all l_BLANKS v_BLANKS⟩ Df_behind_remark
    have Df_behind_blanks : Df P w K mg base CX0 2 "behind_blanks" ["text", "place"] (spBlanks K) := ⟨_, _, m_behind_blanks, O_f_behind_blanks, F_behind_blanks.kp, b_fd_behind_blanks⟩
    have O_fT : FnOk P w K mg base CX0 1 fT fdT ["self", "kind", "place", "end", "value"] (spTok CT) := ok_Tok F_fT T_Token
    have O_f_word_kind : FnOk P w K mg base CX0 1 f_word_kind fd_word_kind ["spelling"] (spKind K) := ok_kind F_word_kind B ⟨_, PySem.W.mg_of X G g_WORDS, tup_all l_WORDS v_WORDS⟩
    have Df_word_kind : Df P w K mg base CX0 1 "word_kind" ["spelling"] (spKind K) := ⟨_, _, m_word_kind, O_f_word_kind, F_word_kind.kp, b_fd_word_kind⟩
    have O_f_word_at : FnOk P w K mg base (L2.CX P w) 3 f_word_at fd_word_at ["text", "place"] (spWord K CF CT) := ok_word F_word_at B ⟨_, PySem.W.mg_of X G g_MOST_NAME_BYTES⟩ ⟨_, PySem.W.mg_of X G g_NO_TOKEN⟩ T_Fault O_fF b_fdF T_Token O_fT b_fdT Df_is_letter Df_is_digit Df_word_kind
    have Df_word_at : Df P w K mg base (L2.CX P w) 3 "word_at" ["text", "place"] (spWord K CF CT) := ⟨_, _, m_word_at, O_f_word_at, F_word_at.kp, b_fd_word_at⟩
    have O_f_number_at : FnOk P w K mg base (L2.CX P w) 3 f_number_at fd_number_at ["text", "place"] (spNumber K CF CT) := ok_number F_number_at B ⟨_, PySem.W.mg_of X G g_MOST_DIGITS⟩ ⟨_, PySem.W.mg_of X G g_ZERO⟩ ⟨_, PySem.W.mg_of X G g_MOST_NUMBER⟩ ⟨_, PySem.W.mg_of X G g_NO_TOKEN⟩ T_Fault O_fF b_fdF T_Token O_fT b_fdT Df_is_digit
    have Df_number_at : Df P w K mg base (L2.CX P w) 3 "number_at" ["text", "place"] (spNumber K CF CT) := ⟨_, _, m_number_at, O_f_number_at, F_number_at.kp, b_fd_number_at⟩
    have O_f_token_at : FnOk P w K mg base (L2.CX P w) 4 f_token_at fd_token_at ["text", "place"] (spToken K CF CT) := ok_token_at F_token_at ⟨_, PySem.W.mg_of X G g_NO_TOKEN⟩ T_Sign T_Fault O_fF b_fdF T_Token O_fT b_fdT Df_is_letter Df_is_digit Df_word_at Df_number_at
    have Df_token_at : Df P w K mg base (L2.CX P w) 4 "token_at" ["text", "place"] (spToken K CF CT) := ⟨_, _, m_token_at, O_f_token_at, F_token_at.kp, b_fd_token_at⟩
    have O_f_tokens_of : FnOk P w K mg base (L2.CX P w) 5 f_tokens_of fd_tokens_of ["text"] (spTokens K CF CT) := ok_tokens_of F_tokens_of B T_Token O_fT b_fdT Df_behind_blanks Df_token_at
    have Df_tokens_of : Df P w K mg base (L2.CX P w) 5 "tokens_of" ["text"] (spTokens K CF CT) := ⟨_, _, m_tokens_of, O_f_tokens_of, F_tokens_of.kp, b_fd_tokens_of⟩
    have O_fRI : FnOk P w K mg base CX0 1 fRI fdR ["self", "tokens"] (spRdInit CR) := ok_Reader_init F_fRI T_Reader
    have O_fRS : FnOk P w K mg base CX0 1 fRS fdS ["self", "kind"] (spSees CR CT) := ok_Reader_sees F_fRS T_Reader T_Token
    have O_fRT : FnOk P w K mg base (L2.CX P w) 3 fRT fdK ["self", "kind"] (spTake CF CR CT) := ok_Reader_take F_fRT ⟨_, PySem.W.mg_of X G g_NOT_ALLOWED⟩ T_Reader T_Token T_Fault O_fF b_fdF
    have O_f_read_value : FnOk P w K mg base (L2.CX P w) 4 f_read_value fd_read_value ["reader"] (spValue CF CR CT) := ok_read_value F_read_value ⟨_, PySem.W.mg_of X G g_TOO_GREAT⟩ ⟨_, PySem.W.mg_of X G g_MOST_VALUE⟩ T_Reader T_Token T_Fault O_fF b_fdF O_fRS b_fdS O_fRT b_fdK
    have Df_read_value : Df P w K mg base (L2.CX P w) 4 "read_value" ["reader"] (spValue CF CR CT) := ⟨_, _, m_read_value, O_f_read_value, F_read_value.kp, b_fd_read_value⟩
    have O_f_keep_name : FnOk P w K mg base (L2.CX P w) 3 f_keep_name fd_keep_name ["names", "token"] (spKeep CF CT) := ok_keep_name F_keep_name ⟨_, PySem.W.mg_of X G g_NAME_AGAIN⟩ T_Token T_Fault O_fF b_fdF
    have Df_keep_name : Df P w K mg base (L2.CX P w) 3 "keep_name" ["names", "token"] (spKeep CF CT) := ⟨_, _, m_keep_name, O_f_keep_name, F_keep_name.kp, b_fd_keep_name⟩
    have O_f_read_measure : FnOk P w K mg base (L2.CX P w) 4 f_read_measure fd_read_measure ["reader", "names"] (spMeasure CF CR CT) := ok_read_measure F_read_measure B ⟨_, PySem.W.mg_of X G g_TOO_MANY⟩ ⟨_, PySem.W.mg_of X G g_MOST_MEASURES⟩ T_Reader T_Token T_Fault O_fF b_fdF O_fRS b_fdS O_fRT b_fdK Df_keep_name
    have Df_read_measure : Df P w K mg base (L2.CX P w) 4 "read_measure" ["reader", "names"] (spMeasure CF CR CT) := ⟨_, _, m_read_measure, O_f_read_measure, F_read_measure.kp, b_fd_read_measure⟩
    have O_f_read_measures : FnOk P w K mg base (L2.CX P w) 5 f_read_measures fd_read_measures ["reader"] (spMeasures CF CR CT) := ok_read_measures F_read_measures T_Reader O_fRS b_fdS O_fRT b_fdK Df_read_measure
    have Df_read_measures : Df P w K mg base (L2.CX P w) 5 "read_measures" ["reader"] (spMeasures CF CR CT) := ⟨_, _, m_read_measures, O_f_read_measures, F_read_measures.kp, b_fd_read_measures⟩
    have O_f_read_merits : FnOk P w K mg base (L2.CX P w) 5 f_read_merits fd_read_merits ["reader", "turns"] (spMerits CF CR CT) := ok_read_merits F_read_merits B T_Reader O_fRT b_fdK Df_read_value
    have Df_read_merits : Df P w K mg base (L2.CX P w) 5 "read_merits" ["reader", "turns"] (spMerits CF CR CT) := ⟨_, _, m_read_merits, O_f_read_merits, F_read_merits.kp, b_fd_read_merits⟩
    have O_f_read_items : FnOk P w K mg base (L2.CX P w) 6 f_read_items fd_read_items ["reader", "turns"] (spItems CF CR CT) := ok_read_items F_read_items B ⟨_, PySem.W.mg_of X G g_TOO_MANY⟩ ⟨_, PySem.W.mg_of X G g_MOST_ITEMS⟩ T_Reader T_Token T_Fault O_fF b_fdF O_fRS b_fdS O_fRT b_fdK Df_keep_name Df_read_merits
    have Df_read_items : Df P w K mg base (L2.CX P w) 6 "read_items" ["reader", "turns"] (spItems CF CR CT) := ⟨_, _, m_read_items, O_f_read_items, F_read_items.kp, b_fd_read_items⟩
    have O_fD : FnOk P w K mg base CX0 1 fD fdD ["self", "measures", "merits"] (spTold CD) := ok_Told_init F_fD T_Told
    have O_f_read_list : FnOk P w K mg base (L2.CX P w) 7 f_read_list fd_read_list ["text"] (spReadList K CF CD) := ok_read_list F_read_list B ⟨_, PySem.W.mg_of X G g_TOO_LONG⟩ ⟨_, PySem.W.mg_of X G g_MOST_BYTES⟩ T_Reader T_Told O_fD b_fdD O_fRI b_fdR T_Fault O_fF b_fdF O_fRT b_fdK Df_tokens_of Df_read_measures Df_read_items
    have Df_read_list : Df P w K mg base (L2.CX P w) 7 "read_list" ["text"] (spReadList K CF CD) := ⟨_, _, m_read_list, O_f_read_list, F_read_list.kp, b_fd_read_list⟩
    have O_f_beats : FnOk P w K mg base CX0 1 f_beats fd_beats ["one", "other"] (spBeats K) := ok_beats F_beats B
    have Df_beats : Df P w K mg base CX0 1 "beats" ["one", "other"] (spBeats K) := ⟨_, _, m_beats, O_f_beats, F_beats.kp, b_fd_beats⟩
    have O_f_beaters_of : FnOk P w K mg base CX0 2 f_beaters_of fd_beaters_of ["merits", "item"] (spBeatersOf K) := ok_beaters_of F_beaters_of B Df_beats
    have Df_beaters_of : Df P w K mg base CX0 2 "beaters_of" ["merits", "item"] (spBeatersOf K) := ⟨_, _, m_beaters_of, O_f_beaters_of, F_beaters_of.kp, b_fd_beaters_of⟩
    have O_f_all_beaters : FnOk P w K mg base CX0 3 f_all_beaters fd_all_beaters ["merits"] spAllBeaters := ok_all_beaters F_all_beaters Df_beaters_of
    have Df_all_beaters : Df P w K mg base CX0 3 "all_beaters" ["merits"] spAllBeaters := ⟨_, _, m_all_beaters, O_f_all_beaters, F_all_beaters.kp, b_fd_all_beaters⟩
    have O_f_common_divisor : FnOk P w K mg base CX0 1 f_common_divisor fd_common_divisor ["first", "second"] spGcd := ok_common_divisor F_common_divisor
    have Df_common_divisor : Df P w K mg base CX0 1 "common_divisor" ["first", "second"] spGcd := ⟨_, _, m_common_divisor, O_f_common_divisor, F_common_divisor.kp, b_fd_common_divisor⟩
    have O_f_lowest : FnOk P w K mg base CX0 2 f_lowest fd_lowest ["above", "below"] spLowest := ok_lowest F_lowest Df_common_divisor
    have Df_lowest : Df P w K mg base CX0 2 "lowest" ["above", "below"] spLowest := ⟨_, _, m_lowest, O_f_lowest, F_lowest.kp, b_fd_lowest⟩
    have O_fH : FnOk P w K mg base CX0 1 fH fdH ["self", "beaters", "q", "numerators"] (spHeld CH) := ok_Held_init F_fH T_Held
    have O_f_sure_ones : FnOk P w K mg base CX0 3 f_sure_ones fd_sure_ones ["beaters"] (spSure CH) := ok_sure_ones F_sure_ones T_Held O_fH b_fdH
    have Df_sure_ones : Df P w K mg base CX0 3 "sure_ones" ["beaters"] (spSure CH) := ⟨_, _, m_sure_ones, O_f_sure_ones, F_sure_ones.kp, b_fd_sure_ones⟩
    have O_f_with_numerator : FnOk P w K mg base CX0 3 f_with_numerator fd_with_numerator ["held", "item", "numerator"] (spWith CH) := ok_with_numerator F_with_numerator B T_Held O_fH b_fdH
    have Df_with_numerator : Df P w K mg base CX0 3 "with_numerator" ["held", "item", "numerator"] (spWith CH) := ⟨_, _, m_with_numerator, O_f_with_numerator, F_with_numerator.kp, b_fd_with_numerator⟩
    have O_f_item_count : FnOk P w K mg base CX0 1 f_item_count fd_item_count ["held"] (spCount CH) := ok_item_count F_item_count B T_Held
    have Df_item_count : Df P w K mg base CX0 1 "item_count" ["held"] (spCount CH) := ⟨_, _, m_item_count, O_f_item_count, F_item_count.kp, b_fd_item_count⟩
    have O_f_chance_of : FnOk P w K mg base CX0 3 f_chance_of fd_chance_of ["held", "weight"] (spChanceOf CH) := ok_chance_of F_chance_of T_Held Df_lowest
    have Df_chance_of : Df P w K mg base CX0 3 "chance_of" ["held", "weight"] (spChanceOf CH) := ⟨_, _, m_chance_of, O_f_chance_of, F_chance_of.kp, b_fd_chance_of⟩
    have O_f_worlds_weight : FnOk P w K mg base CX0 1 f_worlds_weight fd_worlds_weight ["held", "there", "away"] (spWW K CH) := ok_worlds_weight F_worlds_weight B T_Held
    have Df_worlds_weight : Df P w K mg base CX0 1 "worlds_weight" ["held", "there", "away"] (spWW K CH) := ⟨_, _, m_worlds_weight, O_f_worlds_weight, F_worlds_weight.kp, b_fd_worlds_weight⟩
    have O_f_unbeaten_weight : FnOk P w K mg base CX0 2 f_unbeaten_weight fd_unbeaten_weight ["held", "item"] (spUW CH) := ok_unbeaten_weight F_unbeaten_weight T_Held Df_worlds_weight
    have Df_unbeaten_weight : Df P w K mg base CX0 2 "unbeaten_weight" ["held", "item"] (spUW CH) := ⟨_, _, m_unbeaten_weight, O_f_unbeaten_weight, F_unbeaten_weight.kp, b_fd_unbeaten_weight⟩
    have O_f_unbeaten_weights : FnOk P w K mg base CX0 3 f_unbeaten_weights fd_unbeaten_weights ["held"] (spUWs CH) := ok_unbeaten_weights F_unbeaten_weights B Df_item_count Df_unbeaten_weight
    have Df_unbeaten_weights : Df P w K mg base CX0 3 "unbeaten_weights" ["held"] (spUWs CH) := ⟨_, _, m_unbeaten_weights, O_f_unbeaten_weights, F_unbeaten_weights.kp, b_fd_unbeaten_weights⟩
    have O_f_unbeaten_chance : FnOk P w K mg base CX0 4 f_unbeaten_chance fd_unbeaten_chance ["held", "item"] (spChance CH) := ok_unbeaten_chance F_unbeaten_chance Df_unbeaten_weight Df_chance_of
    have Df_unbeaten_chance : Df P w K mg base CX0 4 "unbeaten_chance" ["held", "item"] (spChance CH) := ⟨_, _, m_unbeaten_chance, O_f_unbeaten_chance, F_unbeaten_chance.kp, b_fd_unbeaten_chance⟩
    have O_f_all_chances : FnOk P w K mg base CX0 4 f_all_chances fd_all_chances ["held"] (spChances CH) := ok_all_chances F_all_chances Df_unbeaten_weights Df_chance_of
    have Df_all_chances : Df P w K mg base CX0 4 "all_chances" ["held"] (spChances CH) := ⟨_, _, m_all_chances, O_f_all_chances, F_all_chances.kp, b_fd_all_chances⟩
    have O_f_mean_unbeaten : FnOk P w K mg base CX0 4 f_mean_unbeaten fd_mean_unbeaten ["held"] (spMean CH) := ok_mean_unbeaten F_mean_unbeaten B Df_unbeaten_weights Df_chance_of
    have Df_mean_unbeaten : Df P w K mg base CX0 4 "mean_unbeaten" ["held"] (spMean CH) := ⟨_, _, m_mean_unbeaten, O_f_mean_unbeaten, F_mean_unbeaten.kp, b_fd_mean_unbeaten⟩
    have O_f_likeliest_first : FnOk P w K mg base CX0 8 f_likeliest_first fd_likeliest_first ["held"] (spFirst TT CH) := ok_likeliest_first F_likeliest_first cd_likeliest_first tb_likeliest_first mT_likeliest_first u_likeliest_first B Df_unbeaten_weights
    have Df_likeliest_first : Df P w K mg base CX0 8 "likeliest_first" ["held"] (spFirst TT CH) := ⟨_, _, m_likeliest_first, O_f_likeliest_first, F_likeliest_first.kp, b_fd_likeliest_first⟩
    have O_f_is_beaten : FnOk P w K mg base CX0 1 f_is_beaten fd_is_beaten ["held", "item", "items"] (spIsB K CH) := ok_is_beaten F_is_beaten B T_Held
    have Df_is_beaten : Df P w K mg base CX0 1 "is_beaten" ["held", "item", "items"] (spIsB K CH) := ⟨_, _, m_is_beaten, O_f_is_beaten, F_is_beaten.kp, b_fd_is_beaten⟩
    have O_f_just_set_chance : FnOk P w K mg base CX0 4 f_just_set_chance fd_just_set_chance ["held", "items"] (spJust K CH) := ok_just_set_chance F_just_set_chance B Df_is_beaten Df_chance_of Df_item_count Df_worlds_weight
    have Df_just_set_chance : Df P w K mg base CX0 4 "just_set_chance" ["held", "items"] (spJust K CH) := ⟨_, _, m_just_set_chance, O_f_just_set_chance, F_just_set_chance.kp, b_fd_just_set_chance⟩
    have O_f_bit_of : FnOk P w K mg base CX0 2 f_bit_of fd_bit_of ["held", "item"] (spBit CH) := ok_bit_of F_bit_of Df_item_count
    have Df_bit_of : Df P w K mg base CX0 2 "bit_of" ["held", "item"] (spBit CH) := ⟨_, _, m_bit_of, O_f_bit_of, F_bit_of.kp, b_fd_bit_of⟩
    have O_f_bits_of : FnOk P w K mg base CX0 3 f_bits_of fd_bits_of ["held", "items"] (spBits K CH) := ok_bits_of F_bits_of B Df_bit_of
    have Df_bits_of : Df P w K mg base CX0 3 "bits_of" ["held", "items"] (spBits K CH) := ⟨_, _, m_bits_of, O_f_bits_of, F_bits_of.kp, b_fd_bits_of⟩
    have O_f_items_of : FnOk P w K mg base CX0 3 f_items_of fd_items_of ["held", "bits"] (spItemsOf CH) := ok_items_of F_items_of B Df_bit_of Df_item_count
    have Df_items_of : Df P w K mg base CX0 3 "items_of" ["held", "bits"] (spItemsOf CH) := ⟨_, _, m_items_of, O_f_items_of, F_items_of.kp, b_fd_items_of⟩
    have O_f_joined_by : FnOk P w K mg base CX0 4 f_joined_by fd_joined_by ["held", "weights", "item"] (spJoin CH) := ok_joined_by F_joined_by B T_Held Df_bit_of Df_bits_of
    have Df_joined_by : Df P w K mg base CX0 4 "joined_by" ["held", "weights", "item"] (spJoin CH) := ⟨_, _, m_joined_by, O_f_joined_by, F_joined_by.kp, b_fd_joined_by⟩
    have O_f_set_weights : FnOk P w K mg base CX0 8 f_set_weights fd_set_weights ["held"] (spTable TT CH) := ok_set_weights F_set_weights cd_set_weights tb_set_weights mT_set_weights u_set_weights B T_Held Df_item_count Df_joined_by
    have Df_set_weights : Df P w K mg base CX0 8 "set_weights" ["held"] (spTable TT CH) := ⟨_, _, m_set_weights, O_f_set_weights, F_set_weights.kp, b_fd_set_weights⟩
    have O_f_likeliest_set : FnOk P w K mg base CX0 9 f_likeliest_set fd_likeliest_set ["held"] (spLikeSet TT CH) := ok_likeliest_set F_likeliest_set B Df_set_weights Df_items_of
    have Df_likeliest_set : Df P w K mg base CX0 9 "likeliest_set" ["held"] (spLikeSet TT CH) := ⟨_, _, m_likeliest_set, O_f_likeliest_set, F_likeliest_set.kp, b_fd_likeliest_set⟩
    have O_f_count_chances : FnOk P w K mg base CX0 9 f_count_chances fd_count_chances ["held"] (spCounts TT CH) := ok_count_chances F_count_chances B Df_set_weights Df_items_of Df_item_count Df_chance_of
    have Df_count_chances : Df P w K mg base CX0 9 "count_chances" ["held"] (spCounts TT CH) := ⟨_, _, m_count_chances, O_f_count_chances, F_count_chances.kp, b_fd_count_chances⟩
    have O_f_is_item : FnOk P w K mg base CX0 2 f_is_item fd_is_item ["held", "number"] (spIsItem CH) := ok_is_item F_is_item Df_item_count
    have Df_is_item : Df P w K mg base CX0 2 "is_item" ["held", "number"] (spIsItem CH) := ⟨_, _, m_is_item, O_f_is_item, F_is_item.kp, b_fd_is_item⟩
    have O_f_tell_unbeaten : FnOk P w K mg base CX0 20 q_tell_unbeaten fd_tell_unbeaten ["held", "call"] (spTell TT CH CC 2) := ok_tell_unbeaten F_tell_unbeaten T_Call Df_is_item Df_unbeaten_chance
    have Df_tell_unbeaten : Df P w K mg base CX0 20 "tell_unbeaten" ["held", "call"] (spTell TT CH CC 2) := ⟨_, _, m_tell_unbeaten, O_f_tell_unbeaten, F_tell_unbeaten.kp, b_fd_tell_unbeaten⟩
    have O_f_counted : FnOk P w K mg base CX0 1 f_counted fd_counted ["chances"] spCounted := ok_counted F_counted B
    have Df_counted : Df P w K mg base CX0 1 "counted" ["chances"] spCounted := ⟨_, _, m_counted, O_f_counted, F_counted.kp, b_fd_counted⟩
    have O_f_tell_all : FnOk P w K mg base CX0 20 q_tell_all fd_tell_all ["held", "call"] (spTell TT CH CC 3) := ok_tell_all F_tell_all Df_counted Df_all_chances
    have Df_tell_all : Df P w K mg base CX0 20 "tell_all" ["held", "call"] (spTell TT CH CC 3) := ⟨_, _, m_tell_all, O_f_tell_all, F_tell_all.kp, b_fd_tell_all⟩
    have O_f_tell_mean : FnOk P w K mg base CX0 20 q_tell_mean fd_tell_mean ["held", "call"] (spTell TT CH CC 4) := ok_tell_mean F_tell_mean Df_mean_unbeaten
    have Df_tell_mean : Df P w K mg base CX0 20 "tell_mean" ["held", "call"] (spTell TT CH CC 4) := ⟨_, _, m_tell_mean, O_f_tell_mean, F_tell_mean.kp, b_fd_tell_mean⟩
    have O_f_tell_counts : FnOk P w K mg base CX0 20 q_tell_counts fd_tell_counts ["held", "call"] (spTell TT CH CC 9) := ok_tell_counts F_tell_counts ⟨_, PySem.W.mg_of X G g_MOST_FOR_SETS⟩ Df_counted Df_item_count Df_count_chances
    have Df_tell_counts : Df P w K mg base CX0 20 "tell_counts" ["held", "call"] (spTell TT CH CC 9) := ⟨_, _, m_tell_counts, O_f_tell_counts, F_tell_counts.kp, b_fd_tell_counts⟩
    have O_f_tell_top : FnOk P w K mg base CX0 20 q_tell_top fd_tell_top ["held", "call"] (spTell TT CH CC 7) := ok_tell_top F_tell_top B ⟨_, PySem.W.mg_of X G g_MOST_TOP⟩ T_Call Df_likeliest_first
    have Df_tell_top : Df P w K mg base CX0 20 "tell_top" ["held", "call"] (spTell TT CH CC 7) := ⟨_, _, m_tell_top, O_f_tell_top, F_tell_top.kp, b_fd_tell_top⟩
    have O_f_tell_likely : FnOk P w K mg base CX0 20 q_tell_likely fd_tell_likely ["held", "call"] (spTell TT CH CC 6) := ok_tell_likely F_tell_likely B ⟨_, PySem.W.mg_of X G g_MOST_FOR_SETS⟩ Df_item_count Df_likeliest_set Df_just_set_chance
    have Df_tell_likely : Df P w K mg base CX0 20 "tell_likely" ["held", "call"] (spTell TT CH CC 6) := ⟨_, _, m_tell_likely, O_f_tell_likely, F_tell_likely.kp, b_fd_tell_likely⟩
    have O_f_tell_just_set : FnOk P w K mg base CX0 20 q_tell_just_set fd_tell_just_set ["held", "call"] (spTell TT CH CC 5) := ok_tell_just_set F_tell_just_set B T_Call Df_is_item Df_just_set_chance
    have Df_tell_just_set : Df P w K mg base CX0 20 "tell_just_set" ["held", "call"] (spTell TT CH CC 5) := ⟨_, _, m_tell_just_set, O_f_tell_just_set, F_tell_just_set.kp, b_fd_tell_just_set⟩
    have O_f_tell_given : FnOk P w K mg base CX0 20 q_tell_given fd_tell_given ["held", "call"] (spTell TT CH CC 8) := ok_tell_given F_tell_given T_Held T_Call Df_is_item Df_with_numerator Df_unbeaten_chance
    have Df_tell_given : Df P w K mg base CX0 20 "tell_given" ["held", "call"] (spTell TT CH CC 8) := ⟨_, _, m_tell_given, O_f_tell_given, F_tell_given.kp, b_fd_tell_given⟩
    have O_f_are_chances : FnOk P w K mg base CX0 2 f_are_chances fd_are_chances ["held", "q", "numerators"] (spAre CH) := ok_are_chances F_are_chances B ⟨_, PySem.W.mg_of X G g_MOST_Q⟩ Df_item_count
    have Df_are_chances : Df P w K mg base CX0 2 "are_chances" ["held", "q", "numerators"] (spAre CH) := ⟨_, _, m_are_chances, O_f_are_chances, F_are_chances.kp, b_fd_are_chances⟩
    have O_f_set_chances : FnOk P w K mg base CX0 20 q_set_chances fd_set_chances ["held", "call"] (spTell TT CH CC 1) := ok_set_chances F_set_chances B T_Held T_Call Df_are_chances
    have Df_set_chances : Df P w K mg base CX0 20 "set_chances" ["held", "call"] (spTell TT CH CC 1) := ⟨_, _, m_set_chances, O_f_set_chances, F_set_chances.kp, b_fd_set_chances⟩
    have hcal : ∀ n : Nat, 1 ≤ n → n ≤ 9 → ∃ f, valueAt (tells9 q_set_chances q_tell_unbeaten q_tell_all q_tell_mean q_tell_just_set q_tell_likely q_tell_top q_tell_given q_tell_counts) (.inl (n : Int)) = some (.ref f) ∧ KeyL.Cal P w K mg base 20 f (spTell TT CH CC (n : Int)) := fun n n1 n9 => by
      have : n = 1 ∨ n = 2 ∨ n = 3 ∨ n = 4 ∨ n = 5 ∨ n = 6 ∨ n = 7 ∨ n = 8 ∨ n = 9 := by omega
      rcases this with rfl | rfl | rfl | rfl | rfl | rfl | rfl | rfl | rfl
      · exact ⟨_, rfl, _, _, O_f_set_chances, F_set_chances.kp, b_fd_set_chances⟩
      · exact ⟨_, rfl, _, _, O_f_tell_unbeaten, F_tell_unbeaten.kp, b_fd_tell_unbeaten⟩
      · exact ⟨_, rfl, _, _, O_f_tell_all, F_tell_all.kp, b_fd_tell_all⟩
      · exact ⟨_, rfl, _, _, O_f_tell_mean, F_tell_mean.kp, b_fd_tell_mean⟩
      · exact ⟨_, rfl, _, _, O_f_tell_just_set, F_tell_just_set.kp, b_fd_tell_just_set⟩
      · exact ⟨_, rfl, _, _, O_f_tell_likely, F_tell_likely.kp, b_fd_tell_likely⟩
      · exact ⟨_, rfl, _, _, O_f_tell_top, F_tell_top.kp, b_fd_tell_top⟩
      · exact ⟨_, rfl, _, _, O_f_tell_given, F_tell_given.kp, b_fd_tell_given⟩
      · exact ⟨_, rfl, _, _, O_f_tell_counts, F_tell_counts.kp, b_fd_tell_counts⟩
    have wdT : WD K P w a_TELLING (tells9 q_set_chances q_tell_unbeaten q_tell_all q_tell_mean q_tell_just_set q_tell_likely q_tell_top q_tell_given q_tell_counts) := wd_of l_TELLING v_TELLING na_TELLING
    have O_f_tell : FnOk P w K mg base CX0 22 f_tell fd_tell ["held", "call"] (spTellA TT CH CC) := ok_tell F_tell T_Call (PySem.W.mg_of X G g_TELLING) wdT hcal
    have Df_tell : Df P w K mg base CX0 22 "tell" ["held", "call"] (spTellA TT CH CC) := ⟨_, _, m_tell, O_f_tell, F_tell.kp, b_fd_tell⟩
    have O_fC : FnOk P w K mg base CX0 1 fC fdC ["self", "number", "singles", "row", "end"] (spCallI CC) := ok_Call_init F_fC T_Call
    have O_fK : FnOk P w K mg base CX0 1 fK fdDK ["self"] (spDeskI CK) := ok_Desk_init F_fK T_Desk
    have O_f_call_at : FnOk P w K mg base CX0 3 f_call_at fd_call_at ["calls", "place"] (spCallAt K CC) := ok_call_at F_call_at T_Call T_Tup O_fC b_fdC
    have Df_call_at : Df P w K mg base CX0 3 "call_at" ["calls", "place"] (spCallAt K CC) := ⟨_, _, m_call_at, O_f_call_at, F_call_at.kp, b_fd_call_at⟩
    have O_f_load : FnOk P w K mg base CX0 10 f_load fd_load ["desk", "text"] (spLoad TT CK CH) := ok_load F_load B T_Fault T_Told T_Desk Df_read_list Df_all_beaters Df_sure_ones
    have Df_load : Df P w K mg base CX0 10 "load" ["desk", "text"] (spLoad TT CK CH) := ⟨_, _, m_load, O_f_load, F_load.kp, b_fd_load⟩
    have O_f_answer : FnOk P w K mg base CX0 24 f_answer fd_answer ["desk", "call"] (spAnswer TT CK CH CC) := ok_answer F_answer ⟨_, PySem.W.mg_of X G g_LOAD⟩ T_Call T_Desk Df_load Df_tell
    have Df_answer : Df P w K mg base CX0 24 "answer" ["desk", "call"] (spAnswer TT CK CH CC) := ⟨_, _, m_answer, O_f_answer, F_answer.kp, b_fd_answer⟩
    have O_f_answers : FnOk P w K mg base CX0 26 f_answers fd_answers ["calls"] (spAnswers K TT) := ok_answers F_answers B T_Call T_Desk O_fK b_fdDK Df_call_at Df_answer
    have Df_answers : Df P w K mg base CX0 26 "answers" ["calls"] (spAnswers K TT) := ⟨_, _, m_answers, O_f_answers, F_answers.kp, b_fd_answers⟩
    show FnOk P w K mg base CX0 26 _ _ _ (spAnswers K [(T_likeliest_first, lamQ "likeliest_first"), (T_set_weights, lamQ "set_weights")])
    rw [← hTT]
    exact O_f_answers
end Off
end
section
set_option Elab.async false
set_option linter.all false
set_option maxRecDepth 100000
set_option maxHeartbeats 8000000
namespace Off
open PySem PySem.Spec PyProof.Rows L2 LamX NdefX
open PySem.W (WData Codec OpenSpec)
theorem tabs_nil {cs : List (Addr × Addr)} {H : Hp} {T : List (Addr × Str)} (h : ∀ p ∈ T, H p.1 = some (.tbl #[])) : Tabs T H := fun p hp => TabS.nil (h p hp)
theorem sp_end {cs : List (Addr × Addr)} {K : PySem.W.Frag} {H : Hp} {xs : List V} {l : List Int} (ht : ∀ p ∈ cs, H p.2 = some (.tbl #[])) (hask : PyVaskye.answers_asked l = true) (hx : ∃ a, xs = [.ref a] ∧ SqL K H a (l.map V.int)) {Q : VK}
    (hQ : ∀ p H', H' p = some (.lst ((PyVaskye.answers l).map V.int)) → Q (.ref p) H') {E : XK} : spOf cs K xs H Q E := by
  match cs, ht with
  | [], _ => trivial
  | [_], _ => trivial
  | _ :: _ :: _ :: _, _ => trivial
  | [p1, p2], ht =>
    obtain ⟨a, rfl, ha⟩ := hx
    obtain ⟨calls, e1, e2, e3, e4⟩ := asked_calls hask
    refine ⟨a, l, calls, rfl, ha, fun p hp => ?_, e1, e2, e3, fun p H' h => hQ p H' (by rw [e4]; exact h)⟩
    rcases List.mem_cons.mp hp with rfl | hp
    · exact TabS.nil (ht p1 (List.mem_cons_self ..))
    · rcases List.mem_cons.mp hp with rfl | hp
      · exact TabS.nil (ht p2 (List.mem_cons_of_mem _ (List.mem_cons_self ..)))
      · cases hp
end Off
end
set_option Elab.async false
set_option linter.all false
open PySem PySem.W PyProof.Rows
set_option maxRecDepth 100000 in
set_option maxHeartbeats 0 in
theorem PySem.Challenge.cw_offerodds_s01_answers_holds : PySem.Challenge.rw_offerodds_s01_answers.Holds := by
  w_on; k_headS; (case hw => exact ⟨[.list [.int 3]], by decide +kernel, by decide +kernel⟩)
  k_fillS
  refine KeyL.walk_specT (r := PySem.Challenge.rw_offerodds_s01_answers) (k := 26) (CX := L2.CX0) (ps := ["calls"]) (sp := Off.spOf) (by decide +kernel) rfl ⟨rfl, by decide, by decide⟩ (fun w h Y => PySem.W.kIn_of Y) ?mt ?F ?S (fun _ _ _ _ z => z)
  case mt =>
    intro Pm
    kernel_rfl
  case F =>
    intro w mg fa h Y KX G hmg TF
    refine' Off.all_end KX G hmg TF ?z_len ?z_zip ?z_enumerate ?z_range ?z_tuple ?z_list ?z_all ?z_ord ?z_Exception ?z_any ?z_sum ?z_max ?z_set ?z_sorted ?fa_ ?c_Token ?n_Token_kind ?n_Token_place ?n_Token_end ?n_Token_value ?c_Reader ?n_Reader_tokens ?n_Reader_at ?c_Told ?n_Told_measures ?n_Told_merits ?c_Held ?n_Held_beaters ?n_Held_q ?n_Held_numerators ?c_Call ?n_Call_number ?n_Call_singles ?n_Call_row ?n_Call_end ?c_Desk ?n_Desk_held ?M_Fault_init ?M_Token_init ?M_Reader_init ?M_Reader_sees ?M_Reader_take ?M_Told_init ?M_Held_init ?M_Call_init ?M_Desk_init ?D_is_letter ?D_is_digit ?D_behind_remark ?D_behind_blanks ?D_word_kind ?D_word_at ?D_number_at ?D_token_at ?D_tokens_of ?D_read_value ?D_keep_name ?D_read_measure ?D_read_measures ?D_read_merits ?D_read_items ?D_read_list ?D_beats ?D_beaters_of ?D_all_beaters ?D_common_divisor ?D_lowest ?D_sure_ones ?D_with_numerator ?D_item_count ?D_chance_of ?D_worlds_weight ?D_unbeaten_weight ?D_unbeaten_weights ?D_unbeaten_chance ?D_all_chances ?D_mean_unbeaten ?D_likeliest_first ?D_is_beaten ?D_just_set_chance ?D_bit_of ?D_bits_of ?D_items_of ?D_joined_by ?D_set_weights ?D_likeliest_set ?D_count_chances ?D_is_item ?D_tell_unbeaten ?D_counted ?D_tell_all ?D_tell_mean ?D_tell_counts ?D_tell_top ?D_tell_likely ?D_tell_just_set ?D_tell_given ?D_are_chances ?D_set_chances ?D_tell ?D_call_at ?D_load ?D_answer ?D_answers ?g_ROW_END ?g_REMARK ?g_MOST_NAME_BYTES ?g_NO_TOKEN ?g_MOST_DIGITS ?g_ZERO ?g_MOST_NUMBER ?g_NOT_ALLOWED ?g_TOO_GREAT ?g_MOST_VALUE ?g_NAME_AGAIN ?g_TOO_MANY ?g_MOST_MEASURES ?g_MOST_ITEMS ?g_TOO_LONG ?g_MOST_BYTES ?g_MOST_FOR_SETS ?g_MOST_TOP ?g_MOST_Q ?g_LOAD ?g_BLANKS ?l_BLANKS ?v_BLANKS ?g_WORDS ?l_WORDS ?v_WORDS ?g_SINGLES ?l_SINGLES ?v_SINGLES ?g_WITH_ROW ?l_WITH_ROW ?v_WITH_ROW ?q0_set_chances ?q0_tell_unbeaten ?q0_tell_all ?q0_tell_mean ?q0_tell_just_set ?q0_tell_likely ?q0_tell_top ?q0_tell_given ?q0_tell_counts ?g_SIGNS ?l_SIGNS ?v_SIGNS ?na_SIGNS ?g_TELLING ?l_TELLING ?v_TELLING ?na_TELLING ?rec_likeliest_first ?rec_set_weights ?neT
    (case z_len => k_is)
    (case z_zip => k_is)
    (case z_enumerate => k_is)
    (case z_range => k_is)
    (case z_tuple => k_is)
    (case z_list => k_is)
    (case z_all => k_is)
    (case z_ord => k_is)
    (case z_Exception => k_is)
    (case z_any => k_is)
    (case z_sum => k_is)
    (case z_max => k_is)
    (case z_set => k_is)
    (case z_sorted => k_is)
    (case fa_ => (refine' Off.fault_in ?a ?cls ?sa ?exC ?tyC ?kC ?vE ?nC ?nP ?ga ?gg ?hdC ?iC ?sC; (case a => k_is); (case cls => k_is); (case sa => k_is); (case exC => k_is); (case tyC => k_is); (case kC => k_is); (case vE => k_is); (case nC => k_is); (case nP => k_is); (case ga => k_is); (case gg => k_is); (case hdC => k_is); (case iC => k_is); (case sC => first | rfl | k_is)))
    (case c_Token => (refine' Off.ClsIn.mk ?a ?pg ?hd ?po ?sa ?mk1 ?kc; (case a => k_is); (case pg => k_is); (case hd => k_is); (case po => k_is); (case sa => k_is); (case mk1 => k_is); (case kc => k_is)))
    (case n_Token_kind => k_is)
    (case n_Token_place => k_is)
    (case n_Token_end => k_is)
    (case n_Token_value => k_is)
    (case c_Reader => (refine' Off.ClsIn.mk ?a ?pg ?hd ?po ?sa ?mk1 ?kc; (case a => k_is); (case pg => k_is); (case hd => k_is); (case po => k_is); (case sa => k_is); (case mk1 => k_is); (case kc => k_is)))
    (case n_Reader_tokens => k_is)
    (case n_Reader_at => k_is)
    (case c_Told => (refine' Off.ClsIn.mk ?a ?pg ?hd ?po ?sa ?mk1 ?kc; (case a => k_is); (case pg => k_is); (case hd => k_is); (case po => k_is); (case sa => k_is); (case mk1 => k_is); (case kc => k_is)))
    (case n_Told_measures => k_is)
    (case n_Told_merits => k_is)
    (case c_Held => (refine' Off.ClsIn.mk ?a ?pg ?hd ?po ?sa ?mk1 ?kc; (case a => k_is); (case pg => k_is); (case hd => k_is); (case po => k_is); (case sa => k_is); (case mk1 => k_is); (case kc => k_is)))
    (case n_Held_beaters => k_is)
    (case n_Held_q => k_is)
    (case n_Held_numerators => k_is)
    (case c_Call => (refine' Off.ClsIn.mk ?a ?pg ?hd ?po ?sa ?mk1 ?kc; (case a => k_is); (case pg => k_is); (case hd => k_is); (case po => k_is); (case sa => k_is); (case mk1 => k_is); (case kc => k_is)))
    (case n_Call_number => k_is)
    (case n_Call_singles => k_is)
    (case n_Call_row => k_is)
    (case n_Call_end => k_is)
    (case c_Desk => (refine' Off.ClsIn.mk ?a ?pg ?hd ?po ?sa ?mk1 ?kc; (case a => k_is); (case pg => k_is); (case hd => k_is); (case po => k_is); (case sa => k_is); (case mk1 => k_is); (case kc => k_is)))
    (case n_Desk_held => k_is)
    (case M_Fault_init => (refine' Off.meth_in ?a ?i ?l ?c ?k; (case a => k_is); (case i => k_is); (case l => k_is); (case c => k_is); (case k => k_is)))
    (case M_Token_init => (refine' Off.meth_in ?a ?i ?l ?c ?k; (case a => k_is); (case i => k_is); (case l => k_is); (case c => k_is); (case k => k_is)))
    (case M_Reader_init => (refine' Off.meth_in ?a ?i ?l ?c ?k; (case a => k_is); (case i => k_is); (case l => k_is); (case c => k_is); (case k => k_is)))
    (case M_Reader_sees => (refine' Off.meth_in ?a ?i ?l ?c ?k; (case a => k_is); (case i => k_is); (case l => k_is); (case c => k_is); (case k => k_is)))
    (case M_Reader_take => (refine' Off.meth_in ?a ?i ?l ?c ?k; (case a => k_is); (case i => k_is); (case l => k_is); (case c => k_is); (case k => k_is)))
    (case M_Told_init => (refine' Off.meth_in ?a ?i ?l ?c ?k; (case a => k_is); (case i => k_is); (case l => k_is); (case c => k_is); (case k => k_is)))
    (case M_Held_init => (refine' Off.meth_in ?a ?i ?l ?c ?k; (case a => k_is); (case i => k_is); (case l => k_is); (case c => k_is); (case k => k_is)))
    (case M_Call_init => (refine' Off.meth_in ?a ?i ?l ?c ?k; (case a => k_is); (case i => k_is); (case l => k_is); (case c => k_is); (case k => k_is)))
    (case M_Desk_init => (refine' Off.meth_in ?a ?i ?l ?c ?k; (case a => k_is); (case i => k_is); (case l => k_is); (case c => k_is); (case k => k_is)))
    (case D_is_letter => (refine' Off.def_in ?a ?l ?c ?k; (case a => k_is); (case l => k_is); (case c => k_is); (case k => k_is)))
    (case D_is_digit => (refine' Off.def_in ?a ?l ?c ?k; (case a => k_is); (case l => k_is); (case c => k_is); (case k => k_is)))
    (case D_behind_remark => (refine' Off.def_in ?a ?l ?c ?k; (case a => k_is); (case l => k_is); (case c => k_is); (case k => k_is)))
    (case D_behind_blanks => (refine' Off.def_in ?a ?l ?c ?k; (case a => k_is); (case l => k_is); (case c => k_is); (case k => k_is)))
    (case D_word_kind => (refine' Off.def_in ?a ?l ?c ?k; (case a => k_is); (case l => k_is); (case c => k_is); (case k => k_is)))
    (case D_word_at => (refine' Off.def_in ?a ?l ?c ?k; (case a => k_is); (case l => k_is); (case c => k_is); (case k => k_is)))
    (case D_number_at => (refine' Off.def_in ?a ?l ?c ?k; (case a => k_is); (case l => k_is); (case c => k_is); (case k => k_is)))
    (case D_token_at => (refine' Off.def_in ?a ?l ?c ?k; (case a => k_is); (case l => k_is); (case c => k_is); (case k => k_is)))
    (case D_tokens_of => (refine' Off.def_in ?a ?l ?c ?k; (case a => k_is); (case l => k_is); (case c => k_is); (case k => k_is)))
    (case D_read_value => (refine' Off.def_in ?a ?l ?c ?k; (case a => k_is); (case l => k_is); (case c => k_is); (case k => k_is)))
    (case D_keep_name => (refine' Off.def_in ?a ?l ?c ?k; (case a => k_is); (case l => k_is); (case c => k_is); (case k => k_is)))
    (case D_read_measure => (refine' Off.def_in ?a ?l ?c ?k; (case a => k_is); (case l => k_is); (case c => k_is); (case k => k_is)))
    (case D_read_measures => (refine' Off.def_in ?a ?l ?c ?k; (case a => k_is); (case l => k_is); (case c => k_is); (case k => k_is)))
    (case D_read_merits => (refine' Off.def_in ?a ?l ?c ?k; (case a => k_is); (case l => k_is); (case c => k_is); (case k => k_is)))
    (case D_read_items => (refine' Off.def_in ?a ?l ?c ?k; (case a => k_is); (case l => k_is); (case c => k_is); (case k => k_is)))
    (case D_read_list => (refine' Off.def_in ?a ?l ?c ?k; (case a => k_is); (case l => k_is); (case c => k_is); (case k => k_is)))
    (case D_beats => (refine' Off.def_in ?a ?l ?c ?k; (case a => k_is); (case l => k_is); (case c => k_is); (case k => k_is)))
    (case D_beaters_of => (refine' Off.def_in ?a ?l ?c ?k; (case a => k_is); (case l => k_is); (case c => k_is); (case k => k_is)))
    (case D_all_beaters => (refine' Off.def_in ?a ?l ?c ?k; (case a => k_is); (case l => k_is); (case c => k_is); (case k => k_is)))
    (case D_common_divisor => (refine' Off.def_in ?a ?l ?c ?k; (case a => k_is); (case l => k_is); (case c => k_is); (case k => k_is)))
    (case D_lowest => (refine' Off.def_in ?a ?l ?c ?k; (case a => k_is); (case l => k_is); (case c => k_is); (case k => k_is)))
    (case D_sure_ones => (refine' Off.def_in ?a ?l ?c ?k; (case a => k_is); (case l => k_is); (case c => k_is); (case k => k_is)))
    (case D_with_numerator => (refine' Off.def_in ?a ?l ?c ?k; (case a => k_is); (case l => k_is); (case c => k_is); (case k => k_is)))
    (case D_item_count => (refine' Off.def_in ?a ?l ?c ?k; (case a => k_is); (case l => k_is); (case c => k_is); (case k => k_is)))
    (case D_chance_of => (refine' Off.def_in ?a ?l ?c ?k; (case a => k_is); (case l => k_is); (case c => k_is); (case k => k_is)))
    (case D_worlds_weight => (refine' Off.def_in ?a ?l ?c ?k; (case a => k_is); (case l => k_is); (case c => k_is); (case k => k_is)))
    (case D_unbeaten_weight => (refine' Off.def_in ?a ?l ?c ?k; (case a => k_is); (case l => k_is); (case c => k_is); (case k => k_is)))
    (case D_unbeaten_weights => (refine' Off.def_in ?a ?l ?c ?k; (case a => k_is); (case l => k_is); (case c => k_is); (case k => k_is)))
    (case D_unbeaten_chance => (refine' Off.def_in ?a ?l ?c ?k; (case a => k_is); (case l => k_is); (case c => k_is); (case k => k_is)))
    (case D_all_chances => (refine' Off.def_in ?a ?l ?c ?k; (case a => k_is); (case l => k_is); (case c => k_is); (case k => k_is)))
    (case D_mean_unbeaten => (refine' Off.def_in ?a ?l ?c ?k; (case a => k_is); (case l => k_is); (case c => k_is); (case k => k_is)))
    (case D_likeliest_first => (refine' Off.lam_in ?a ?l ?cc ?k ?lc ?t; (case a => k_is); (case l => k_is); (case cc => k_is); (case k => k_is); (case lc => k_is); (case t => exact ⟨_, rfl, rfl⟩)))
    (case D_is_beaten => (refine' Off.def_in ?a ?l ?c ?k; (case a => k_is); (case l => k_is); (case c => k_is); (case k => k_is)))
    (case D_just_set_chance => (refine' Off.def_in ?a ?l ?c ?k; (case a => k_is); (case l => k_is); (case c => k_is); (case k => k_is)))
    (case D_bit_of => (refine' Off.def_in ?a ?l ?c ?k; (case a => k_is); (case l => k_is); (case c => k_is); (case k => k_is)))
    (case D_bits_of => (refine' Off.def_in ?a ?l ?c ?k; (case a => k_is); (case l => k_is); (case c => k_is); (case k => k_is)))
    (case D_items_of => (refine' Off.def_in ?a ?l ?c ?k; (case a => k_is); (case l => k_is); (case c => k_is); (case k => k_is)))
    (case D_joined_by => (refine' Off.def_in ?a ?l ?c ?k; (case a => k_is); (case l => k_is); (case c => k_is); (case k => k_is)))
    (case D_set_weights => (refine' Off.lam_in ?a ?l ?cc ?k ?lc ?t; (case a => k_is); (case l => k_is); (case cc => k_is); (case k => k_is); (case lc => k_is); (case t => exact ⟨_, rfl, rfl⟩)))
    (case D_likeliest_set => (refine' Off.def_in ?a ?l ?c ?k; (case a => k_is); (case l => k_is); (case c => k_is); (case k => k_is)))
    (case D_count_chances => (refine' Off.def_in ?a ?l ?c ?k; (case a => k_is); (case l => k_is); (case c => k_is); (case k => k_is)))
    (case D_is_item => (refine' Off.def_in ?a ?l ?c ?k; (case a => k_is); (case l => k_is); (case c => k_is); (case k => k_is)))
    (case D_tell_unbeaten => (refine' Off.def_in ?a ?l ?c ?k; (case a => k_is); (case l => k_is); (case c => k_is); (case k => k_is)))
    (case D_counted => (refine' Off.def_in ?a ?l ?c ?k; (case a => k_is); (case l => k_is); (case c => k_is); (case k => k_is)))
    (case D_tell_all => (refine' Off.def_in ?a ?l ?c ?k; (case a => k_is); (case l => k_is); (case c => k_is); (case k => k_is)))
    (case D_tell_mean => (refine' Off.def_in ?a ?l ?c ?k; (case a => k_is); (case l => k_is); (case c => k_is); (case k => k_is)))
    (case D_tell_counts => (refine' Off.def_in ?a ?l ?c ?k; (case a => k_is); (case l => k_is); (case c => k_is); (case k => k_is)))
    (case D_tell_top => (refine' Off.def_in ?a ?l ?c ?k; (case a => k_is); (case l => k_is); (case c => k_is); (case k => k_is)))
    (case D_tell_likely => (refine' Off.def_in ?a ?l ?c ?k; (case a => k_is); (case l => k_is); (case c => k_is); (case k => k_is)))
    (case D_tell_just_set => (refine' Off.def_in ?a ?l ?c ?k; (case a => k_is); (case l => k_is); (case c => k_is); (case k => k_is)))
    (case D_tell_given => (refine' Off.def_in ?a ?l ?c ?k; (case a => k_is); (case l => k_is); (case c => k_is); (case k => k_is)))
    (case D_are_chances => (refine' Off.def_in ?a ?l ?c ?k; (case a => k_is); (case l => k_is); (case c => k_is); (case k => k_is)))
    (case D_set_chances => (refine' Off.def_in ?a ?l ?c ?k; (case a => k_is); (case l => k_is); (case c => k_is); (case k => k_is)))
    (case D_tell => (refine' Off.def_in ?a ?l ?c ?k; (case a => k_is); (case l => k_is); (case c => k_is); (case k => k_is)))
    (case D_call_at => (refine' Off.def_in ?a ?l ?c ?k; (case a => k_is); (case l => k_is); (case c => k_is); (case k => k_is)))
    (case D_load => (refine' Off.def_in ?a ?l ?c ?k; (case a => k_is); (case l => k_is); (case c => k_is); (case k => k_is)))
    (case D_answer => (refine' Off.def_in ?a ?l ?c ?k; (case a => k_is); (case l => k_is); (case c => k_is); (case k => k_is)))
    (case D_answers => (refine' Off.def_in ?a ?l ?c ?k; (case a => k_is); (case l => k_is); (case c => k_is); (case k => k_is)))
    (case g_ROW_END => k_is)
    (case g_REMARK => k_is)
    (case g_MOST_NAME_BYTES => k_is)
    (case g_NO_TOKEN => k_is)
    (case g_MOST_DIGITS => k_is)
    (case g_ZERO => k_is)
    (case g_MOST_NUMBER => k_is)
    (case g_NOT_ALLOWED => k_is)
    (case g_TOO_GREAT => k_is)
    (case g_MOST_VALUE => k_is)
    (case g_NAME_AGAIN => k_is)
    (case g_TOO_MANY => k_is)
    (case g_MOST_MEASURES => k_is)
    (case g_MOST_ITEMS => k_is)
    (case g_TOO_LONG => k_is)
    (case g_MOST_BYTES => k_is)
    (case g_MOST_FOR_SETS => k_is)
    (case g_MOST_TOP => k_is)
    (case g_MOST_Q => k_is)
    (case g_LOAD => k_is)
    (case g_BLANKS => k_is)
    (case l_BLANKS => k_is)
    (case v_BLANKS => exact ⟨rfl, _, _, rfl, by decide, .cons ⟨_, rfl⟩ (.cons ⟨_, rfl⟩ (.cons ⟨_, rfl⟩ (.nil)))⟩)
    (case g_WORDS => k_is)
    (case l_WORDS => k_is)
    (case v_WORDS => exact ⟨rfl, _, _, rfl, by decide, .cons ⟨_, rfl⟩ (.cons ⟨_, rfl⟩ (.cons ⟨_, rfl⟩ (.cons ⟨_, rfl⟩ (.nil))))⟩)
    (case g_SINGLES => k_is)
    (case l_SINGLES => k_is)
    (case v_SINGLES => exact ⟨rfl, _, _, rfl, by decide, .cons ⟨_, rfl⟩ (.cons ⟨_, rfl⟩ (.cons ⟨_, rfl⟩ (.cons ⟨_, rfl⟩ (.cons ⟨_, rfl⟩ (.cons ⟨_, rfl⟩ (.cons ⟨_, rfl⟩ (.cons ⟨_, rfl⟩ (.cons ⟨_, rfl⟩ (.cons ⟨_, rfl⟩ (.nil))))))))))⟩)
    (case g_WITH_ROW => k_is)
    (case l_WITH_ROW => k_is)
    (case v_WITH_ROW => exact ⟨rfl, _, _, rfl, by decide, .cons ⟨_, rfl⟩ (.cons ⟨_, rfl⟩ (.cons ⟨_, rfl⟩ (.nil)))⟩)
    (case q0_set_chances => k_is)
    (case q0_tell_unbeaten => k_is)
    (case q0_tell_all => k_is)
    (case q0_tell_mean => k_is)
    (case q0_tell_just_set => k_is)
    (case q0_tell_likely => k_is)
    (case q0_tell_top => k_is)
    (case q0_tell_given => k_is)
    (case q0_tell_counts => k_is)
    (case g_SIGNS => k_is)
    (case l_SIGNS => k_is)
    (case v_SIGNS => exact ⟨_, _, rfl, rfl, rfl, by decide⟩)
    (case na_SIGNS => decide)
    (case g_TELLING => k_is)
    (case l_TELLING => k_is)
    (case v_TELLING => exact ⟨_, _, rfl, rfl, rfl, by decide⟩)
    (case na_TELLING => decide)
    (case rec_likeliest_first => kernel_rfl)
    (case rec_set_weights => kernel_rfl)
    (case neT => decide)
  case S =>
    intro cs K H xs a ht hwi hask hx
    cases hx with
    | cons h1 h2 =>
      cases h2
      cases h1 with
      | lst hs ha =>
        have e := L2.ints_dw a.1 _ ha
        subst e
        exact Off.sp_end (l := a.1) ht hask ⟨_, rfl, hs⟩ fun p H' hp => .lst (L2.SqL.of hp) (L2.dw_ints _)
