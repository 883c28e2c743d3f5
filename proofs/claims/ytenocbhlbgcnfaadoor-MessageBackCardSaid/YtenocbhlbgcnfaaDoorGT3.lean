/-
  Texts of this claim.
-/
import Derived.Test.YtenocbhlbgcnfaaDoorGTU
import Derived.Test.YtenocbhlbgcnfaaDoorGTY
import Derived.Test.YtenocbhlbgcnfaaDoorGTP
namespace Go.Proofs.YtenocbhlbgcnfaaDoor
open Go.RowKit
/-- What a message's reader has: the decoder, and the four lists. -/
structure MSt where
  i : DI
  us : List UInt32
  ss : List (List UInt8)
  ns : List (List (List UInt8))
  bs : List Bool
/-- A field by its letter. -/
def getP (l : UInt8) (m : MSt) : MSt :=
  if l = 117 then ⟨(u32D m.i).1, m.us ++ [(u32D m.i).2], m.ss, m.ns, m.bs⟩
  else if l = 98 then ⟨(boolD m.i).1, m.us, m.ss, m.ns, m.bs ++ [(boolD m.i).2]⟩
  else if l = 110 then ⟨(namesD m.i).1, m.us, m.ss, m.ns ++ [(namesD m.i).2], m.bs⟩
  else if l = 115 then ⟨(textD m.i 32768).1, m.us, m.ss ++ [(textD m.i 32768).2], m.ns, m.bs⟩
  else if l = 99 then ⟨(rawD m.i 16).1, m.us, m.ss ++ [(rawD m.i 16).2], m.ns, m.bs⟩
  else ⟨(rawD m.i m.i.r.length).1, m.us, m.ss ++ [(rawD m.i m.i.r.length).2], m.ns, m.bs⟩
def parseN (fs : List UInt8) (m : MSt) : Nat → MSt
  | 0 => m
  | j + 1 => getP (fs.getD j 0) (parseN fs m j)
theorem namesD_le (i : DI) : (namesD i).1.r.length ≤ i.r.length := by
  have h := (textD_len_le i 4096).2
  unfold namesD
  split
  · exact h
  · split
    · exact h
    · exact Nat.zero_le _
theorem getP_le (l : UInt8) (m : MSt) : (getP l m).i.r.length ≤ m.i.r.length ∧ (getP l m).us.length ≤ m.us.length + 1 ∧ (getP l m).ss.length ≤ m.ss.length + 1 ∧ (getP l m).ns.length ≤ m.ns.length + 1 ∧ (getP l m).bs.length ≤ m.bs.length + 1 := by
  have h1 : (u32D m.i).1.r.length ≤ m.i.r.length := (rawD_len_le m.i 4).2
  have h2 : (boolD m.i).1.r.length ≤ m.i.r.length := (rawD_len_le m.i 1).2
  have h3 := namesD_le m.i
  have h4 := (textD_len_le m.i 32768).2
  have h5 := (rawD_len_le m.i 16).2
  have h6 := (rawD_len_le m.i m.i.r.length).2
  unfold getP
  repeat' split
  all_goals (refine ⟨by assumption, ?_, ?_, ?_, ?_⟩ <;> simp)
theorem parseN_le (fs : List UInt8) (m : MSt) : ∀ j, (parseN fs m j).i.r.length ≤ m.i.r.length ∧ (parseN fs m j).us.length ≤ m.us.length + j ∧ (parseN fs m j).ss.length ≤ m.ss.length + j ∧ (parseN fs m j).ns.length ≤ m.ns.length + j ∧ (parseN fs m j).bs.length ≤ m.bs.length + j
  | 0 => ⟨Nat.le_refl _, Nat.le_refl _, Nat.le_refl _, Nat.le_refl _, Nat.le_refl _⟩
  | j + 1 => by
    have h1 := parseN_le fs m j
    have h2 := getP_le (fs.getD j 0) (parseN fs m j)
    refine ⟨?_, ?_, ?_, ?_, ?_⟩ <;> (show _ ≤ _; simp only [parseN]; omega)
def six (c : UInt8) : Bool := c == 117 || c == 98 || c == 110 || c == 115 || c == 99 || c == 114
theorem kFields_six : (kFields.all fun l => l.all six) = true := by decide +kernel
theorem fields_six (k : Int) (j : Nat) (hj : j < (fieldsOf k).length) : six ((fieldsOf k).getD j 0) = true := by
  have h : (fieldsOf k).all six = true := by
    unfold fieldsOf
    split
    · rename_i i _
      rcases Nat.lt_or_ge i kFields.length with h | h
      · rw [List.getD_eq_getElem?_getD, List.getElem?_eq_getElem h]
        exact List.all_eq_true.1 kFields_six _ (List.getElem_mem h)
      · rw [List.getD_eq_getElem?_getD, List.getElem?_eq_none h]; rfl
    · rfl
  rw [List.getD_eq_getElem?_getD, List.getElem?_eq_getElem hj]
  exact List.all_eq_true.1 h _ (List.getElem_mem hj)
theorem six_of {c : UInt8} {p : Prop} (h : six c = true) (h1 : c = 117 → p) (h2 : c = 98 → p) (h3 : c = 110 → p) (h4 : c = 115 → p) (h5 : c = 99 → p) (h6 : c = 114 → p) : p := by
  simp only [six, Bool.or_eq_true, beq_iff_eq] at h
  rcases h with ((((h | h) | h) | h) | h) | h
  · exact h1 h
  · exact h2 h
  · exact h3 h
  · exact h4 h
  · exact h5 h
  · exact h6 h
theorem nmOk_app {L : List (Nat × Nat)} : ∀ (a b : List Nat), nmOk L (a ++ b) = (nmOk L a && nmOk L b)
  | [], _ => rfl
  | x :: a, b => by show (_ && nmOk L (a ++ b)) = ((_ && nmOk L a) && _); rw [nmOk_app a b, Bool.and_assoc]
theorem nmOkC_app {L : List (Nat × Nat)} : ∀ (a b : List Nat), nmOkC L (a ++ b) = (nmOkC L a && nmOkC L b)
  | [], _ => rfl
  | x :: a, b => by show (_ && nmOkC L (a ++ b)) = ((_ && nmOkC L a) && _); rw [nmOkC_app a b, Bool.and_assoc]
theorem nmOkF_app {L N : List (Nat × Nat)} : ∀ (a b : List Nat), nmOkF L N (a ++ b) = (nmOkF L N a && nmOkF L N b)
  | [], _ => rfl
  | x :: a, b => by show (_ && nmOkF L N (a ++ b)) = ((_ && nmOkF L N a) && _); rw [nmOkF_app a b, Bool.and_assoc]
theorem msgO_names (k : Int) (a na b nb c nc d nd : Nat) : (msgO k a na b nb c nc d nd).names = (slO a na 1).names ++ ((slO b nb 1).names ++ ((slO c nc 1).names ++ ((slO d nd 1).names ++ []))) := rfl
theorem and4 {p q r s : Bool} (h : (p && (q && (r && (s && true)))) = true) : p = true ∧ q = true ∧ r = true ∧ s = true := by
  cases p <;> cases q <;> cases r <;> cases s <;> first | (cases h; done) | exact ⟨rfl, rfl, rfl, rfl⟩
theorem msgO_nm {L : List (Nat × Nat)} {a b c d : Nat} (k : Int) (na nb nc nd : Nat) (h : (nmOk L [a] && (nmOk L [b] && (nmOk L [c] && (nmOk L [d] && true)))) = true) : nmOk L (msgO k a na b nb c nc d nd).names = true := by
  obtain ⟨h1, h2, h3, h4⟩ := and4 h
  rw [msgO_names, nmOk_app, nmOk_app, nmOk_app, nmOk_app, slO_nm na 1 h1, slO_nm nb 1 h2, slO_nm nc 1 h3, slO_nm nd 1 h4]; rfl
theorem msgO_nmC {L : List (Nat × Nat)} {a b c d : Nat} (k : Int) (na nb nc nd : Nat) (h : (nmOkC L [a] && (nmOkC L [b] && (nmOkC L [c] && (nmOkC L [d] && true)))) = true) : nmOkC L (msgO k a na b nb c nc d nd).names = true := by
  obtain ⟨h1, h2, h3, h4⟩ := and4 h
  rw [msgO_names, nmOkC_app, nmOkC_app, nmOkC_app, nmOkC_app, slO_nmC na 1 h1, slO_nmC nb 1 h2, slO_nmC nc 1 h3, slO_nmC nd 1 h4]; rfl
theorem msgO_nmF {L N : List (Nat × Nat)} {a b c d : Nat} (k : Int) (na nb nc nd : Nat) (h : (nmOkF L N [a] && (nmOkF L N [b] && (nmOkF L N [c] && (nmOkF L N [d] && true)))) = true) : nmOkF L N (msgO k a na b nb c nc d nd).names = true := by
  obtain ⟨h1, h2, h3, h4⟩ := and4 h
  rw [msgO_names, nmOkF_app, nmOkF_app, nmOkF_app, nmOkF_app, slO_nmF na 1 h1, slO_nmF nb 1 h2, slO_nmF nc 1 h3, slO_nmF nd 1 h4]; rfl
theorem slO_cell (b n z : Nat) : (slO b n z).cell = true := by cases n <;> rfl
theorem cells5 {a b c d e : AV} (h1 : a.cell = true) (h2 : b.cell = true) (h3 : c.cell = true) (h4 : d.cell = true) (h5 : e.cell = true) : ∀ x ∈ [a, b, c, d, e], x.cell = true := by
  intro x hx
  simp only [List.mem_cons, List.not_mem_nil, or_false] at hx
  rcases hx with rfl | rfl | rfl | rfl | rfl <;> assumption
end Go.Proofs.YtenocbhlbgcnfaaDoor
