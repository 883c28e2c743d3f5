/-
  string(b), b a row of bytes that the call itself made. Nothing of the program is named here.
-/
import Derived.Test.YtaenhghihhhikaaDoorYr
import Derived.Laws.BytesArg
namespace Go.Proofs.YtaenhghihhhikaaDoor
open Go.RowKit
theorem run_string_own {P : Program} {w : World} {base : Nat} {v : Value} {l : List UInt8} (s d e : TypeId) (h : Own w base e U8 v l) (hs : P.underlying s = some (.slice e)) (he : P.underlying e = some (.int .u8)) (hd : P.underlying d = some .string) :
    (convert s d v).run P w = .ok (.string ⟨l.toArray⟩) w := by
  rcases h.form with ⟨rfl, rfl⟩ | ⟨g, cap, rfl, _⟩
  · exact run_convert_bytes_nil w s e hs he 0 0 d hd
  · exact run_convert_bytes_back w s d e _ cap l hs he hd (cells_of_bytes h.bytes)
theorem wpList_string_own {P : Program} {w : World} {ops : Array Oper} {rest : List Oper} {o : Oper} {a : Act} {Q : Exit → Act → World → Prop} (hgd : o.guard = none) (s d e : TypeId) (x : Operand)
    (ho : o.op = .convert s d x) (hs : P.underlying s = some (.slice e)) (he : P.underlying e = some (.int .u8)) (hd : P.underlying d = some .string) (base : Nat) (v : Value) (l : List UInt8) (hown : Own w base e U8 v l) (hx : a.eval x = v)
    (h : wpList P ops Q rest (a.put o.dst (.string ⟨l.toArray⟩)) w) : wpList P ops Q (o :: rest) a w :=
  wpList_convert_run w hgd s d x ho v hx _ _ (run_string_own s d e hown hs he hd) h
end Go.Proofs.YtaenhghihhhikaaDoor
