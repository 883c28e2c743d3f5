/-
  The plain side of taking a text block by block: lists of bytes alone; and the copy of a string's head into a row. Nothing of the program is named here.
-/
import Derived.Test.YtghjndcbnnbloaaDoorM
import Derived.Lib.BufferWrite
namespace Go.Proofs.YtghjndcbnnbloaaDoor
open Go.RowKit

def flat (ss : List ByteArray) : List UInt8 := (ss.map fun s => s.data.toList).flatten
theorem flat_append (a b : List ByteArray) : flat (a ++ b) = flat a ++ flat b := by simp [flat]
theorem flat_one (s : ByteArray) : flat [s] = s.data.toList := by simp [flat]
theorem len_data (s : ByteArray) : s.data.toList.length = s.size := rfl
theorem length_flat (ss : List ByteArray) : (flat ss).length = (ss.map ByteArray.size).sum := by
  induction ss with
  | nil => rfl
  | cons s ss ih => simp only [flat, List.map_cons, List.flatten_cons, List.length_append, List.sum_cons, len_data] at ih ⊢; rw [ih]
theorem flat_part (ss : List ByteArray) (k : Nat) (h : k < ss.length) : ss[k].data.toList = ((flat ss).drop (((ss.take k).map ByteArray.size).sum)).take ss[k].size := by
  have e : ss = ss.take k ++ (ss[k] :: ss.drop (k + 1)) := by
    rw [← List.drop_eq_getElem_cons h, List.take_append_drop]
  have e2 : flat ss = flat (ss.take k) ++ (ss[k].data.toList ++ flat (ss.drop (k + 1))) := by
    conv => lhs; rw [e]
    rw [flat_append]; congr 1
  rw [e2, ← length_flat, List.drop_left, ← len_data, List.take_left]
theorem buf_next (T L B : List UInt8) (p u m : Nat) (hu : u ≤ p) (hul : u + m ≤ L.length) (hp : L.take u = (T.drop (p - u)).take u) (hB : B = (T.drop p).take m) (hBl : B.length = m) :
    (L.take u ++ B ++ L.drop (u + m)).length = L.length ∧ (L.take u ++ B ++ L.drop (u + m)).take (u + m) = (T.drop (p - u)).take (u + m) := by
  have h1 : (L.take u).length = u := by simp; omega
  constructor
  · simp only [List.length_append, List.length_drop, h1, hBl]; omega
  · rw [List.take_append_of_le_length (by simp only [List.length_append, h1, hBl]; omega), List.take_of_length_le (by simp only [List.length_append, h1, hBl]; omega)]
    rw [hp, hB, List.take_add, List.drop_drop, show p - u + u = p by omega]
theorem buf_cells (L B : List UInt8) (u m : Nat) : ((L.map U8).toArray.toList.take u ++ Lib.byteCells B ++ (L.map U8).toArray.toList.drop (u + m)).toArray = ((L.take u ++ B ++ L.drop (u + m)).map U8).toArray := by
  simp only [Lib.byteCells, List.map_append, List.map_take, List.map_drop]; rfl
/-- copy(row[o:], s): as many of s's bytes as there is room for. -/
theorem run_copy_head_string {P : Program} (w : World) (dT sT ty elem : TypeId) (g o dLen dCap : Nat) (s : ByteArray) (cur : Array Value) (t : TypeId) (m : Nat) (hm : m = min s.size dLen)
    (hu : P.underlying dT = some (.slice elem)) (hs : (P.info? elem).map (·.size) = some 1) (hg : w.heap[g]? = some (.cells cur t (0, 0))) (hfit : o + m ≤ cur.size) :
    (Builtin.copy_ #[dT, sT] ty #[.slice (some ⟨g, o, none⟩) dLen dCap, .string s]).run P w =
      .ok (goInt m) (w.setRow g (cur.toList.take o ++ Lib.byteCells (s.data.toList.take m) ++ cur.toList.drop (o + m)).toArray) := by
  have hlen : (Lib.byteCells (s.data.toList.take m)).length = m := by rw [Lib.byteCells_length, List.length_take, len_data]; omega
  have hst := run_storeCells_at P g o t (Lib.byteCells (s.data.toList.take m)) 0 cur w hg (by rw [hlen]; simpa using hfit) (Lib.byteCells_one _)
  have hmin : Nat.min s.size dLen = m := hm.symm
  have htk : List.take m (List.map (fun b : UInt8 => Value.int IntKind.u8 (b.toNat : Int)) s.data.toList) = Lib.byteCells (s.data.toList.take m) := by
    rw [← List.map_take]; rfl
  rw [hlen] at hst
  simp only [Nat.add_zero] at hst
  cases hq : P.info? elem with
  | none => simp [hq] at hs
  | some i =>
    simp [Builtin.copy_, run_underlying hu, Builtin.lenOf, Builtin.firstCells, sizeOf, typeInfo, hq, hmin]
    rw [htk, hst]
    simp [Result.andThen]
end Go.Proofs.YtghjndcbnnbloaaDoor
