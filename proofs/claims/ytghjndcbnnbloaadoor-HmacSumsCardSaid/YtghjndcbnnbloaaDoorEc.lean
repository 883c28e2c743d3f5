/-
  What eachBlock's walks at both sizes share.
-/
import Derived.Test.YtghjndcbnnbloaaDoorCl
import Derived.Test.YtghjndcbnnbloaaDoorPd
import Derived.Test.YtghjndcbnnbloaaDoorEm
namespace Go.Proofs.YtghjndcbnnbloaaDoor
open Go.RowKit

section
variable {P : Program}
theorem wpList_copy_run (w : World) {ops : Array Oper} {rest : List Oper} {o : Oper} {a : Act} {Q : Exit → Act → World → Prop} (hgd : o.guard = none) (d s : Operand) (dT sT : TypeId)
    (ho : o.op = .call { callee := .builtin .copy, args := #[d, s], argTypes := #[dT, sT] }) (vd vs : Value) (hd : a.eval d = vd) (hs : a.eval s = vs)
    (v' : Value) (w' : World) (hr : (Builtin.copy_ #[dT, sT] o.type #[vd, vs]).run P w = .ok v' w') (h : wpList P ops Q rest (a.put o.dst v') w') : wpList P ops Q (o :: rest) a w := by
  refine wpList_plain hgd fun K hK => ?_
  unfold Oper.wp execOp
  simp only [ho, resolve, invoke, builtin, Sem.run_bind, Sem.run_pure, Result.andThen_ok, List.map_toArray, List.map_cons, List.map_nil, hd, hs, hr]
  exact hK _ _ h
end
theorem two_rows (w : World) (t t' : TypeId) (X Y : Array Value) : ∃ w3 : World, w3 = (w.alloc (.cells X t)).alloc (.cells Y t') ∧ Below w.heap.size w w3 ∧ Blk w3 w.heap.size t X ∧ Blk w3 (w.heap.size + 1) t' Y ∧ w3.heap.size = w.heap.size + 2 :=
  ⟨_, rfl, ((Below.refl _ _).alloc (Nat.le_refl _) _).alloc (by simp) _, (Blk.new w t X).alloc _, by simpa using Blk.new (w.alloc (.cells X t)) t' Y, by simp⟩
theorem grown_far {a b : World} {r : Option Nat} {m : Nat} (h : a.grownBy b r) (hm : a.heap.size ≤ m) (cs : Array Value) : a.grownBy (b.setRow m cs) r :=
  ⟨h.os, h.tape, h.output, by simpa [World.setRow] using h.size, fun k hk hr => by
    unfold World.setRow
    simp only [Array.getElem?_modify]
    rw [if_neg (by omega)]; exact h.block k hk hr⟩
theorem Strs.cellsame {w w' : World} {A : Option Addr} {n c : Nat} {ss : List ByteArray} (h : Strs w A n c ss) (hc : ∀ ad, A = some ad → ∀ j, w'.cell? (ad.add j) = w.cell? (ad.add j)) : Strs w' A n c ss :=
  ⟨h.1, h.2.1, fun ad e j u hu => (hc ad e j).trans (h.2.2 ad e j u hu)⟩
theorem Strs.gro {w w' : World} {b o n c g : Nat} {ss : List ByteArray} (h : Strs w (some ⟨b, o, none⟩) n c ss) (hg : w.grownBy w' (some g)) (hne : b ≠ g) : Strs w' (some ⟨b, o, none⟩) n c ss :=
  ⟨h.1, h.2.1, fun ad e j u hu => by
    injection e with e; subst e
    exact hg.cell (h.2.2 _ rfl j u hu) (fun e => hne (by rw [block_of_add] at e; injection e))⟩
theorem cell_setRow_far (w : World) (m : Nat) (cs : Array Value) (a : Addr) (h : a.block ≠ m) : (w.setRow m cs).cell? a = w.cell? a :=
  World.cell?_of_block (w := w) (by unfold World.setRow; simp only [Array.getElem?_modify]; rw [if_neg (by omega)])
theorem Strs.farRow {w : World} {b o n c m : Nat} {ss : List ByteArray} (h : Strs w (some ⟨b, o, none⟩) n c ss) (hne : b ≠ m) (cs : Array Value) : Strs (w.setRow m cs) (some ⟨b, o, none⟩) n c ss :=
  h.cellsame fun ad e j => by injection e with e; subst e; exact cell_setRow_far _ _ _ _ (by rw [block_of_add]; exact hne)
theorem grown_then_far {a b c : World} {r : Option Nat} {m : Nat} (h : a.grownBy b r) (k : b.grownBy c (some m)) (hm : a.heap.size ≤ m) : a.grownBy c r :=
  ⟨k.os.trans h.os, k.tape.trans h.tape, k.output.trans h.output, Nat.le_trans h.size k.size, fun i hi hr => (k.block i (Nat.lt_of_lt_of_le hi h.size) (fun e => by injection e with e; omega)).trans (h.block i hi hr)⟩
theorem wpList_copy_head {P : Program} (w : World) {ops : Array Oper} {rest : List Oper} {o : Oper} {a : Act} {Q : Exit → Act → World → Prop} (hgd : o.guard = none) (d s : Operand) (dT sT elem : TypeId)
    (ho : o.op = .call { callee := .builtin .copy, args := #[d, s], argTypes := #[dT, sT] }) (hu : P.underlying dT = some (.slice elem)) (hs : (P.info? elem).map (·.size) = some 1)
    (g u dLen dCap : Nat) (S : ByteArray) (L : List UInt8) (t : TypeId) (m : Nat) (hd : a.eval d = .slice (some ⟨g, u, none⟩) dLen dCap) (hsv : a.eval s = .string S) (hm : m = min S.size dLen) (hg : Blk w g t (L.map U8).toArray) (hfit : u + m ≤ L.length)
    (h : ∀ w', Blk w' g t ((L.take u ++ S.data.toList.take m ++ L.drop (u + m)).map U8).toArray → w.grownBy w' (some g) → wpList P ops Q rest (a.put o.dst (.int .i64 m)) w') : wpList P ops Q (o :: rest) a w := by
  have hcopy := run_copy_head_string (P := P) w dT sT o.type elem g u dLen dCap S _ t m hm hu hs hg (by simpa using hfit)
  rw [buf_cells] at hcopy
  exact wpList_copy_run w hgd d s dT sT ho _ _ hd hsv _ _ hcopy (h _ (hg.row _) (grown_setRow (grown_refl _ _) _))
theorem bytes_of_list {w : World} {g t : Nat} {L : List UInt8} (h : Blk w g t (L.map U8).toArray) : Bytes w g 0 L := fun j hj => by
  rw [h.cell, Nat.zero_add]; simp [hj]
theorem ext_data (S : ByteArray) (m : Nat) : (S.extract m S.size).data.toList = S.data.toList.drop m := by
  rw [ByteArray.data_extract, Array.toList_extract, List.extract_eq_take_drop]
  exact List.take_of_length_le (by rw [List.length_drop, len_data]; exact Nat.le_refl _)
def strLen : Value → Nat | .string S => S.size | _ => 0
theorem strLen_string (S : ByteArray) : strLen (.string S) = S.size := rfl
theorem sum_take_succ (ss : List ByteArray) (k : Nat) (h : k < ss.length) : ((ss.take (k + 1)).map ByteArray.size).sum = ((ss.take k).map ByteArray.size).sum + ss[k].size := sumLen_succ ss k h

end Go.Proofs.YtghjndcbnnbloaaDoor
