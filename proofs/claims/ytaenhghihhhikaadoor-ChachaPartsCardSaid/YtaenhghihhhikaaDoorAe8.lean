/-
  Rules for the scripts that walk a function over abstract values. Nothing of the program is named here.
-/
import Derived.Test.YtaenhghihhhikaaDoorAe7
namespace Go.Proofs.YtaenhghihhhikaaDoor
open Go.RowKit
/-- What is known of an element's type. -/
def Inf (P : Program) (e : TypeId) (z : Nat) (zv : Value) : Prop := ∃ ie, P.info? e = some ie ∧ ie.zero = some zv ∧ ie.size = z ∧ ie.bytes ≤ 64 ∧ zv.cells.size = z
theorem Inf.mk {P : Program} {e z b : Nat} {zv : Value} (h : (P.info? e).map (fun i => (i.zero, i.size, i.bytes)) = some (some zv, z, b)) (hb : b ≤ 64) (hz : zv.cells.size = z) : Inf P e z zv := by
  cases hq : P.info? e with
  | none => simp [hq] at h
  | some ie => simp [hq] at h; exact ⟨ie, hq ▸ rfl, h.1, h.2.1, by omega, hz⟩
theorem Inf.sz {P : Program} {e z : Nat} {zv : Value} (h : Inf P e z zv) : (P.info? e).map (·.size) = some z := by obtain ⟨ie, h1, _, h2, _⟩ := h; simp [h1, h2]
theorem Inf.zero {P : Program} {e z : Nat} {zv : Value} (h : Inf P e z zv) : (P.info? e).map (·.zero) = some (some zv) := by obtain ⟨ie, h1, h2, _⟩ := h; simp [h1, h2]
section
variable {P : Program} {T : Nat → Option AV} {H : Hp} {nm : Nat} {wr : Bool} {v u u1 u2 c c' : AV} {d : Option Tmp} {ty : TypeId} {ps : String} {af : Array Edge} {gd : Option (Nat × Bool)} {t t' t2 e : TypeId} {x y : Operand} {dd d2 : TypeDesc} {b o n z i m b2 o2 : Nat} {k k2 : ABlk} {zv : Value}
theorem ap_append {cs : List AV} (ht : P.underlying t = some (.slice e)) (ht2 : P.underlying t2 = some d2) (hd2 : notInt d2) (hi : Inf P e z zv)
    (hx : aev T x = some (.sl b 0 n z)) (hk : H b = some k) (hown : k.own = true) (hke : k.elem = e) (hn : k.c.len = n * z) (hs : Srcs P T H y z m cs) (hc : c'.list = k.c.list ++ cs) (hlim : n + m ≤ 10000000000) :
    OpSem P T H ⟨d, .call { callee := .builtin .append, args := #[x, y], argTypes := #[t, t2] }, ty, ps, af, gd⟩ nm true (.sl nm 0 (n + m) z) [(nm, some ⟨c', e, true⟩), (b, none)] := by
  obtain ⟨ie, h1, h2, h3, h4, h5⟩ := hi
  exact op_append ht ht2 hd2 h1 h2 (by omega) h3 (by omega) hx hk hown hke hn hs hc hlim
theorem ap_append_nil {cs : List AV} (ht : P.underlying t = some (.slice e)) (ht2 : P.underlying t2 = some d2) (hd2 : notInt d2) (hi : Inf P e z zv)
    (hx : aev T x = some .nilsl) (hs : Srcs P T H y z m cs) (hc : c'.list = cs) (h0 : 0 < m) (hlim : m ≤ 10000000000) :
    OpSem P T H ⟨d, .call { callee := .builtin .append, args := #[x, y], argTypes := #[t, t2] }, ty, ps, af, gd⟩ nm wr (.sl nm 0 m z) [(nm, some ⟨c', e, true⟩)] := by
  obtain ⟨ie, h1, h2, h3, h4, h5⟩ := hi
  exact op_append_nil ht ht2 hd2 h1 h2 (by omega) h3 (by omega) hx hs hc h0 hlim
/-- append of a literal's elements, typed rows. -/
theorem ap_cat (ht : P.underlying t = some (.slice e)) (hi : Inf P e 1 zv)
    (hx : aev T x = some (.sl b 0 n 1)) (hk : H b = some k) (hown : k.own = true) (hke : k.elem = e) (hn : k.c.len = n) (hy : aev T y = some (.sl b2 0 m 1)) (hk2 : H b2 = some k2) (hm : k2.c.len = m) (hc : k.c.cat k2.c = some c') (hlim : n + m ≤ 10000000000) :
    OpSem P T H ⟨d, .call { callee := .builtin .append, args := #[x, y], argTypes := #[t, t] }, ty, ps, af, gd⟩ nm true (.sl nm 0 (n + m) 1) [(nm, some ⟨c', e, true⟩), (b, none)] := by
  have hs := srcs_sl (P := P) (T := T) (H := H) (z := 1) (m := m) (o := 0) hy hk2 (by omega)
  refine ap_append ht ht (.inr ⟨e, rfl⟩) hi hx hk hown hke (by omega) hs ?_ hlim
  rw [cat_list hc]
  congr 1
  rw [List.drop_zero, List.take_of_length_le (by rw [len_list]; omega)]
theorem ap_cat_nil (ht : P.underlying t = some (.slice e)) (hi : Inf P e 1 zv)
    (hx : aev T x = some .nilsl) (hy : aev T y = some (.sl b2 0 m 1)) (hk2 : H b2 = some k2) (hm : k2.c.len = m) (h0 : 0 < m) (hlim : m ≤ 10000000000) :
    OpSem P T H ⟨d, .call { callee := .builtin .append, args := #[x, y], argTypes := #[t, t] }, ty, ps, af, gd⟩ nm wr (.sl nm 0 m 1) [(nm, some ⟨k2.c, e, true⟩)] := by
  have hs := srcs_sl (P := P) (T := T) (H := H) (z := 1) (m := m) (o := 0) hy hk2 (by omega)
  refine ap_append_nil ht ht (.inr ⟨e, rfl⟩) hi hx hs ?_ h0 hlim
  rw [List.drop_zero, List.take_of_length_le (by rw [len_list]; omega)]
theorem ap_build {us : List AV} {len : Nat} {parts : Array (Nat × Operand)} (hu : P.underlying t = some (.slice e)) (hi : Inf P e 1 zv) (hlen : us.length = len) (hpos : 0 < len) (hsm : len ≤ 65536)
    (hp : partsOk T parts.toList 0 us) (hc : c.list = us) : OpSem P T H ⟨d, .buildSlice t len parts, ty, ps, af, gd⟩ nm wr (.sl nm 0 len 1) [(nm, some ⟨c, e, true⟩)] := by
  obtain ⟨ie, h1, h2, h3, h4, h5⟩ := hi
  exact op_buildSlice hu h1 h2 h3 hlen hpos hsm hp hc
theorem ap_build0 (hu : P.underlying t = some (.slice e)) (hi : Inf P e z zv) (hc : c.list = []) : OpSem P T H ⟨d, .buildSlice t 0 #[], ty, ps, af, gd⟩ nm wr (.sl nm 0 0 z) [(nm, some ⟨c, e, true⟩)] := by
  obtain ⟨ie, h1, h2, h3, h4, h5⟩ := hi
  exact op_buildSlice0 hu h1 hc
theorem ap_make {jl jc : Int} (ht : P.underlying t = some (.slice e)) (hi : Inf P e 1 zv) (hx : aev T x = some (.i64 jl)) (hy : aev T y = some (.i64 jc)) (hl : jl = (n : Int)) (hcc : jc = (n : Int)) (hn : n ≤ 1000000000)
    (hr0 : Rel (fun _ => none) u zv) (h1 : u.one = true) (hc : c.list = List.replicate n u) : OpSem P T H ⟨d, .makeSlice t x y, ty, ps, af, gd⟩ nm wr (.sl nm 0 n 1) [(nm, some ⟨c, e, true⟩)] := by
  obtain ⟨ie, g1, g2, g3, g4, g5⟩ := hi
  exact op_makeSlice ht g1 g2 g3 g4 hx hy hl hcc hn hr0 h1 hc
theorem ap_slice_sl_hi {hi : Option Operand} {h : Nat} (ht : P.underlying t = some (.slice e)) (hz : (P.info? e).map (·.size) = some z) (hx : aev T x = some (.sl b o n z)) (hh : bnd T n hi h) (h2 : h ≤ n) :
    OpSem P T H ⟨d, .slice t x none hi none, ty, ps, af, gd⟩ nm wr (.sl b o h z) [] := by
  have := op_slice_sl (nm := nm) (wr := wr) (H := H) (d := d) (ty := ty) (ps := ps) (af := af) (gd := gd) (lo := none) ht hz hx rfl hh (Nat.zero_le _) h2
  rwa [Nat.zero_mul, Nat.add_zero, Nat.sub_zero] at this
theorem ap_slice_arr_hi {hi : Option Operand} {h : Nat} (ht : P.underlying t = some (.array n e)) (hz : (P.info? e).map (·.size) = some z) (hx : aev T x = some (.ptr b o)) (hk : H b = some k) (hlen : o + n * z ≤ k.c.len) (hnm : n ≤ maxLen) (hh : bnd T n hi h) (h2 : h ≤ n) :
    OpSem P T H ⟨d, .slice t x none hi none, ty, ps, af, gd⟩ nm wr (.sl b o h z) [] := by
  have := op_slice_arr (nm := nm) (wr := wr) (H := H) (d := d) (ty := ty) (ps := ps) (af := af) (gd := gd) (lo := none) ht hz hx hk hlen hnm rfl hh (Nat.zero_le _) h2
  rwa [Nat.zero_mul, Nat.add_zero, Nat.sub_zero] at this
theorem ap_slice_str_hi {s : List UInt8} {hi : Option Operand} {h : Nat} (ht : P.underlying t = some .string) (hx : aev T x = some (.str s)) (hh : bnd T s.length hi h) (h2 : h ≤ s.length) :
    OpSem P T H ⟨d, .slice t x none hi none, ty, ps, af, gd⟩ nm wr (.str (s.take h)) [] := by
  have := op_slice_str (H := H) (nm := nm) (wr := wr) (d := d) (ty := ty) (ps := ps) (af := af) (gd := gd) (lo := none) ht hx rfl hh (Nat.zero_le _) h2
  rwa [List.drop_zero, Nat.sub_zero] at this
theorem ap_slice_str_lo {s : List UInt8} {lo : Option Operand} {l : Nat} (ht : P.underlying t = some .string) (hx : aev T x = some (.str s)) (hl : bnd T 0 lo l) (h2 : l ≤ s.length) :
    OpSem P T H ⟨d, .slice t x lo none none, ty, ps, af, gd⟩ nm wr (.str (s.drop l)) [] := by
  have := op_slice_str (H := H) (nm := nm) (wr := wr) (d := d) (ty := ty) (ps := ps) (af := af) (gd := gd) (hi := none) ht hx hl rfl h2 (Nat.le_refl _)
  rwa [List.take_of_length_le (by simp)] at this
/-- An element of one cell. -/
theorem ap_idx {j : Int} (ht : P.underlying t = some (.slice e)) (hz : (P.info? e).map (·.size) = some 1) (hx : aev T x = some (.sl b o n 1)) (hy : aev T y = some (.i64 j)) (hj : j = (i : Int)) (hlt : i < n) :
    OpSem P T H ⟨d, .indexAddr t x y, ty, ps, af, gd⟩ nm wr (.ptr b (o + i)) [] := by
  have := op_indexAddr (H := H) (nm := nm) (wr := wr) (d := d) (ty := ty) (ps := ps) (af := af) (gd := gd) ht hz hx hy hj hlt
  rwa [Nat.mul_one] at this
/-- An element of one cell, of a slice that begins at the block's head. -/
theorem ap_idx0 {j : Int} (ht : P.underlying t = some (.slice e)) (hz : (P.info? e).map (·.size) = some 1) (hx : aev T x = some (.sl b 0 n 1)) (hy : aev T y = some (.i64 j)) (hj : j = (i : Int)) (hlt : i < n) :
    OpSem P T H ⟨d, .indexAddr t x y, ty, ps, af, gd⟩ nm wr (.ptr b i) [] := by
  have := ap_idx (H := H) (nm := nm) (wr := wr) (d := d) (ty := ty) (ps := ps) (af := af) (gd := gd) ht hz hx hy hj hlt
  rwa [Nat.zero_add] at this
theorem ap_idx_arr {j : Int} (ht : P.underlying t = some (.array n e)) (hz : (P.info? e).map (·.size) = some 1) (hx : aev T x = some (.ptr b 0)) (hy : aev T y = some (.i64 j)) (hj : j = (i : Int)) (hlt : i < n) :
    OpSem P T H ⟨d, .indexAddr t x y, ty, ps, af, gd⟩ nm wr (.ptr b i) [] := by
  have := op_indexAddr_arr (H := H) (nm := nm) (wr := wr) (d := d) (ty := ty) (ps := ps) (af := af) (gd := gd) ht hz hx hy hj hlt
  rwa [Nat.mul_one, Nat.zero_add] at this
theorem toNat_idx {j : Int} (h : 0 ≤ j) : j = (j.toNat : Int) := (Int.toNat_of_nonneg h).symm
end
section
variable {P : Program} {nt : Nat} {st : St} {post : Exit → St → Prop} {ops rest : List Oper} {q : St → Prop} {d : Nat} {b : Bool} {T : List (Nat × AV)} {H : List (Nat × Option ABlk)} {nx : Nat}
theorem EvL.split (h1 : b = true → EvL P nt ops rest ⟨(d, .bool true) :: T, H, nx⟩ q) (h2 : b = false → EvL P nt ops rest ⟨(d, .bool false) :: T, H, nx⟩ q) : EvL P nt ops rest ⟨(d, .bool b) :: T, H, nx⟩ q := by
  cases b with
  | true => exact h1 rfl
  | false => exact h2 rfl
theorem EvL.know {b' : Bool} (hb : b = b') (h : EvL P nt ops rest ⟨(d, .bool b') :: T, H, nx⟩ q) : EvL P nt ops rest ⟨(d, .bool b) :: T, H, nx⟩ q := hb ▸ h
/-- The last slot's value is another way to write it. -/
theorem EvL.as {v : AV} (v' : AV) (hv : v = v') (h : EvL P nt ops rest ⟨(d, v') :: T, H, nx⟩ q) : EvL P nt ops rest ⟨(d, v) :: T, H, nx⟩ q := hv ▸ h
/-- The last block's content is another way to write it. -/
theorem EvL.asH {c : AV} {e : Nat} {ow : Bool} (c' : AV) (hv : c = c') (h : EvL P nt ops rest ⟨T, (d, some ⟨c', e, ow⟩) :: H, nx⟩ q) : EvL P nt ops rest ⟨T, (d, some ⟨c, e, ow⟩) :: H, nx⟩ q := hv ▸ h
theorem ret1v {fn : Func} {t : Tmp} {v v' : AV} {H1 : List (Nat × Option ABlk)} {e : Exit} (hr : fn.results = #[.tmp t]) (he : e = .ret ∨ e = .normal) (hv : lk st.T t = some v') (hvv : v' = v) (hH : HSub (hget st.H) H1) : RetOk P fn nt v H1 e st := by
  subst hvv; exact ret1 hr he hv hH.spec
theorem ret2v {fn : Func} {t u : Tmp} {v1 v2 v1' v2' : AV} {H1 : List (Nat × Option ABlk)} {e : Exit} (hr : fn.results = #[.tmp t, .tmp u]) (he : e = .ret ∨ e = .normal) (hv : lk st.T t = some v1') (hu : lk st.T u = some v2') (h1 : v1' = v1) (h2 : v2' = v2) (hH : HSub (hget st.H) H1) : RetOk P fn nt (.tup [v1, v2]) H1 e st := by
  subst h1; subst h2; exact ret2 hr he hv hu hH.spec
theorem EvL.conv {st' : St} (h : st = st') (h2 : EvL P nt ops rest st' q) : EvL P nt ops rest st q := h ▸ h2
theorem Ev.conv {c : Code} {st' : St} (h : st = st') (h2 : Ev P nt c st' post) : Ev P nt c st post := h ▸ h2
end
end Go.Proofs.YtaenhghihhhikaaDoor
