/-
  Texts of this claim.
-/
import Derived.Test.YtpmambceojbkaaaDoorGX5S
import Derived.Test.YtpmambceojbkaaaDoorGKS
namespace Go.Proofs.YtpmambceojbkaaaDoor
open Go.RowKit
theorem findY2 (a b c ep : Int) {M : List (Ls × Nat)} {ck : Nat} {L : List Ls} (h : MI M ck L) {x : Ls} (hx : x ∈ L) {t al : List UInt8} (h1 : x.t = t) (h2 : x.a = al)  : Meets Tryd.prog 20 [.ptr 500 0, .str t, .str al] [(500, some ⟨.agg [.i64 a, .i64 b, .i64 c, .mp 501, .i64 ep], 68, false⟩), (501, some ⟨mpV (M) (ck), 0, false⟩)] (.tup [lsV x, .val .nilIface]) [] := by
  subst h1; subst h2
  exact findY_ev a b c ep h hx
theorem cancelY2 (a b c ep : Int) {M : List (Ls × Nat)} {ck : Nat} {L : List Ls} (h : MI M ck L) {x : Ls} (hx : x ∈ L) {t al : List UInt8} (h1 : x.t = t) (h2 : x.a = al) (w : Int) (hw : x.o = w) : Meets Tryd.prog 21 [.ptr 500 0, .str t, .str al, .i64 w] [(500, some ⟨.agg [.i64 a, .i64 b, .i64 c, .mp 501, .i64 ep], 68, false⟩), (501, some ⟨mpV (M) (ck), 0, true⟩)] (.tup [lsV x, .val .nilIface]) [(501, some ⟨mpV (delM M x) (ck), 0, true⟩)] := by
  subst h1; subst h2
  exact cancelY_ev a b c ep h hx w hw
theorem cancelO2 (a b c ep : Int) {M : List (Ls × Nat)} {ck : Nat} {L : List Ls} (h : MI M ck L) {x : Ls} (hx : x ∈ L) {t al : List UInt8} (h1 : x.t = t) (h2 : x.a = al) (w : Int) (hw : x.o ≠ w) (eo : Nat → Nat × Nat) : Meets Tryd.prog 21 [.ptr 500 0, .str t, .str al, .i64 w] [(500, some ⟨.agg [.i64 a, .i64 b, .i64 c, .mp 501, .i64 ep], 68, false⟩), (501, some ⟨mpV (M) (ck), 0, false⟩), (2, some ⟨.agg [.err 155 (8) (offE eo (8))], errT, false⟩)] (.tup [.agg [.str [], .str [], .i64 0, .i64 0, .i64 0], .err 155 (8) (offE eo (8))]) [] := by
  subst h1; subst h2
  exact cancelO_ev a b c ep h hx w hw eo
theorem takeH2 (a b c ep : Int) {M : List (Ls × Nat)} {ck : Nat} {L : List Ls} (h : MI M ck L) {x : Ls} (hx : x ∈ L) {t al : List UInt8} (h1 : x.t = t) (h2 : x.a = al) (w now : Int) (hvt : nameN t = true) (hva : nameN al = true) (hw : x.o = w) (eo : Nat → Nat × Nat) : Meets Tryd.prog 19 [.ptr 500 0, .str t, .str al, .i64 w, .i64 now] [(500, some ⟨.agg [.i64 a, .i64 b, .i64 c, .mp 501, .i64 ep], 68, false⟩), (501, some ⟨mpV (M) (ck), 0, false⟩), (1, some ⟨.agg [.err 155 (9) (offE eo (9))], errT, false⟩)] (.tup [.agg [.str [], .str [], .i64 0, .i64 0, .i64 0], .i64 (-1), .err 155 (9) (offE eo (9))]) [] := by
  subst h1; subst h2
  exact takeH_ev a b c ep h hx w now hvt hva hw eo
theorem takeO2 (a b c ep : Int) {M : List (Ls × Nat)} {ck : Nat} {L : List Ls} (h : MI M ck L) {x : Ls} (hx : x ∈ L) {t al : List UInt8} (h1 : x.t = t) (h2 : x.a = al) (w now : Int) (hvt : nameN t = true) (hva : nameN al = true) (hw : x.o ≠ w) (hep : 0 ≤ ep ∧ ep ≤ 1000000000)  : Meets Tryd.prog 19 [.ptr 500 0, .str t, .str al, .i64 w, .i64 now] [(500, some ⟨.agg [.i64 a, .i64 b, .i64 c, .mp 501, .i64 ep], 68, true⟩), (501, some ⟨mpV (M) (ck), 0, true⟩)] (.tup [lsV ⟨t, al, w, ep + 1, tickV now⟩, .i64 x.o, .val .nilIface]) [(500, some ⟨.agg [.i64 a, .i64 b, .i64 c, .mp 501, .i64 (ep + 1)], 68, true⟩), (501, some ⟨mpV (putM M ck ⟨t, al, w, ep + 1, tickV now⟩).1 (putM M ck ⟨t, al, w, ep + 1, tickV now⟩).2, 0, true⟩)] := by
  subst h1; subst h2
  exact takeO_ev a b c ep h hx w now hvt hva hw hep
end Go.Proofs.YtpmambceojbkaaaDoor
