import PyProof.Rows.All
import Wide.All
import OpenK.AllK
import Wide.FinOn
import HandS.ForMost
import HandS.Flow
import HandS.Small
import HandS.SetKeys
import HandS.Zip
import HandS.Style
import HandS.More
import HandS.Deep
import PySem.Challenge.RW_leastneeds_k02_terms_and_places
import KE.KDictZip
import HandS.ListItems
import HandS.DictComp
import PyProof.ReprLen
import PyProof.StrLawsRepr
import HandS.Dict
import PyProof.EqKinds
import HandS.IsInst
import HandS.StrMore
import HandS.HeadHook3
import HandS.Steps
import HandS.Walk
import HandS.Rev
import HandS.Star
import KE.GoesEnum
import KE.GoesMore
import HandS.Iter
import PyProof.NeKinds
import HandS.TupAny
import HandS.Strs
import HandS.ExcInit
import HandS.ExcField
import KE.KExcInit
import KE.KExcIs
import HandS.ExcValue
import HandS.Exc
import HandS.WordsExc
import HandS.SetTxt0
import HandS.Set
import HandS.List
import HandS.Call
import PyProof.Rows.SortShellAny
import PyProof.Rows.SortStr
import HandS.SetFor
import HandS.TupSets
import PyProof.Rows.SetFrom
import HandS.SetBool
import HandS.Comp
import PyProof.Rows.InDataRows
import KE.GoesZip
import HandS.RevTup
import PyProof.Rows.StrMeet
import HandS.GenYield
import HandS.GenList
import HandS.GenCall
import PyProof.SumWalkG
import PyProof.WalkInts
import PyProof.CallFns
import HandS.ExcIs
import HandS.Lambda
import HandS.TupMul
import PyProof.StrOps2
import KE.KDictList
import HandS.TupLe
import KE.KExcLine
set_option Elab.async false
set_option linter.all false
set_option maxRecDepth 100000
set_option maxHeartbeats 4000000
namespace L3
open PySem L2
/-! ### a def that is known by its name -/
section
variable {P : Program} {w : World} {K : PySem.W.Frag} {mg : Str → Option Value} {base : Heap}
structure Kn (P : Program) (w : World) (K : PySem.W.Frag) (mg : Str → Option Value) (base : Heap) (k : Nat) (x : Str) (ps : List Str) (sp : Sp) : Prop where
  ex : ∃ (f : Addr) (fd : FuncData), FnOk P w K mg base CX0 k f fd ps sp ∧ mg x = some (.ref f) ∧ PySem.W.keepIn K (.ref f) = true ∧ Binds K fd ps []
end
section
variable {X : Cx} {x : Str} {k : Nat} {ps : List Str} {sp : Sp} {e : Expr} {es : List Expr} {t : TA} {p pos : Pos}
theorem pe_kn (D : Kn X.prog X.w X.K X.mg X.base k x ps sp) (hr : Room k X.A) (ha : PA X (e :: es) t) (hg : Gl X x := by rfl) (hdb : (x == ("__debug__" : Str)) = false := by decide)
    (he : starEach (e :: es) X.env = (false, eval e X.env) :: starEach es X.env := by rfl) (hpl : (backTo pos (starEach es X.env)).any (·.1) = false := by rfl) :
    PE X (.Call (.Name x p) (e :: es) [] pos) (tCall sp [] E0 t) := by
  obtain ⟨f, fd, F, hm, hk, hb⟩ := D.ex
  exact pe_call F hr hg hm hk hb .nil pass0 ha hdb he hpl
theorem pe_kn0 (D : Kn X.prog X.w X.K X.mg X.base k x ps sp) (hr : Room k X.A) (hg : Gl X x := by rfl) (hdb : (x == ("__debug__" : Str)) = false := by decide) :
    PE X (.Call (.Name x p) [] [] pos) (tCall sp [] E0 tNil) := by
  obtain ⟨f, fd, F, hm, hk, hb⟩ := D.ex
  exact pe_call0 F hr hg hm hk hb .nil pass0 hdb
end
/-- built-in names that the text leaves alone -/
structure Bl (mg : Str → Option Value) : Prop where
  len : mg "len" = none
  int : mg "int" = none
  list : mg "list" = none
  tuple : mg "tuple" = none
  dict : mg "dict" = none
  repr : mg "repr" = none
  range : mg "range" = none
  zip : mg "zip" = none
  sorted : mg "sorted" = none

/-! ### the tape -/
/-- all but the object at t is kept -/
def Ext (t : Addr) (H H' : Hp) : Prop := ∀ b o, b ≠ t → H b = some o → H' b = some o
theorem Ext.refl (t : Addr) (H : Hp) : Ext t H H := fun _ _ _ h => h
theorem Ext.trans {t : Addr} {H H1 H2 : Hp} (a : Ext t H H1) (b : Ext t H1 H2) : Ext t H H2 := fun c o n h => b c o n (a c o n h)
theorem Ext.new {t p : Addr} {H : Hp} {o : HO} (h : H p = none) : Ext t H (upd H p o) := fun b u _ e => by
  rw [upd_ne (ne_of_none e h)]
  exact e
theorem Ext.put {t : Addr} {H : Hp} {o : HO} : Ext t H (upd H t o) := fun b u n e => by
  rw [upd_ne n]
  exact e
theorem same_ext {t : Addr} {H H' : Hp} (h : Same H H') : Ext t H H' := fun b o _ e => h b o e
theorem same_new {p : Addr} {H : Hp} {o : HO} (h : H p = none) : Same H (upd H p o) := fun b u e => by
  rw [upd_ne (ne_of_none e h)]
  exact e
def tp (c : Addr) (p l : Int) : List (Key × V) := [(.inr "cells", .ref c), (.inr "place", .int p), (.inr "left", .int l)]
theorem tp_cells (c : Addr) (p l : Int) : valV (tp c p l) (.inr "cells") = some (.ref c) := by rfl
theorem tp_place (c : Addr) (p l : Int) : valV (tp c p l) (.inr "place") = some (.int p) := by rfl
theorem tp_left (c : Addr) (p l : Int) : valV (tp c p l) (.inr "left") = some (.int l) := by rfl
theorem tp_putP (c : Addr) (p l q : Int) : putK (tp c p l) (.inr "place") (.int q) = tp c q l := by rfl
theorem tp_putL (c : Addr) (p l q : Int) : putK (tp c p l) (.inr "left") (.int q) = tp c p q := by rfl
/-- at t a tape stands, its cells at c, from which b more cells may be taken -/
def Tape (K : PySem.W.Frag) (H : Hp) (t c : Addr) (b : Nat) : Prop :=
  ∃ (p l : Int) (ns : List Int), H t = some (.dK (tp c p l)) ∧ SqL K H c (ns.map V.int) ∧ c ≠ t ∧ 0 < ns.length ∧ ns.length ≤ 63 ∧ 0 ≤ p ∧ p + b ≤ 1000000 ∧ 0 ≤ l
theorem Tape.less {K : PySem.W.Frag} {H : Hp} {t c : Addr} {b b' : Nat} (h : Tape K H t c b) (hb : b' ≤ b) : Tape K H t c b' := by
  obtain ⟨p, l, ns, h1, h2, h3, h4, h5, h6, h7, h8⟩ := h
  exact ⟨p, l, ns, h1, h2, h3, h4, h5, h6, by omega, h8⟩
theorem SqL.same {K : PySem.W.Frag} {H H' : Hp} {a : Addr} {xs : List V} (h : SqL K H a xs) (k : ∀ o, H a = some o → H' a = some o) : SqL K H' a xs := by
  rcases h with (h | ⟨o, h⟩) | h
  · exact .inl (.inl (k _ h))
  · exact .inl (.inr ⟨o, k _ h⟩)
  · exact .inr h
theorem SqL.ext {K : PySem.W.Frag} {t : Addr} {H H' : Hp} {a : Addr} {xs : List V} (h : SqL K H a xs) (e : Ext t H H') (n : a ≠ t) : SqL K H' a xs := SqL.same h fun o q => e a o n q
/-- the tape is untouched -/
theorem Tape.same {K : PySem.W.Frag} {H H' : Hp} {t c : Addr} {b : Nat} (h : Tape K H t c b) (k : Same H H') : Tape K H' t c b := by
  obtain ⟨p, l, ns, h1, h2, h3, h4, h5, h6, h7, h8⟩ := h
  exact ⟨p, l, ns, k _ _ h1, k.seq h2, h3, h4, h5, h6, h7, h8⟩
theorem Tape.new {K : PySem.W.Frag} {H : Hp} {t c : Addr} {b : Nat} {q : Addr} {o : HO} (h : Tape K H t c b) (n : H q = none) : Tape K (upd H q o) t c b := h.same (same_new n)
theorem Tape.dict {K : PySem.W.Frag} {H : Hp} {t c : Addr} {b : Nat} (h : Tape K H t c b) : ∃ kvs, H t = some (.dK kvs) := by
  obtain ⟨p, l, ns, h1, _⟩ := h
  exact ⟨_, h1⟩
theorem Tape.ne {K : PySem.W.Frag} {H : Hp} {t c : Addr} {b : Nat} (h : Tape K H t c b) {l : Addr} (n : H l = none) : l ≠ t := fun e => by
  obtain ⟨kvs, q⟩ := h.dict
  rw [e, q] at n
  cases n
theorem Ext.free {t : Addr} {H H' : Hp} (e : Ext t H H') {l : Addr} (n : l ≠ t) (h : H' l = none) : H l = none := by
  cases q : H l with
  | none => rfl
  | some o =>
    rw [e l o n q] at h
    cases h
/-- an object D that was not there at H0 is stored into -/
theorem Tape.put {K : PySem.W.Frag} {H0 H : Hp} {t c : Addr} {b0 b : Nat} {D : Addr} {o : HO} (h0 : Tape K H0 t c b0) (e : Ext t H0 H) (h : Tape K H t c b) (n : H0 D = none) : Tape K (upd H D o) t c b := by
  have nt : t ≠ D := (h0.ne n).symm
  obtain ⟨_, _, ns, _, g2, g3, g4, g5, _⟩ := h0
  obtain ⟨p, l, _, h1, _, _, _, _, h6, h7, h8⟩ := h
  refine ⟨p, l, ns, by rw [upd_ne nt]; exact h1, SqL.same g2 fun u q => ?_, g3, g4, g5, h6, h7, h8⟩
  rw [upd_ne (ne_of_none q n)]
  exact e _ _ g3 q
theorem Ext.upd {t : Addr} {H0 H : Hp} {D : Addr} {o : HO} (e : Ext t H0 H) (n : H0 D = none) : Ext t H0 (upd H D o) := fun q u h1 h2 => by
  rw [upd_ne (ne_of_none h2 n)]
  exact e q u h1 h2
end L3

namespace L3
open PySem L2
theorem slz {n : Nat} (h : Nat.ble n 1000 = true) : n ≤ sizeLine := Nat.le_of_lt (small1000 (Nat.le_of_ble_eq_true h))
theorem iT {c : Bool} {A B : Prop} (h : c = true) (a : A) : if c = true then A else B := by
  rw [if_pos h]
  exact a
theorem iF {c : Bool} {A B : Prop} (h : c = false) (b : B) : if c = true then A else B := by
  rw [h]
  exact iteF b
theorem tg_aa : decide (V.str ("apply" : Str) = V.str ("apply" : Str)) = true := decide_eq_true rfl
theorem tg_va : decide (V.str ("var" : Str) = V.str ("apply" : Str)) = false := by decide +kernel
theorem tg_ca : decide (V.str ("con" : Str) = V.str ("apply" : Str)) = false := by decide +kernel
theorem tg_vv : decide (V.str ("var" : Str) = V.str ("var" : Str)) = true := decide_eq_true rfl
theorem tg_cv : decide (V.str ("con" : Str) = V.str ("var" : Str)) = false := by decide +kernel
theorem tg_av : decide (V.str ("apply" : Str) = V.str ("var" : Str)) = false := by decide +kernel
theorem tg_ac : decide (V.str ("apply" : Str) = V.str ("con" : Str)) = false := by decide +kernel
theorem tg_vc : decide (V.str ("var" : Str) = V.str ("con" : Str)) = false := by decide +kernel
theorem tg_cc : decide (V.str ("con" : Str) = V.str ("con" : Str)) = true := decide_eq_true rfl
/-! ### kinds -/
inductive Kd where
  | var (x : Str) | con (x : Str) | app (a b : Kd)
  deriving DecidableEq
def Kd.tag : Kd → Str
  | .var _ => "var" | .con _ => "con" | .app _ _ => "apply"
/-- a word of 1 to 8 letters from a to z -/
def Wok (x : Str) : Prop := 1 ≤ x.length ∧ x.length ≤ 8 ∧ ∀ c ∈ x.cps.toList, 97 ≤ c ∧ c ≤ 122
/-- at most n deep, of words -/
def Kd.fit : Nat → Kd → Prop
  | _, .var x => Wok x
  | _, .con x => Wok x
  | 0, .app _ _ => False
  | n + 1, .app a b => Kd.fit n a ∧ Kd.fit n b
theorem Kd.fit_mono : ∀ {k : Kd} {n m : Nat}, n ≤ m → Kd.fit n k → Kd.fit m k
  | .var _, n, m, _, h => by cases n <;> cases m <;> exact h
  | .con _, n, m, _, h => by cases n <;> cases m <;> exact h
  | .app a b, 0, _, _, h => h.elim
  | .app a b, n + 1, 0, e, _ => absurd e (by omega)
  | .app a b, n + 1, m + 1, e, h => ⟨Kd.fit_mono (by omega) h.1, Kd.fit_mono (by omega) h.2⟩
theorem Kd.fit_app {n : Nat} {a b : Kd} (h : Kd.fit n (.app a b)) : ∃ m, n = m + 1 ∧ Kd.fit m a ∧ Kd.fit m b := by
  cases n with
  | zero => exact h.elim
  | succ m => exact ⟨m, rfl, h.1, h.2⟩
def KdAt (H : Hp) : V → Kd → Prop
  | v, .var x => ∃ a, v = .ref a ∧ H a = some (.tup [.str "var", .str x])
  | v, .con x => ∃ a, v = .ref a ∧ H a = some (.tup [.str "con", .str x])
  | v, .app k l => ∃ a u z, v = .ref a ∧ H a = some (.tup [.str "apply", u, z]) ∧ KdAt H u k ∧ KdAt H z l
/-- tuples stay -/
def Tups (H H' : Hp) : Prop := ∀ b xs, H b = some (.tup xs) → H' b = some (.tup xs)
theorem same_tups {H H' : Hp} (h : Same H H') : Tups H H' := fun b xs e => h b _ e
theorem Tups.trans {H H1 H2 : Hp} (a : Tups H H1) (b : Tups H1 H2) : Tups H H2 := fun c xs e => b c xs (a c xs e)
theorem Tups.put {H : Hp} {d : Addr} {o u : HO} (h : H d = some o) (n : ∀ xs, o ≠ .tup xs) : Tups H (upd H d u) := fun b xs e => by
  rw [upd_ne (fun q => by rw [q, h] at e; exact n xs (Option.some.inj e))]
  exact e
theorem Tups.new {H : Hp} {d : Addr} {u : HO} (h : H d = none) : Tups H (upd H d u) := same_tups (same_new h)
theorem Ext.tups {K : PySem.W.Frag} {t c : Addr} {b : Nat} {H H' : Hp} (e : Ext t H H') (h : Tape K H t c b) : Tups H H' := fun q xs z => by
  obtain ⟨kvs, hk⟩ := h.dict
  exact e q _ (ne_of z hk (by intro r; cases r)) z
theorem KdAt.tups {H H' : Hp} (h : Tups H H') : ∀ {k : Kd} {v : V}, KdAt H v k → KdAt H' v k
  | .var _, _, ⟨a, e, q⟩ => ⟨a, e, h _ _ q⟩
  | .con _, _, ⟨a, e, q⟩ => ⟨a, e, h _ _ q⟩
  | .app _ _, _, ⟨a, u, z, e, q, h1, h2⟩ => ⟨a, u, z, e, h _ _ q, KdAt.tups h h1, KdAt.tups h h2⟩
/-- the tuple of a kind, and its first item -/
theorem KdAt.top {H : Hp} : ∀ {k : Kd} {v : V}, KdAt H v k → ∃ a xs, v = .ref a ∧ H a = some (.tup xs) ∧ xs[0]? = some (.str k.tag)
  | .var _, _, ⟨a, e, q⟩ => ⟨a, _, e, q, rfl⟩
  | .con _, _, ⟨a, e, q⟩ => ⟨a, _, e, q, rfl⟩
  | .app _ _, _, ⟨a, u, z, e, q, _⟩ => ⟨a, _, e, q, rfl⟩
def Kd.dat : Kd → PyData
  | .var x => .tuple [.str "var", .str x]
  | .con x => .tuple [.str "con", .str x]
  | .app a b => .tuple [.str "apply", a.dat, b.dat]
theorem KdAt.dp {K : PySem.W.Frag} {H : Hp} : ∀ {k : Kd} {v : V}, KdAt H v k → Dp K H v k.dat
  | .var x, _, ⟨a, e, q⟩ => by subst e; exact .tup (SqT.of q) (.cons (.str _) (.cons (.str _) .nil))
  | .con x, _, ⟨a, e, q⟩ => by subst e; exact .tup (SqT.of q) (.cons (.str _) (.cons (.str _) .nil))
  | .app _ _, _, ⟨a, u, z, e, q, h1, h2⟩ => by subst e; exact .tup (SqT.of q) (.cons (.str _) (.cons h1.dp (.cons h2.dp .nil)))
theorem ne_vc : ¬ (("var" : Str) = "con") := by decide +kernel
theorem ne_cv : ¬ (("con" : Str) = "var") := by decide +kernel
theorem ne_va : ¬ (("var" : Str) = "apply") := by decide +kernel
theorem ne_av : ¬ (("apply" : Str) = "var") := by decide +kernel
theorem ne_ca : ¬ (("con" : Str) = "apply") := by decide +kernel
theorem ne_ac : ¬ (("apply" : Str) = "con") := by decide +kernel
theorem str_beq (x y : Str) : (x == y) = decide (x = y) := by
  rw [Bool.eq_iff_iff]
  simp
theorem eqv_tt (xs ys : List PyData) : PyData.eqv (.tuple xs) (.tuple ys) = PyData.eqvAll xs ys := by rw [PyData.eqv]
theorem eqv_cc (x y : PyData) (xs ys : List PyData) : PyData.eqvAll (x :: xs) (y :: ys) = (PyData.eqv x y && PyData.eqvAll xs ys) := by rw [PyData.eqvAll]
theorem eqv_nn : PyData.eqvAll [] [] = true := by rw [PyData.eqvAll]
theorem eqv_nc (y : PyData) (ys : List PyData) : PyData.eqvAll [] (y :: ys) = false := by rw [PyData.eqvAll]
theorem eqv_cn (y : PyData) (ys : List PyData) : PyData.eqvAll (y :: ys) [] = false := by rw [PyData.eqvAll]
theorem eqv_ss (x y : Str) : PyData.eqv (.str x) (.str y) = decide (x = y) := by rw [PyData.eqv]; exact str_beq x y
theorem Kd.eqv (a b : Kd) : PyData.eqv a.dat b.dat = decide (a = b) := by
  induction a generalizing b with
  | var x =>
    cases b with
    | var y => simp only [Kd.dat, eqv_tt, eqv_cc, eqv_ss, eqv_nn, decide_true, Bool.true_and, Bool.and_true, Kd.var.injEq]
    | con y => simp only [Kd.dat, eqv_tt, eqv_cc, eqv_ss, decide_eq_false ne_vc, Bool.false_and, reduceCtorEq, decide_false]
    | app c d => simp only [Kd.dat, eqv_tt, eqv_cc, eqv_ss, decide_eq_false ne_va, Bool.false_and, reduceCtorEq, decide_false]
  | con x =>
    cases b with
    | con y => simp only [Kd.dat, eqv_tt, eqv_cc, eqv_ss, eqv_nn, decide_true, Bool.true_and, Bool.and_true, Kd.con.injEq]
    | var y => simp only [Kd.dat, eqv_tt, eqv_cc, eqv_ss, decide_eq_false ne_cv, Bool.false_and, reduceCtorEq, decide_false]
    | app c d => simp only [Kd.dat, eqv_tt, eqv_cc, eqv_ss, decide_eq_false ne_ca, Bool.false_and, reduceCtorEq, decide_false]
  | app a1 a2 h1 h2 =>
    cases b with
    | var y => simp only [Kd.dat, eqv_tt, eqv_cc, eqv_ss, decide_eq_false ne_av, Bool.false_and, reduceCtorEq, decide_false]
    | con y => simp only [Kd.dat, eqv_tt, eqv_cc, eqv_ss, decide_eq_false ne_ac, Bool.false_and, reduceCtorEq, decide_false]
    | app c d =>
      simp only [Kd.dat, eqv_tt, eqv_cc, eqv_ss, eqv_nn, h1, h2, decide_true, Bool.true_and, Bool.and_true, Kd.app.injEq, Bool.decide_and]
theorem SqL.extT {K : PySem.W.Frag} {t c : Addr} {b : Nat} {H H' : Hp} {a : Addr} {xs : List V} (h : SqL K H a xs) (hT : Tape K H t c b) (e : Ext t H H') : SqL K H' a xs := by
  obtain ⟨kvs, hk⟩ := hT.dict
  rcases h with (h | ⟨o, h⟩) | h
  · exact .inl (.inl (e _ _ (ne_of h hk (by intro r; cases r)) h))
  · exact .inl (.inr ⟨o, e _ _ (ne_of h hk (by intro r; cases r)) h⟩)
  · exact .inr h
theorem Wok.str {x : Str} (h : Wok x) : PyData.strOk x = true := by
  unfold PyData.strOk
  rw [Array.all_eq_true']
  intro c hc
  have := h.2.2 c (by simpa using hc)
  exact decide_eq_true (by omega)
theorem Kd.lay : ∀ {k : Kd} {n : Nat}, Kd.fit n k → k.dat.canLay0 = true ∧ k.dat.depth ≤ n + 1
  | .var x, n, h => by
    have w : Wok x := by cases n <;> exact h
    refine ⟨?_, ?_⟩
    · simp only [Kd.dat, PyData.canLay0, PyData.canLayAll0, w.str, Bool.and_true]
      decide +kernel
    · simp [Kd.dat, PyData.depth, PyData.depthAll]
  | .con x, n, h => by
    have w : Wok x := by cases n <;> exact h
    refine ⟨?_, ?_⟩
    · simp only [Kd.dat, PyData.canLay0, PyData.canLayAll0, w.str, Bool.and_true]
      decide +kernel
    · simp [Kd.dat, PyData.depth, PyData.depthAll]
  | .app a b, n, h => by
    obtain ⟨m, rfl, h1, h2⟩ := Kd.fit_app h
    obtain ⟨a1, a2⟩ := Kd.lay h1
    obtain ⟨b1, b2⟩ := Kd.lay h2
    refine ⟨?_, ?_⟩
    · simp only [Kd.dat, PyData.canLay0, PyData.canLayAll0, a1, b1, Bool.and_true]
      decide +kernel
    · simp only [Kd.dat, PyData.depth, PyData.depthAll]
      omega
theorem Kd.shaped {k : Kd} {n : Nat} (h : Kd.fit n k) (hn : n ≤ 60) : SeqAt.shaped k.dat = true := by
  obtain ⟨h1, h2⟩ := Kd.lay h
  unfold SeqAt.shaped
  rw [h1, Bool.true_and]
  exact decide_eq_true (by omega)
/-- a list of words -/
theorem dp_words {K : PySem.W.Frag} {H : Hp} : ∀ ws : List Str, DpAll K H (ws.map V.str) (ws.map PyData.str)
  | [] => .nil
  | _ :: r => .cons (.str _) (dp_words r)
theorem lay_words : ∀ {ws : List Str}, (∀ x ∈ ws, Wok x) → PyData.canLayAll0 (ws.map PyData.str) = true ∧ PyData.depthAll (ws.map PyData.str) = 0
  | [], _ => ⟨by simp [PyData.canLayAll0], by simp [PyData.depthAll]⟩
  | x :: r, h => by
    obtain ⟨h1, h2⟩ := lay_words (ws := r) fun y hy => h y (List.mem_cons_of_mem _ hy)
    refine ⟨?_, ?_⟩
    · simp only [List.map_cons, PyData.canLayAll0, PyData.canLay0, (h x List.mem_cons_self).str, h1, Bool.true_and]
    · simp only [List.map_cons, PyData.depthAll, PyData.depth, h2]; rfl
theorem shaped_words {ws : List Str} (h : ∀ x ∈ ws, Wok x) : SeqAt.shaped (.list (ws.map PyData.str)) = true := by
  obtain ⟨h1, h2⟩ := lay_words h
  unfold SeqAt.shaped
  simp only [PyData.canLay0, h1, PyData.depth, h2]
  decide
theorem shaped_nil : SeqAt.shaped (.list []) = true := by decide
/-! ### rows of kinds, dicts of kinds -/
abbrev KdsAt (H : Hp) : List V → List Kd → Prop := Paired (KdAt H)
theorem paired_get {α β : Type} {F : α → β → Prop} : ∀ {xs : List α} {ys : List β} {i : Nat} {x : α}, Paired F xs ys → xs[i]? = some x → ∃ y, ys[i]? = some y ∧ F x y
  | _, _, _, _, .nil, e => by simp at e
  | _, _, 0, _, .cons r _, e => by simp at e; subst e; exact ⟨_, rfl, r⟩
  | _, _, i + 1, x, .cons _ t, e => by
    obtain ⟨y, h1, h2⟩ := paired_get (i := i) (x := x) t (by simpa using e)
    exact ⟨y, by simpa using h1, h2⟩
theorem paired_map {α β : Type} {F G : α → β → Prop} (h : ∀ a b, F a b → G a b) : ∀ {xs : List α} {ys : List β}, Paired F xs ys → Paired G xs ys
  | _, _, .nil => .nil
  | _, _, .cons r t => .cons (h _ _ r) (paired_map h t)
theorem KdsAt.tups {H H' : Hp} (h : Tups H H') {xs : List V} {ks : List Kd} (r : KdsAt H xs ks) : KdsAt H' xs ks := paired_map (fun _ _ q => KdAt.tups h q) r
theorem KdsAt.dp {K : PySem.W.Frag} {H : Hp} : ∀ {xs : List V} {ks : List Kd}, KdsAt H xs ks → DpAll K H xs (ks.map Kd.dat)
  | _, _, .nil => .nil
  | _, _, .cons r t => .cons r.dp (KdsAt.dp t)
abbrev By := List (Str × Kd)
def lk (by' : By) (x : Str) : Option Kd := (by'.find? fun p => decide (p.1 = x)).map (·.2)
theorem lk_nil (x : Str) : lk [] x = none := rfl
theorem lk_pos {p : Str × Kd} {r : By} {x : Str} (e : p.1 = x) : lk (p :: r) x = some p.2 := by simp [lk, List.find?_cons, e]
theorem lk_neg {p : Str × Kd} {r : By} {x : Str} (e : ¬ p.1 = x) : lk (p :: r) x = lk r x := by simp [lk, List.find?_cons, e]
abbrev ByAt (H : Hp) : List (Key × V) → By → Prop := Paired fun p q => p.1 = .inr q.1 ∧ KdAt H p.2 q.2
theorem ByAt.tups {H H' : Hp} (h : Tups H H') {kvs : List (Key × V)} {by' : By} (r : ByAt H kvs by') : ByAt H' kvs by' := paired_map (fun _ _ q => ⟨q.1, KdAt.tups h q.2⟩) r
theorem ByAt.get {H : Hp} (x : Str) : ∀ {kvs : List (Key × V)} {by' : By}, ByAt H kvs by' → (valV kvs (.inr x) = none ∧ lk by' x = none) ∨ ∃ v k, valV kvs (.inr x) = some v ∧ lk by' x = some k ∧ KdAt H v k
  | _, _, .nil => .inl ⟨rfl, rfl⟩
  | p :: kvs, q :: by', .cons r t => by
    by_cases e : q.1 = x
    · exact .inr ⟨p.2, q.2, valV_pos (by rw [r.1, e]), lk_pos e, r.2⟩
    · have e' : ¬ p.1 = (.inr x : Key) := by
        rw [r.1]
        intro z
        exact e (Sum.inr.inj z)
      rw [valV_neg e', lk_neg e]
      exact ByAt.get x t
def Kd.put (by' : By) : Kd → Kd
  | .var x => (lk by' x).getD (.var x)
  | .con x => .con x
  | .app a b => .app (a.put by') (b.put by')
def conK (x : Str) (ks : List Kd) : Kd := ks.foldl Kd.app (.con x)
theorem conK_snoc (x : Str) (ks : List Kd) (k : Kd) : conK x (ks ++ [k]) = .app (conK x ks) k := by
  unfold conK
  rw [List.foldl_append]
  rfl
theorem Kd.fit_put {by' : By} {m : Nat} (hb : ∀ x k, lk by' x = some k → Kd.fit m k) : ∀ {k : Kd} {n : Nat}, Kd.fit n k → Kd.fit (n + m) (k.put by')
  | .var x, n, h => by
    have w : Wok x := by cases n <;> exact h
    show Kd.fit (n + m) ((lk by' x).getD (.var x))
    cases e : lk by' x with
    | none =>
      show Kd.fit (n + m) (.var x)
      generalize n + m = j
      cases j <;> exact w
    | some k => exact Kd.fit_mono (by omega) (hb x k e)
  | .con x, n, h => by
    have w : Wok x := by cases n <;> exact h
    show Kd.fit (n + m) (.con x)
    generalize n + m = j
    cases j <;> exact w
  | .app a b, n, h => by
    obtain ⟨j, rfl, h1, h2⟩ := Kd.fit_app h
    show Kd.fit (j + 1 + m) (.app (a.put by') (b.put by'))
    rw [show j + 1 + m = j + m + 1 by omega]
    exact ⟨Kd.fit_put hb h1, Kd.fit_put hb h2⟩
theorem fitV {n : Nat} {x : Str} (w : Wok x) : Kd.fit n (.var x) := by cases n <;> exact w
theorem fitC {n : Nat} {x : Str} (w : Wok x) : Kd.fit n (.con x) := by cases n <;> exact w
theorem wok_of_var {n : Nat} {x : Str} (h : Kd.fit n (.var x)) : Wok x := by cases n <;> exact h
theorem wok_of_con {n : Nat} {x : Str} (h : Kd.fit n (.con x)) : Wok x := by cases n <;> exact h
theorem fit_fold {j : Nat} : ∀ {ks : List Kd} {h : Kd} {i : Nat}, Kd.fit i h → (∀ k ∈ ks, Kd.fit j k) → j ≤ i → Kd.fit (i + ks.length) (ks.foldl Kd.app h)
  | [], h, i, h1, _, _ => h1
  | k :: r, h, i, h1, h2, h3 => by
    have q : Kd.fit (i + 1) (.app h k) := ⟨h1, Kd.fit_mono h3 (h2 k List.mem_cons_self)⟩
    have z := fit_fold (ks := r) q (fun y hy => h2 y (List.mem_cons_of_mem _ hy)) (by omega)
    rw [List.length_cons, show i + (r.length + 1) = i + 1 + r.length by omega]
    exact z
theorem fit_conK {j : Nat} {x : Str} {ks : List Kd} (w : Wok x) (h : ∀ k ∈ ks, Kd.fit j k) : Kd.fit (j + ks.length) (conK x ks) := fit_fold (fitC w) h (Nat.le_refl _)
theorem eqv_ll (xs ys : List PyData) : PyData.eqv (.list xs) (.list ys) = PyData.eqvAll xs ys := by rw [PyData.eqv]
theorem words_ne {ws : List Str} : (!PyData.eqv (.list (ws.map PyData.str)) (.list [])) = !ws.isEmpty := by
  rw [eqv_ll]
  cases ws with
  | nil => rw [List.map_nil, eqv_nn]; rfl
  | cons x r => rw [List.map_cons, eqv_cn]; rfl
/-- rows (word, how many parts) -/
def ConsAt (K : PySem.W.Frag) (H : Hp) (l : Addr) : Prop := ∃ xs, SqL K H l xs ∧ 0 < xs.length ∧ xs.length < 1000 ∧ ∀ v ∈ xs, ∃ (a : Addr) (x : Str) (m : Nat), v = .ref a ∧ H a = some (.tup [.str x, .int (m : Int)]) ∧ m ≤ 2 ∧ Wok x
theorem ConsAt.ext {K : PySem.W.Frag} {t c : Addr} {b : Nat} {H H' : Hp} {l : Addr} (h : ConsAt K H l) (hT : Tape K H t c b) (e : Ext t H H') : ConsAt K H' l := by
  obtain ⟨xs, h1, h2, h3, h4⟩ := h
  refine ⟨xs, SqL.extT h1 hT e, h2, h3, fun v hv => ?_⟩
  obtain ⟨a, x, m, e1, e2, e3, e4⟩ := h4 v hv
  exact ⟨a, x, m, e1, Ext.tups e hT _ _ e2, e3, e4⟩
/-- the variables of kinds are among some words -/
def Kd.of (ws : List Str) : Kd → Prop
  | .var x => x ∈ ws
  | .con _ => True
  | .app a b => Kd.of ws a ∧ Kd.of ws b
theorem of_fold {ws : List Str} : ∀ {ks : List Kd} {h : Kd}, Kd.of ws h → (∀ k ∈ ks, Kd.of ws k) → Kd.of ws (ks.foldl Kd.app h)
  | [], _, h1, _ => h1
  | k :: r, h, h1, h2 => of_fold (ks := r) (h := .app h k) ⟨h1, h2 k List.mem_cons_self⟩ fun y hy => h2 y (List.mem_cons_of_mem _ hy)
theorem of_conK {ws : List Str} {x : Str} {ks : List Kd} (h : ∀ k ∈ ks, Kd.of ws k) : Kd.of ws (conK x ks) := of_fold (h := .con x) trivial h
/-! ### recursion -/
theorem fn_false {P : Program} {w : World} {K : PySem.W.Frag} {mg : Str → Option Value} {base : Heap} {f : Addr} {fd : FuncData} {ps : List Str} : FnOk P w K mg base CX0 0 f fd ps (fun _ _ _ _ => False) :=
  ⟨fun _ _ _ _ h => h.elim, fun _ _ _ _ _ _ _ _ _ _ _ _ _ h => h.elim⟩
end L3

namespace L3
open PySem L2
def topS (i : Nat) : Stmt := PySem.Challenge.pw_leastneeds_k02_terms_and_places.main.body.getD i (.Pass ⟨0, 0, 0, 0⟩)
section
variable {P : Program} {w : World} {K : PySem.W.Frag} {mg : Str → Option Value} {base : Heap}

abbrev s__law_begin : Stmt := topS 33
abbrev N__law_begin : List Str := ["_law_script"]
theorem sc__law_begin : FnScope N__law_begin ["_law_script"] (defScope s__law_begin) := ⟨rfl, rfl, rfl, by decide +kernel, rfl, by decide +kernel, by decide +kernel⟩
def spBegin (K : PySem.W.Frag) : Sp := fun vs H Q _ => ∃ (a : Addr) (ns : List Int), vs = [.ref a] ∧ SqL K H a (ns.map V.int) ∧ ∀ (H' : Hp) (t c : Addr), Same H H' → H t = none → Tape K H' t c 1000000 → Q (.ref t) H'
theorem cut63 (ns : List Int) : cutV (ns.map V.int) none (some 63) = (ns.take 63).map V.int := by
  unfold cutV
  rw [HT.sIx_none, show (63 : Int) = ((63 : Nat) : Int) from rfl, HT.sIx_nat, List.drop_zero, List.length_map, Nat.sub_zero, List.map_take]
  by_cases h : 63 ≤ ns.length
  · rw [Nat.min_eq_left h]
  · rw [Nat.min_eq_right (by omega), List.take_of_length_le (by simp), List.take_of_length_le (by simp; omega)]
theorem ok_begin {f : Addr} {fd : FuncData} (F : Fun K "_law_begin" "_law_begin" s__law_begin f fd) : FnOk P w K mg base CX0 1 f fd ["_law_script"] (spBegin K) := by
  refine F.ok sc__law_begin (fun vs H Q E h => ?_) (fun cdv A outer s H vs Q E hr h => ?_)
  · obtain ⟨a, ns, rfl, _⟩ := h
    rfl
  · obtain ⟨a, ns, rfl, hS, k⟩ := h
    refine ⟨_, (pss_one (ps_ret (pe_disp (pps_cons pe_str (pe_orT (pe_slice sl_list (pv 0) po_none (po_some pe_int)) (pe_one (pe_lst (pa_cons pe_int pa_nil)))) (pps_cons pe_str pe_int (pps_cons pe_str pe_int pps_nil))) (by rfl) (by rfl) (fun z => by cases z) (by decide)))), ?_⟩
    intro t ht
    have s0 : Same H (upd H t (.dK [])) := same_new ht
    refine ⟨_, rfl, _, rfl, a, _, rfl, s0.seq hS, fun q hq => ?_⟩
    rw [cut63]
    have nq : t ≠ q := fun e => by
      rw [← e, upd_same] at hq
      cases hq
    have s1 : Same (upd H t (.dK [])) (upd (upd H t (.dK [])) q (.lst ((ns.take 63).map V.int))) := same_new hq
    -- what stands at the end
    have fin : ∀ (H2 : Hp) (c : Addr) (ms : List Int), Same (upd H t (.dK [])) H2 → H2 c = some (.lst (ms.map V.int)) → c ≠ t → 0 < ms.length → ms.length ≤ 63 →
        H2 t = some (.dK []) ∧ ∃ kvs : List (Key × V), [(V.str "cells", V.ref c), (V.str "place", V.int 0), (V.str "left", V.int 0)] = kvs.map (fun kv => (kV kv.1, kv.2)) ∧ kvs.length ≤ 15 ∧ Q (.ref t) (upd H2 t (.dK (mergeK [] kvs))) := by
      intro H2 c ms h2 hc nc h0 h63
      refine ⟨h2 _ _ upd_same, tp c 0 0, rfl, by show 3 ≤ 15; decide, ?_⟩
      refine k _ t c (fun b o e => ?_) ht ⟨0, 0, ms, ?_, SqL.of ?_, nc, h0, h63, by omega, by omega, by omega⟩
      · have n : b ≠ t := ne_of_none e ht
        rw [upd_ne n]
        exact h2 _ _ (s0 _ _ e)
      · rw [upd_same]
        rfl
      · rw [upd_ne nc]
        exact hc
    refine ⟨_, .inl ⟨_, SqL.of upd_same, rfl⟩, ?_⟩
    cases hns : ns.take 63 with
    | nil =>
      rw [hns] at s1
      refine iteF ?_
      refine ⟨by decide, fun r hr2 => ?_⟩
      refine fin _ r [0] (s1.trans (same_new hr2)) upd_same (fun e => ?_) (by decide) (by decide)
      rw [e, upd_ne nq, upd_same] at hr2
      cases hr2
    | cons z zs =>
      refine iteT ?_
      refine fin _ q (z :: zs) (by rw [← hns]; exact s1) (by rw [upd_same]) nq.symm (Nat.zero_lt_succ _) ?_
      rw [← hns, List.length_take]
      omega

/-! ### a number from the tape -/
abbrev s__law_draw : Stmt := topS 34
abbrev N__law_draw : List Str := ["_law_tape", "_law_many", "_law_spot", "_law_size", "_law_cell", "_law_got"]
theorem sc__law_draw : FnScope N__law_draw ["_law_tape", "_law_many"] (defScope s__law_draw) := ⟨rfl, rfl, rfl, by decide +kernel, rfl, by decide +kernel, by decide +kernel⟩
theorem get_left {H : Hp} {t c : Addr} {p l : Int} (h : H t = some (.dK (tp c p l))) : DGet H t (.str "left") (some (.int l)) := DGet.k (k := .inr "left") h
theorem get_place {H : Hp} {t c : Addr} {p l : Int} (h : H t = some (.dK (tp c p l))) : DGet H t (.str "place") (some (.int p)) := DGet.k (k := .inr "place") h
theorem get_cells {H : Hp} {t c : Addr} {p l : Int} (h : H t = some (.dK (tp c p l))) : DGet H t (.str "cells") (some (.ref c)) := DGet.k (k := .inr "cells") h
theorem put_left {H : Hp} {t c : Addr} {p l q : Int} (h : H t = some (.dK (tp c p l))) : DPut H t (.str "left") (.int q) (upd H t (.dK (tp c p q))) := DPut.k (k := .inr "left") (v := .int q) h (by show 3 < sizeLine; decide)
theorem put_place {H : Hp} {t c : Addr} {p l q : Int} (h : H t = some (.dK (tp c p l))) : DPut H t (.str "place") (.int q) (upd H t (.dK (tp c q l))) := DPut.k (k := .inr "place") (v := .int q) h (by show 3 < sizeLine; decide)
def spDraw (K : PySem.W.Frag) : Sp := fun vs H Q _ => ∃ (t c : Addr) (n : Int) (b : Nat), vs = [.ref t, .int n] ∧ 1 ≤ n ∧ n < 1000000 ∧ Tape K H t c (b + 1) ∧
  ∀ (H' : Hp) (r : Int), Ext t H H' → Tape K H' t c b → 0 ≤ r → r < n → Q (.int r) H'
theorem ok_draw {f : Addr} {fd : FuncData} (F : Fun K "_law_draw" "_law_draw" s__law_draw f fd) (B : Bl mg) : FnOk P w K mg base CX0 1 f fd ["_law_tape", "_law_many"] (spDraw K) := by
  refine F.ok sc__law_draw (fun vs H Q E h => ?_) (fun cdv A outer s H vs Q E hr h => ?_)
  · obtain ⟨t, c, n, b, rfl, _⟩ := h
    rfl
  · obtain ⟨t, c, n, b, rfl, hn1, hn2, ⟨p, l, ns, h1, h2, h3, h4, h5, h6, h7, h8⟩, k⟩ := h
    have hu := hu_of hr
    refine ⟨_, (pss_cons (ps_if (pt_cmpR op_lt (pe_dget hu (pv 0) pe_str (fun _ _ => rfl)) (pv 1) (nomark _))
  (pss_cons (ps_par (i := 2) (j := 3) (by rfl) sc__law_draw.nd rfl rfl (by decide) rfl rfl (pa_cons (pe_dget hu (pv 0) pe_str (fun _ _ => rfl)) (pa_cons (pe_callB call_len (by rfl) B.len PySem.boot_len (pa_cons (pe_dget hu (pv 0) pe_str (fun _ _ => rfl)) pa_nil)) pa_nil)) (by rfl))
  (pss_cons (ps_asg (pe_tup (pa_cons (pe_ix ix_list (pe_dget hu (pv 0) pe_str (fun _ _ => rfl)) (pe_op op_mod (pe_callTy call_int1 (by rfl) B.int (by decide +kernel) (pa_cons (pv 2) pa_nil)) (pv 3)) (fun _ _ => rfl)) (pa_cons (pe_op op_add (pv 2) pe_int) pa_nil))) (pg_tup (by rfl) (pgs_cons (pg_name (i := 4) sc__law_draw.nd rfl (Or.inl rfl)) (pgs_cons (pg_sub (pv 0) pe_str (set_dict hu)) pgs_nil))))
  (pss_cons (ps_dput hu (pv 0) pe_str (pe_op op_mod (pe_callTy call_int1 (by rfl) B.int (by decide +kernel) (pa_cons (pe_op op_pow (pe_op op_add (pe_op op_add (pe_op op_mod (pe_callTy call_int1 (by rfl) B.int (by decide +kernel) (pa_cons (pv 4) pa_nil)) pe_int) (pe_op op_mul pe_int (pv 2))) pe_int) pe_int) pa_nil)) (pe_op op_add (pe_op op_pow pe_int pe_int) pe_int)) rfl)
  (pss_one (ps_if (PW.pt (pw_and (pt_cmpR op_ge (pv 4) (pe_op op_pow pe_int pe_int) (nomark _)) (pw_and1 (pt_cmpR op_lt (pv 2) (pv 3) (nomark _)))))
  (pss_one (ps_dput hu (pv 0) pe_str (pe_op op_sub (pv 4) (pe_op op_pow pe_int pe_int)) rfl))
  pss_nil)))))
  pss_nil)
  (pss_cons (ps_asg (pe_tup (pa_cons (pe_op op_mod (pe_callTy call_int1 (by rfl) B.int (by decide +kernel) (pa_cons (pe_dget hu (pv 0) pe_str (fun _ _ => rfl)) pa_nil)) (pv 1)) (pa_cons (pe_op op_fdivN (pe_dget hu (pv 0) pe_str (fun _ _ => rfl)) (pv 1)) pa_nil))) (pg_tup (by rfl) (pgs_cons (pg_name (i := 5) sc__law_draw.nd rfl (Or.inl rfl)) (pgs_cons (pg_sub (pv 0) pe_str (set_dict hu)) pgs_nil))))
  (pss_one (ps_ret (pv 5))))), ?_⟩
    -- the last two rows, from any tape
    have fin : ∀ (H1 : Hp) (p l : Int) (v2 v3 v4 : Option V), Ext t H H1 → H1 t = some (.dK (tp c p l)) → SqL K H1 c (ns.map V.int) → 0 ≤ p → p + b ≤ 1000000 → 0 ≤ l →
        tSeq (tAsg (tTup (tCons (tOp (rI (fun _ j => 0 < j) fun i j => .int (i % j)) (tCB (fun xs H Q => (∃ i, xs = [.int i] ∧ Q (.int i) H) ∨ ∃ k, xs = [.bl k] ∧ Q (.int (if k then 1 else 0)) H) (tCons (tDGet (tVar 0) (tC (.str "left"))) tNil)) (tVar 1)) (tCons (tOp (rI CDivN fun i j => .int (i.fdiv j)) (tDGet (tVar 0) (tC (.str "left"))) (tVar 1)) tNil)))
          (gTup K 2 (gCons (gName 5) (gCons (gSub (tVar 0) (tC (.str "left")) rSetD) gNil)))) (tRet (tVar 5)) { nx := fun _ H' => Q .non H', rt := Q } [some (.ref t), some (.int n), v2, v3, v4, none] H1 := by
      intro H1 p l v2 v3 v4 e1 g1 g2 g3 g4 g5
      refine ⟨_, rfl, _, _, rfl, get_left g1, .inl ⟨_, rfl, _, rfl, _, _, rfl, rfl, (by omega), ?_⟩⟩
      refine ⟨_, rfl, _, _, rfl, get_left g1, _, rfl, _, _, rfl, rfl, ⟨by omega, by omega⟩, slz rfl, fun q hq => ?_⟩
      have nq : t ≠ q := ne_of_none g1 hq
      refine ⟨q, _, rfl, SqT.of upd_same, rfl, _, _, rfl, _, _, rfl, _, rfl, t, _, rfl, put_left (by rw [upd_ne nq]; exact g1), rfl, ?_⟩
      refine ⟨_, rfl, ?_⟩
      have e2 : Ext t H (upd H1 q (.tup [.int (l % n), .int (l.fdiv n)])) := e1.trans (Ext.new hq)
      refine k _ _ (e2.trans Ext.put) ⟨p, l.fdiv n, ns, upd_same, (SqL.ext g2 ((Ext.new hq).trans Ext.put) h3), h3, h4, h5, g3, g4, Int.fdiv_nonneg g5 (by omega)⟩ (Int.emod_nonneg _ (by omega)) (Int.emod_lt_of_pos _ (by omega))
    refine ⟨_, rfl, _, _, rfl, get_left h1, _, rfl, _, _, rfl, rfl, _, rfl, ?_⟩
    refine ite2 (fun hc => ?_) (fun hc => ?_)
    · refine ⟨_, rfl, _, _, rfl, get_place h1, _, rfl, _, _, rfl, get_cells h1, _, _, rfl, .inl ⟨_, h2, rfl⟩, _, _, rfl, ?_⟩
      have hm : p % ((ns.map V.int).length : Int) = ((p % ((ns.map V.int).length : Int)).toNat : Int) := (Int.toNat_of_nonneg (Int.emod_nonneg _ (by rw [List.length_map]; omega))).symm
      have hlt : (p % ((ns.map V.int).length : Int)).toNat < ns.length := by
        have := Int.emod_lt_of_pos p (show (0 : Int) < ((ns.map V.int).length : Int) by rw [List.length_map]; omega)
        rw [List.length_map] at this ⊢
        omega
      refine ⟨_, rfl, _, _, rfl, get_cells h1, _, rfl, .inl ⟨_, rfl, _, rfl, _, _, rfl, rfl, (by rw [List.length_map]; omega), c, _, _, V.int (ns[(p % ((ns.map V.int).length : Int)).toNat]), rfl, rfl, h2, at_of hm (by rw [List.getElem?_map, List.getElem?_eq_getElem hlt]; rfl), ?_⟩⟩
      generalize ns[(p % ((ns.map V.int).length : Int)).toNat] = cell
      refine ⟨_, rfl, _, _, rfl, rfl, slz rfl, fun q hq => ?_⟩
      have nq : t ≠ q := ne_of_none h1 hq
      have g0 : (upd H q (.tup [.int cell, .int (p + 1)])) t = some (.dK (tp c p l)) := by rw [upd_ne nq]; exact h1
      refine ⟨q, _, rfl, SqT.of upd_same, rfl, _, _, rfl, _, _, rfl, _, rfl, t, _, rfl, put_place g0, rfl, ?_⟩
      have e1 : Ext t H (upd (upd H q (.tup [.int cell, .int (p + 1)])) t (.dK (tp c (p + 1) l))) := (Ext.new hq).trans Ext.put
      have hu1 : 0 ≤ cell % 2147483587 := Int.emod_nonneg _ (by decide)
      have hu2 : cell % 2147483587 < 2147483587 := Int.emod_lt_of_pos _ (by decide)
      refine ⟨_, rfl, .inl ⟨_, rfl, _, _, rfl, rfl, (show (0 : Int) < 2147483587 by decide), _, rfl, _, _, rfl, rfl, .inr ⟨by omega, by omega⟩, _, _, rfl, rfl, _, _, rfl, rfl, ?_⟩⟩
      refine ⟨_, _, rfl, rfl, ⟨by decide, by decide, ?_⟩, .inl ⟨_, rfl, ?_⟩⟩
      · show (cell % 2147483587 + 48271 * p + 16807).natAbs < 2 ^ 64
        omega
      generalize (cell % 2147483587 + 48271 * p + 16807) ^ (13 : Int).toNat = big
      refine ⟨_, _, rfl, rfl, ⟨by decide, by decide, by decide⟩, _, _, rfl, rfl, _, _, rfl, rfl, (show (0 : Int) < 10 ^ (50 : Int).toNat + 57 by decide +kernel), ?_⟩
      refine ⟨_, rfl, t, _, rfl, put_left upd_same, ?_⟩
      have hl : 0 ≤ big % (10 ^ (50 : Int).toNat + 57) := Int.emod_nonneg _ (by decide +kernel)
      generalize big % (10 ^ (50 : Int).toNat + 57) = l2 at hl ⊢
      have e3 : Ext t H (upd (upd (upd H q (.tup [.int cell, .int (p + 1)])) t (.dK (tp c (p + 1) l))) t (.dK (tp c (p + 1) l2))) := e1.trans Ext.put
      refine ⟨_, rfl, _, _, rfl, rfl, ⟨by decide, by decide, by decide⟩, _, _, rfl, rfl, _, rfl, ?_⟩
      refine ite2 (fun hc1 => ?_) (fun hc1 => ?_)
      · refine ⟨_, rfl, _, rfl, _, _, rfl, rfl, _, rfl, ?_⟩
        refine ite2 (fun hc2 => ?_) (fun hc2 => ?_)
        · refine ⟨_, rfl, _, _, rfl, rfl, ⟨by decide, by decide, by decide⟩, _, _, rfl, rfl, ?_⟩
          refine ⟨_, rfl, t, _, rfl, put_left upd_same, ?_⟩
          have hc3 : (10 : Int) ^ (18 : Int).toNat ≤ cell := of_decide_eq_true hc1
          exact fin _ (p + 1) _ _ _ _ (e3.trans Ext.put) upd_same (SqL.ext h2 (e3.trans Ext.put) h3) (by omega) (by omega) (by omega)
        · exact fin _ (p + 1) _ _ _ _ e3 upd_same (SqL.ext h2 e3 h3) (by omega) (by omega) hl
      · refine iteF ?_
        exact fin _ (p + 1) _ _ _ _ e3 upd_same (SqL.ext h2 e3 h3) (by omega) (by omega) hl
    · exact fin H p l none none none (Ext.refl _ _) h1 h2 h6 (by omega) h8
end
end L3

namespace L3
open PySem L2
section
variable {P : Program} {w : World} {K : PySem.W.Frag} {mg : Str → Option Value} {base : Heap}
theorem Fun.kn {x : Str} {st : Stmt} {f : Addr} {fd : FuncData} {k : Nat} {ps : List Str} {sp : Sp} (F : Fun K x x st f fd) (hm : mg x = some (.ref f)) (h : FnOk P w K mg base CX0 k f fd ps sp)
    (b : ∀ (kV doc pm : Value) (an : Option Addr) (cdv ct : Value) (us : List Value), us.length = ps.length → bindArgs (PySem.W.fnOf x x (defArgs st) (defBody st) (defScope st) .none kV doc pm an cdv ct) ⟨us, []⟩ = pure (ps.zip us)) : Kn P w K mg base k x ps sp :=
  ⟨f, fd, h, hm, F.kp, F.binds b⟩
abbrev s__law_pick : Stmt := topS 35
abbrev N__law_pick : List Str := ["_law_tape", "_law_items"]
theorem sc__law_pick : FnScope N__law_pick ["_law_tape", "_law_items"] (defScope s__law_pick) := ⟨rfl, rfl, rfl, by decide +kernel, rfl, by decide +kernel, by decide +kernel⟩
def spPick (K : PySem.W.Frag) : Sp := fun vs H Q _ => ∃ (t c l : Addr) (xs : List V) (b : Nat), vs = [.ref t, .ref l] ∧ SqL K H l xs ∧ 0 < xs.length ∧ xs.length < 1000000 ∧ Tape K H t c (b + 1) ∧
  ∀ (H' : Hp) (v : V), Ext t H H' → Tape K H' t c b → v ∈ xs → Q v H'
theorem ok_pick {f : Addr} {fd : FuncData} (F : Fun K "_law_pick" "_law_pick" s__law_pick f fd) (B : Bl mg) (D__law_draw : Kn P w K mg base 1 "_law_draw" ["_law_tape", "_law_many"] (spDraw K)) : FnOk P w K mg base CX0 2 f fd ["_law_tape", "_law_items"] (spPick K) := by
  refine F.ok sc__law_pick (fun vs H Q E h => ?_) (fun cdv A outer s H vs Q E hr h => ?_)
  · obtain ⟨t, c, l, xs, b, rfl, _⟩ := h
    rfl
  · obtain ⟨t, c, l, xs, b, rfl, h1, h2, h3, h4, k⟩ := h
    have hr__law_draw := hr
    refine ⟨_, (pss_one (ps_ret (pe_ix ix_list (pv 1) (pe_kn D__law_draw hr__law_draw (pa_cons (pv 0) (pa_cons (pe_callB call_len (by rfl) B.len PySem.boot_len (pa_cons (pv 1) pa_nil)) pa_nil))) (fun _ _ => rfl)))), ?_⟩
    refine ⟨_, rfl, _, rfl, _, rfl, _, _, rfl, .inl ⟨_, h1, rfl⟩, t, c, _, b, rfl, by omega, by omega, h4, fun H' r e1 e2 r1 r2 => ?_⟩
    have hj : r = (r.toNat : Int) := (Int.toNat_of_nonneg r1).symm
    have hlt : r.toNat < xs.length := by omega
    exact ⟨l, xs, r, xs[r.toNat], rfl, rfl, SqL.extT h1 h4 e1, at_of hj (List.getElem?_eq_getElem hlt), k H' _ e1 e2 (List.getElem_mem hlt)⟩

end
end L3

namespace L3
open PySem L2
/-! ### variables in order -/
def addV (fs : List Str) (x : Str) : List Str := if x ∈ fs then fs else fs ++ [x]
def Kd.vs : Kd → List Str → List Str
  | .var x, fs => addV fs x
  | .con _, fs => fs
  | .app a b, fs => b.vs (a.vs fs)
def vsL : List Kd → List Str → List Str
  | [], fs => fs
  | k :: r, fs => vsL r (k.vs fs)
def Kd.size : Kd → Nat
  | .var _ => 1
  | .con _ => 1
  | .app a b => a.size + b.size + 1
def sizeL : List Kd → Nat
  | [] => 0
  | k :: r => k.size + sizeL r
theorem Kd.size_pos (k : Kd) : 0 < k.size := by cases k <;> simp [Kd.size]
theorem eqV_str (x y : Str) : eqV (.str y) (.str x) = decide (y = x) := str_beq y x
theorem inV_words (x : Str) : ∀ fs : List Str, inV (.str x) (fs.map V.str) = decide (x ∈ fs)
  | [] => rfl
  | y :: r => by
    have ih := inV_words x r
    unfold inV at ih ⊢
    rw [List.map_cons, List.any_cons, ih, eqV_str]
    by_cases h : y = x
    · subst h
      simp
    · have h2 : ¬ x = y := fun e => h e.symm
      simp [h, h2]
theorem flat_words : ∀ fs : List Str, (fs.map V.str).all flatV = true
  | [] => rfl
  | _ :: r => by
    rw [List.map_cons, List.all_cons, flat_words r]
    rfl
/-- the last of a row -/
theorem paired_last {α β : Type} {F : α → β → Prop} : ∀ {xs : List α} {ys : List β} {y : β}, Paired F xs (ys ++ [y]) → ∃ xs0 x, xs = xs0 ++ [x] ∧ Paired F xs0 ys ∧ F x y
  | [], [], _, h => nomatch h
  | [], _ :: _, _, h => nomatch h
  | x :: xs, [], y, .cons r t => by
    cases t
    exact ⟨[], x, rfl, .nil, r⟩
  | x :: xs, z :: ys, y, .cons r t => by
    obtain ⟨xs0, w, e, h1, h2⟩ := paired_last (ys := ys) t
    exact ⟨x :: xs0, w, by rw [e]; rfl, .cons r h1, h2⟩
theorem paired_snoc {α β : Type} {F : α → β → Prop} {xs : List α} {ys : List β} {x : α} {y : β} (h : Paired F xs ys) (r : F x y) : Paired F (xs ++ [x]) (ys ++ [y]) := Paired.snoc h r
theorem paired_rev {α β : Type} {F : α → β → Prop} : ∀ {xs : List α} {ys : List β}, Paired F xs ys → Paired F xs.reverse ys.reverse
  | _, _, .nil => .nil
  | _, _, .cons r t => by
    rw [List.reverse_cons, List.reverse_cons]
    exact Paired.snoc (paired_rev t) r
theorem kds_snoc : ∀ ks : List Kd, ks ≠ [] → ∃ ks0 k, ks = ks0 ++ [k] := fun ks h => ⟨ks.dropLast, ks.getLast h, (List.dropLast_concat_getLast h).symm⟩
theorem shaped_kds {ks : List Kd} (h : ∀ k ∈ ks, k.fit 60) : SeqAt.shaped (.list (ks.map Kd.dat)) = true := by
  have key : ∀ ks : List Kd, (∀ k ∈ ks, k.fit 60) → PyData.canLayAll0 (ks.map Kd.dat) = true ∧ PyData.depthAll (ks.map Kd.dat) ≤ 61 := by
    intro ks
    induction ks with
    | nil => intro _; exact ⟨by simp [PyData.canLayAll0], by simp [PyData.depthAll]⟩
    | cons k r ih =>
      intro h
      obtain ⟨h1, h2⟩ := ih fun y hy => h y (List.mem_cons_of_mem _ hy)
      obtain ⟨h3, h4⟩ := Kd.lay (h k List.mem_cons_self)
      refine ⟨by simp only [List.map_cons, PyData.canLayAll0, h3, h1, Bool.true_and], ?_⟩
      simp only [List.map_cons, PyData.depthAll]
      omega
  obtain ⟨h1, h2⟩ := key ks h
  unfold SeqAt.shaped
  simp only [PyData.canLay0, h1, PyData.depth, Bool.true_and]
  exact decide_eq_true (by omega)
theorem kds_ne {ks : List Kd} : (!PyData.eqv (.list (ks.map Kd.dat)) (.list [])) = !ks.isEmpty := by
  rw [eqv_ll]
  cases ks with
  | nil => rw [List.map_nil, eqv_nn]; rfl
  | cons x r => rw [List.map_cons, eqv_cn]; rfl
/-! ### matching -/
def Kd.mt : Kd → Kd → By → Bool × By
  | .var x, k, b => match lk b x with
    | some k' => (decide (k' = k), b)
    | none => (true, b ++ [(x, k)])
  | .con x, k, b => (decide (Kd.con x = k), b)
  | .app a c, .app d e, b => if (a.mt d b).1 = true then c.mt e (a.mt d b).2 else (false, (a.mt d b).2)
  | .app _ _, .var _, b => (false, b)
  | .app _ _, .con _, b => (false, b)
def mtL : List Kd → List Kd → By → Option By
  | p :: ps, k :: ks, b => if (p.mt k b).1 = true then mtL ps ks (p.mt k b).2 else none
  | _, _, b => some b
def mtP : List (Kd × Kd) → By → Option By
  | [], b => some b
  | (p, k) :: r, b => if (p.mt k b).1 = true then mtP r (p.mt k b).2 else none
theorem mtP_zip : ∀ (ps ks : List Kd) (b : By), mtP (ps.zip ks) b = mtL ps ks b
  | [], _, _ => rfl
  | _ :: _, [], _ => rfl
  | p :: ps, k :: ks, b => by
    show (if (p.mt k b).1 = true then mtP (ps.zip ks) (p.mt k b).2 else none) = if (p.mt k b).1 = true then mtL ps ks (p.mt k b).2 else none
    rw [mtP_zip ps ks]
theorem mtP_app (a c d e : Kd) (r : List (Kd × Kd)) (b : By) : mtP ((.app a c, .app d e) :: r) b = mtP ((a, d) :: (c, e) :: r) b := by
  show (if ((Kd.app a c).mt (.app d e) b).1 = true then mtP r ((Kd.app a c).mt (.app d e) b).2 else none) = if (a.mt d b).1 = true then (if (c.mt e (a.mt d b).2).1 = true then mtP r (c.mt e (a.mt d b).2).2 else none) else none
  by_cases h : (a.mt d b).1 = true
  · have q : (Kd.app a c).mt (.app d e) b = c.mt e (a.mt d b).2 := by simp only [Kd.mt, if_pos h]
    rw [if_pos h, q]
  · have q : (Kd.app a c).mt (.app d e) b = (false, (a.mt d b).2) := by simp only [Kd.mt, if_neg h]
    rw [if_neg h, q]
    rfl
theorem lk_snoc {b : By} {x : Str} {k : Kd} (h : lk b x = none) (y : Str) : lk (b ++ [(x, k)]) y = if y = x then some k else lk b y := by
  induction b with
  | nil =>
    by_cases e : x = y
    · rw [if_pos e.symm]
      exact lk_pos e
    · rw [if_neg (fun z => e z.symm)]
      exact lk_neg e
  | cons p r ih =>
    have hk : ¬ p.1 = x := fun z => by rw [lk_pos z] at h; cases h
    rw [lk_neg hk] at h
    rw [List.cons_append]
    by_cases e : p.1 = y
    · rw [lk_pos e, lk_pos e, if_neg (fun z => hk (e.trans z))]
    · rw [lk_neg e, lk_neg e, ih h]
theorem lk_mem {b : By} {x : Str} {k : Kd} (h : lk b x = some k) : (x, k) ∈ b := by
  induction b with
  | nil => cases h
  | cons p r ih =>
    by_cases e : p.1 = x
    · rw [lk_pos e] at h
      have : p = (x, k) := by
        obtain ⟨p1, p2⟩ := p
        have e' : p1 = x := e
        have h' : p2 = k := Option.some.inj h
        rw [e', h']
      rw [this]
      exact List.mem_cons_self
    · rw [lk_neg e] at h
      exact List.mem_cons_of_mem _ (ih h)
/-- what matching adds -/
theorem Kd.mt_grow {m : Nat} : ∀ (p k : Kd) (b : By), k.fit m → (∀ q ∈ b, q.2.fit m) → (p.mt k b).2.length ≤ b.length + p.size ∧ ∀ q ∈ (p.mt k b).2, q.2.fit m
  | .var x, k, b, hk, hb => by
    simp only [Kd.mt]
    cases e : lk b x with
    | some k' => exact ⟨Nat.le_add_right _ _, hb⟩
    | none =>
      refine ⟨by simp [Kd.size], fun q hq => ?_⟩
      rcases List.mem_append.mp hq with h | h
      · exact hb q h
      · rw [List.mem_singleton.mp h]
        exact hk
  | .con x, k, b, hk, hb => ⟨Nat.le_add_right _ _, hb⟩
  | .app a c, .app d e, b, hk, hb => by
    obtain ⟨j, rfl, h1, h2⟩ := Kd.fit_app hk
    have h1' := Kd.fit_mono (Nat.le_succ j) h1
    have h2' := Kd.fit_mono (Nat.le_succ j) h2
    obtain ⟨g1, g2⟩ := Kd.mt_grow a d b h1' hb
    obtain ⟨g3, g4⟩ := Kd.mt_grow c e (a.mt d b).2 h2' g2
    simp only [Kd.mt]
    by_cases h : (a.mt d b).1 = true
    · rw [if_pos h]
      refine ⟨?_, g4⟩
      simp only [Kd.size]
      omega
    · rw [if_neg h]
      refine ⟨?_, g2⟩
      simp only [Kd.size]
      omega
  | .app _ _, .var _, b, _, hb => ⟨Nat.le_add_right _ _, hb⟩
  | .app _ _, .con _, b, _, hb => ⟨Nat.le_add_right _ _, hb⟩
/-- the names, as the variables come -/
def names (b : By) : List Str := b.map (·.1)
theorem lk_names (b : By) (x : Str) : (lk b x).isSome = decide (x ∈ names b) := by
  induction b with
  | nil => rfl
  | cons p r ih =>
    by_cases e : p.1 = x
    · rw [lk_pos e]
      simp [names, e]
    · rw [lk_neg e, ih]
      have e' : ¬ x = p.1 := fun z => e z.symm
      have q : names (p :: r) = p.1 :: names r := rfl
      rw [q]
      simp [e']
theorem Kd.mt_names : ∀ (p k : Kd) (b : By), (p.mt k b).1 = true → names (p.mt k b).2 = p.vs (names b)
  | .var x, k, b, h => by
    have hn := lk_names b x
    simp only [Kd.mt, Kd.vs, addV] at h ⊢
    cases e : lk b x with
    | some k' =>
      rw [e] at hn
      have : x ∈ names b := of_decide_eq_true hn.symm
      simp only [this, if_true]
    | none =>
      rw [e] at hn
      have : ¬ x ∈ names b := of_decide_eq_false hn.symm
      rw [if_neg this]
      simp [names]
  | .con x, k, b, _ => rfl
  | .app a c, .app d e, b, h => by
    simp only [Kd.mt, Kd.vs] at h ⊢
    by_cases h1 : (a.mt d b).1 = true
    · rw [if_pos h1] at h ⊢
      rw [Kd.mt_names c e _ h, Kd.mt_names a d b h1]
    · rw [if_neg h1] at h
      cases h
  | .app _ _, .var _, b, h => by simp [Kd.mt] at h
  | .app _ _, .con _, b, h => by simp [Kd.mt] at h
theorem mtL_names : ∀ (ps ks : List Kd) (b c : By), ps.length = ks.length → mtL ps ks b = some c → names c = vsL ps (names b)
  | [], [], b, c, _, h => by cases h; rfl
  | [], _ :: _, _, _, h, _ => by cases h
  | _ :: _, [], _, _, h, _ => by cases h
  | p :: ps, k :: ks, b, c, hl, h => by
    simp only [mtL] at h
    by_cases h1 : (p.mt k b).1 = true
    · rw [if_pos h1] at h
      rw [mtL_names ps ks _ c (Nat.succ.inj hl) h, Kd.mt_names p k b h1]
      rfl
    · rw [if_neg h1] at h
      cases h
end L3

/-! repr of nested data; a law's own run, where nothing else is being shown -/
namespace L3
open PySem PySem.Spec PyProof.Rows L2
section
variable {X : Cx}
/-- repr of a list or tuple of nested data -/
def rRepr (K : PySem.W.Frag) : List V → Hp → VK → Prop := fun xs H Q => ∃ (a : Addr) (d : PyData), xs = [.ref a] ∧ Dp K H (.ref a) d ∧ d.showable = true ∧ d.hasDict = false ∧ d.depth ≤ 60 ∧ d.shown.length ≤ sizeLine ∧ Q (.str d.shown) H
theorem call_reprD (hg : X.A.guards = some []) (hu : X.A.units + 64 < cLine) : CallR X (.builtin "repr") (rRepr X.K) := by
  intro pins s σ H xs us Q I r h
  obtain ⟨a, d, rfl, hd, hs, hn, hdep, hsz, q⟩ := h
  obtain ⟨u, rfl, rx⟩ := vals1 r
  obtain rfl : u = Value.ref a := rx
  obtain ⟨as, hr⟩ := Dp.reads I d _ _ hd (show RelV (.ref a) (.ref a) from rfl)
  exact repr_of_reads' hr hs (fun z => by rw [hn] at z; cases z) hg (by omega) (fun _ _ e => e) (fun h' u tk hk => ⟨.str d.shown, H, I.kept (t' := tk) hk, ⟨u, rfl⟩, q⟩) hsz
end
/-- the law's own def, called by nobody -/
def LawRun (P : Program) (w : World) (K : PySem.W.Frag) (mg : Str → Option Value) (base : Heap) (f : Addr) (fd : FuncData) (x : Str) (sp : List V → Hp → VK → Prop) : Prop :=
  ∀ (s : Shared) (H : Hp) (args : Args) (u : Value) (v : V) (Q : VK), Env0 P w K mg base callerA [] s H → BindsTo s fd args [(x, u)] → RelV v u → sp [v] H Q → codeAny (model P w) callerA (.call (.ref f) args) (CR CX0 [] P w H s Q E0) s
section
variable {P : Program} {w : World} {K : PySem.W.Frag} {mg : Str → Option Value} {base : Heap}
theorem lawRun_of {st : Stmt} {f : Addr} {fd : FuncData} {N : List Str} {k : Nat} {x : Str} {sp : List V → Hp → VK → Prop} (F : Fun K "law" "law" st f fd) (S : FnScope N [x] (defScope st)) (hroom : Room (k + 1) callerA)
    (hbody : ∀ (cdv : Value) (s : Shared) (H : Hp) (v : V) (Q : VK), Room k (callerA.deeper (envOfC "law" (defScope st) s.heap.objs.size f cdv)) → sp [v] H Q →
      ∃ t, PSs (cxOf CX0 P w K mg base N "law" (defScope st) f cdv callerA [] s H E0).nox (defBody st) t ∧ t { nx := fun _ H' => Q .non H', rt := Q } (start N [v]) H) : LawRun P w K mg base f fd x sp := by
  obtain ⟨oc, od, kV, doc, pm, an, cdv, ct, osl, rfl, lk, hcd⟩ := F.ex
  intro s H args u v Q e0 hb rv hsp
  have inK : K.In s.heap := e0.mod.kin.keeps fun b o z => (e0.bs b o z).1
  have noL : s.heap.NoLimit := e0.mod.nolimit.keeps fun b o z => (e0.bs b o z).1
  have kinds : ∀ y ∈ ([x].zip [u] : List (Str × Value)), (defScope st).names.lookup y.1 = some .local ∨ ((defScope st).names.lookup y.1 = some .cell ∧ ((cellsFrom (s.heap.objs.size + 1) (defScope st).names []).lookup y.1).isSome = true) := by
    rintro ⟨n, z⟩ hy
    rcases S.par n (List.of_mem_zip hy).1 with q | q
    · exact Or.inl q
    · exact Or.inr ⟨q, PySem.W.cellsFrom_some _ _ _ (Or.inl q)⟩
  refine codeAny_call_function (Room.depth hroom) (inK _ _ lk) rfl S.co S.gen rfl (PySem.W.codeRec_of inK hcd) (hb _ _ _ _ ?_)
  refine wpAny_newFunctionEnv_cells S.kind kinds fun env he s1 xx => ?_
  subst he
  refine ⟨noL.keeps xx.toInCall.keep, codeAny_func ?_⟩
  obtain ⟨t, ht, hq⟩ := hbody cdv s H v Q (Room.deeper hroom _) hsp
  have J : Inv (cxOf CX0 P w K mg base N "law" (defScope st) f cdv callerA [] s H E0) [] (start N [v]) H s1 := inv_start S rfl e0 rfl (Paired.cons rv .nil) xx
  refine wpAny_mono ((PSs.nox ht).run [] s1 (start N [v]) H _ J hq) (fun fl s' hs => ?_) (fun e s' hs => hs)
  cases fl with
  | next =>
    obtain ⟨σ', H', J', q⟩ := hs
    exact ⟨V.non, H', J'.os, J'.bare, J'.base, J'.hok, rfl, q⟩
  | ret z =>
    obtain ⟨v', σ', H', J', rz, q⟩ := hs
    exact ⟨v', H', J'.os, J'.bare, J'.base, J'.hok, rz, q⟩
  | brk =>
    obtain ⟨_, _, _, q⟩ := hs
    exact q.elim
  | cont =>
    obtain ⟨_, _, _, q⟩ := hs
    exact q.elim
end
section
variable {P : Program} {w : World} {K : PySem.W.Frag} {mg mb : Str → Option Value} {fa a : Addr} {fd : FuncData} {x : Str} {sp : List V → Hp → VK → Prop} {s1 : Shared} {vs : List Value} {ns : List Int}
/-- what the law's call has to come to -/
abbrev LawEnd (s1 : Shared) (r : Result) (s' : Shared) : Prop := r = .ok (.ret (.bool true)) ∧ OldK s1.heap s'.heap ∧ s'.os = s1.os ∧ AllBare s'.gens
theorem law_core (inK : K.In s1.heap) (gl : s1.heap.Ns mainGlobals mg) (bi : s1.heap.Ns builtinsNs mb) (bb : ∀ y : Str, y ≠ "__name__" → mb y = bootBuiltins y) (nl : s1.heap.NoLimit) (ng : s1.gens = #[])
    (ob : s1.heap.get? a = some { cls := .type "list", data := .seq vs.toArray }) (run : ∀ base : Heap, K.In base → base.Ns mainGlobals mg → LawRun P w K mg base fa fd x sp)
    (bind : ∀ (s : Shared) (u : Value), BindsTo s fd ⟨[u], []⟩ [(x, u)]) (want : ∀ H : Hp, Only H → SqL K H a (ns.map V.int) → sp [.ref a] H (fun v _ => v = .bl true))
    (H : Hp) (hO : Only H) (hS : SqL K H a (ns.map V.int)) (ok : HOk P w H s1.heap) (alone : ∀ b, H b ≠ none → b = a) (off : H a ≠ none → K.lookup a = none) :
    codeAny (model P w) callerA (.call (.ref fa) ⟨[.ref a], []⟩) (LawEnd s1) s1 := by
  -- a thing that is tracked is the script
  have isA : ∀ {b : Addr} {u : HO}, H b = some u → b = a := fun {b u} q => alone b (by rw [q]; simp)
  have hid : ∀ {b : Addr} {o : Obj}, s1.heap.get? b = some o → H b = none → (hidT s1.heap H).get? b = some o := fun z n => hidT_get z n
  have dictFree : ∀ {b : Addr} {o : Obj} {es : Array DictEntry} {ep : Nat}, s1.heap.get? b = some o → o.data = .dict es ep → H b = none := by
    intro b o es ep z dd
    cases q : H b with
    | none => rfl
    | some u =>
      have e' := isA q
      subst e'
      rw [ob] at z
      cases z
      have dd' : Data.seq vs.toArray _ = Data.dict es ep := dd
      cases dd'
  have nsH : ∀ {b : Addr} {m : Str → Option Value}, s1.heap.Ns b m → (hidT s1.heap H).Ns b m := by
    rintro b m ⟨o, es, ep, z, dd, r⟩
    exact ⟨o, es, ep, hid z (dictFree z dd), dd, r⟩
  have inH : K.In (hidT s1.heap H) := by
    intro b o z
    refine hid (inK b o z) ?_
    cases q : H b with
    | none => rfl
    | some u =>
      have e' := isA q
      subst e'
      rw [off (by rw [q]; simp)] at z
      cases z
  have md : Mod K mg (hidT s1.heap H) := by
    obtain ⟨mc, z1, z2⟩ := nl
    exact ⟨inH, nsH gl, ⟨mb, nsH bi, bb⟩, ⟨mc, nsH z1, z2⟩⟩
  have e0 : Env0 P w K mg (hidT s1.heap H) callerA [] s1 H := by
    refine ⟨rfl, md, fun b o z => of_hidT z, Nat.le_of_eq (hidT_size _ _), trivial, ?_, ok, .of_eq ng⟩
    intro b hb
    exact nomatch (show b ∈ ([] : List Addr) from hb)
  refine codeAny_mono (run _ inH (nsH gl) s1 H ⟨[.ref a], []⟩ (.ref a) (.ref a) _ e0 (bind s1 (.ref a)) rfl (want H hO hS)) fun r s' h => ?_
  cases r with
  | error e => exact h.elim
  | ok fl =>
    cases fl with
    | next => exact h.elim
    | brk => exact h.elim
    | cont => exact h.elim
    | ret u =>
      obtain ⟨v, H', os, bare, un, ok', r', q⟩ := h
      obtain rfl : v = .bl true := q
      obtain rfl : u = Value.bool true := r'
      refine ⟨rfl, OldK.of_keep fun b o z => ?_, os, bare⟩
      cases q : H b with
      | none => exact un.keep b o z q (fun y => nomatch (show b ∈ ([] : List Addr) from y)) (fun y => nomatch y)
      | some u =>
        rcases hO b with y | ⟨o2, xs, y⟩
        · rw [q] at y
          cases y
        · obtain ⟨z1, _⟩ := ok b _ y
          obtain ⟨z2, _⟩ := ok' b _ (un.frzs b o2 _ y)
          rw [z] at z1
          cases z1
          exact z2
theorem law_callG (inK : K.In s1.heap) (gl : s1.heap.Ns mainGlobals mg) (bi : s1.heap.Ns builtinsNs mb) (bb : ∀ y : Str, y ≠ "__name__" → mb y = bootBuiltins y) (nl : s1.heap.NoLimit) (ng : s1.gens = #[])
    (ob : s1.heap.get? a = some { cls := .type "list", data := .seq vs.toArray }) (hi : IntsAre vs ns) (hl : ns.length ≤ sizeLine) (run : ∀ base : Heap, K.In base → base.Ns mainGlobals mg → LawRun P w K mg base fa fd x sp)
    (bind : ∀ (s : Shared) (u : Value), BindsTo s fd ⟨[u], []⟩ [(x, u)]) (want : ∀ H : Hp, Only H → SqL K H a (ns.map V.int) → sp [.ref a] H (fun v _ => v = .bl true)) :
    codeAny (model P w) callerA (.call (.ref fa) ⟨[.ref a], []⟩) (LawEnd s1) s1 := by
  have rv := vals_ints hi
  cases hk : K.lookup a with
  | some o =>
    have z := inK a o hk
    rw [ob] at z
    cases z
    have hS : SqL K (fun _ => none) a (ns.map V.int) := Or.inr ⟨_, vs.toArray, _, hk, rfl, rfl, rfl, by rw [List.size_toArray, hi.length]; exact hl, by simpa using rv⟩
    exact law_core inK gl bi bb nl ng ob run bind want (fun _ => none) (fun _ => .inl rfl) hS (fun _ _ z => nomatch (show (none : Option HO) = some _ from z)) (fun _ z => (z rfl).elim) (fun z => (z rfl).elim)
  | none =>
    let fz : HO := .frz { cls := .type "list", data := .seq vs.toArray } (.lst (ns.map V.int))
    have at1 : upd (fun _ => none) a fz a = some fz := upd_same
    refine law_core inK gl bi bb nl ng ob run bind want (upd (fun _ => none) a fz) (fun b => ?_) (.inl (.inr ⟨_, at1⟩)) (fun b u z => ?_) (fun b z => ?_) fun _ => hk
    · by_cases hb : b = a
      · rw [hb, at1]
        exact .inr ⟨_, _, rfl⟩
      · exact .inl (upd_ne hb)
    · by_cases hb : b = a
      · subst hb
        rw [at1] at z
        cases z
        exact ⟨ob, by rw [List.length_map]; exact hl, vs, _, rv, ob⟩
      · rw [upd_ne hb] at z
        cases z
    · by_cases hb : b = a
      · exact hb
      · exact (z (upd_ne hb)).elim
end
/-- the end of a law whose own def is run by LawRun -/
theorem walkG {l : PySem.W.OpenLaw} {n : Nat} {q : Program} {loose : List Str} {XP : (Str → Option Value) → Heap → Prop} {YP : World → Heap → Prop} {d : DefRec} {K : Params → PySem.W.Frag} {sp : PySem.W.Frag → List V → Hp → VK → Prop} {x : Str}
    (hn : l.most = some n) (hn2 : n ≤ sizeLine) (hdf : d.params.defaults = []) (hY : ∀ (w : World) (h : Heap), YP w h → (K w.params).In h)
    (F : ∀ (w : World) (mg : Str → Option Value) (fa : Addr) (h : Heap), (K w.params).In h → h.Ns mainGlobals mg → mg d.name = some (.ref fa) →
      ∃ fd : FuncData, (∀ (s : Shared) (u : Value), BindsTo s fd ⟨[u], []⟩ [(x, u)]) ∧ ∀ base : Heap, (K w.params).In base → base.Ns mainGlobals mg → LawRun l.prog w (K w.params) mg base fa fd x (sp (K w.params)))
    (want : ∀ (K : PySem.W.Frag) (H : Hp) (a : Addr) (ns : List Int), ns.length ≤ n → SqL K H a (ns.map V.int) → sp K [.ref a] H (fun v _ => v = .bl true)) : PySem.W.WalkO q loose XP YP l.row.toRowW d [] (fun f vs => PySem.call f vs) := by
  refine Att.attach_call hn hdf ?_
  intro w s0 s1 mg mb fa o pm cd doc a vs ns G Y ho hd hcd hmg hobj hints hlen hg
  obtain ⟨fd, hb, run⟩ := F w mg fa _ (hY w _ Y) G.T.g hmg
  exact law_callG (hY w _ Y) G.T.g G.T.b G.T.builtins G.T.nolimit hg hobj hints (Nat.le_trans hlen hn2) run hb (fun H _ hS => want _ H a ns hlen hS)
end L3

/-! list(zip(a, b)) over two lists or two tuples of one length -/
namespace L3
open PySem PySem.Spec PyProof.Rows L2
section
variable {prog : Program} {w : World} {A : Around} {E : Value → Shared → Prop} {s : Shared} {z TI TO T i1 i2 l1 l2 : Addr} {f : Bool} {oT : Obj} {xs ys : Array Value}
/-- a zip of tuples whose last pair is still out gives the next pair -/
theorem zt_item {k1 k2 : Nat} {x y : Value} {Q : Option Value → Shared → Prop} (D : ZipApart z TI TO i1 i2 l1 l2) (hz : IsZipHeld s.heap z TI TO T f) (hT : s.heap.get? T = some oT) (hTI : IsPair s.heap TI (.ref i1) (.ref i2))
    (a1 : s.heap.IsTupleIter i1 l1 k1) (a2 : s.heap.IsTupleIter i2 l2 k2) (t1 : s.heap.IsTuple l1 xs) (t2 : s.heap.IsTuple l2 ys) (ex : xs[k1]? = some x) (ey : ys[k2]? = some y)
    (q : ∀ h', IsZipHeld h' z TI TO T true → h'.IsTupleIter i1 l1 (k1 + 1) → h'.IsTupleIter i2 l2 (k2 + 1) → IsPair h' s.heap.objs.size x y → h'.objs.size = s.heap.objs.size + 1 →
      (∀ b o, b ≠ z → b ≠ i1 → b ≠ i2 → s.heap.get? b = some o → h'.get? b = some o) → Q (some (.ref s.heap.objs.size)) { s with heap := h' }) : wpAny (model prog w) A (pyNext (.ref z)) Q E s := by
  have isZip : s.TypeIs (.ref z) "zip" := ⟨_, hz, rfl⟩
  have body : ∀ (A' : Around) (E' : Value → Shared → Prop), wpAny (model prog w) A' (Builtin.«zip.__next__» ⟨[.ref z], []⟩) (fun fin s' => ∃ v, fin = .done (.ret v) ∧ Q (some v) s') E' s := by
    intro A' E'
    show wpAny _ _ (field (.ref z) 2 >>= _) _ _ s
    refine wpAny_bind (wpAny_field (i := 2) hz rfl rfl ?_)
    show wpAny _ _ (field (.ref z) 3 >>= _) _ _ s
    refine wpAny_bind (wpAny_field (i := 3) hz rfl rfl (wpAny_bind (wpAny_seqItems hTI rfl ?_)))
    refine wpAny_bind (wpAny_tupleHeld_zip hz hT fun ha hza hsa => ?_)
    rw [if_neg Bool.false_ne_true]
    refine wpAny_bind ?_
    rw [← Array.forIn_toList]
    simp only [List.forIn_nil, List.forIn_cons]
    refine wpAny_bind (wpAny_bind (wpAny_holding (wpAny_bind (RZ.nextOf_tuple_item (a1.extBut hsa.extBut D.i1z) (t1.extBut hsa.extBut D.l1z) ex fun hb b1 hsb => wpAny_pure (wpAny_pure ?_)))))
    refine wpAny_bind (wpAny_bind (wpAny_holding (wpAny_bind (RZ.nextOf_tuple_item ((a2.extBut hsa.extBut D.i2z).extBut hsb.extBut D.i12.symm) ((t2.extBut hsa.extBut D.l2z).extBut hsb.extBut D.l2i1) ey fun hc c2 hsc => wpAny_pure (wpAny_pure ?_)))))
    refine wpAny_pure ?_
    show wpAny _ _ (newTuple [x, y] >>= _) _ _ _
    refine wpAny_bind (wpAny_newTuple ?_)
    have size3 : hc.objs.size = s.heap.objs.size := (hsc.1.trans hsb.1).trans hsa.1
    have stays : ∀ b o, b ≠ z → b ≠ i1 → b ≠ i2 → s.heap.get? b = some o → hc.get? b = some o := fun b o n1 n2 n3 e => hsc.extBut b o n3 (hsb.extBut b o n2 (hsa.extBut b o n1 e))
    have pz : IsZipHeld hc z TI TO T true := hsc.extBut z _ D.i2z.symm (hsb.extBut z _ D.i1z.symm hza)
    refine wpAny_pure ⟨_, rfl, ?_⟩
    have fresh : IsPair (hc.push { cls := .type "tuple", data := .seq #[x, y] }) hc.objs.size x y := Heap.get?_push_size _ rfl
    have one : (hc.push { cls := .type "tuple", data := .seq #[x, y] }).objs.size = hc.objs.size + 1 := Heap.size_push ..
    show Q (some (.ref hc.objs.size)) _
    rw [size3] at fresh one ⊢
    exact q _ (Heap.get?_push_of_some _ pz) ((b1.extBut hsc.extBut D.i12).at fun o e => Heap.get?_push_of_some _ e) (c2.at fun o e => Heap.get?_push_of_some _ e) fresh one fun b o n1 n2 n3 e => Heap.get?_push_of_some _ (stays b o n1 n2 n3 e)
  unfold pyNext
  refine wpAny_bind (wpAny_attempt (wpAny_callSpecial?_slot (name := Str.ofString "__next__") isZip F.slot_zip_next (wpAny_call_entry F.slot_zip_next isZip F.entry_zip_next ?_ (F.args_zip_next_1 _))))
  exact wpAny_mono (body _ _) (fun fin s' ⟨v, e, h⟩ => ⟨v, e, wpAny_pure h⟩) fun _ _ h => h
theorem zt_end {k1 : Nat} {Q : Option Value → Shared → Prop} (hh : A.handled = none) (D : ZipApart z TI TO i1 i2 l1 l2) (hz : IsZipHeld s.heap z TI TO T f) (hT : s.heap.get? T = some oT) (hTI : IsPair s.heap TI (.ref i1) (.ref i2))
    (a1 : s.heap.IsTupleIter i1 l1 k1) (t1 : s.heap.IsTuple l1 xs) (ex : xs[k1]? = none)
    (q : ∀ h', (∀ b o, b ≠ z → b ≠ i1 → b ≠ i2 → s.heap.get? b = some o → h'.get? b = some o) → Q none { s with heap := h' }) : wpAny (model prog w) A (pyNext (.ref z)) Q E s := by
  have isZip : s.TypeIs (.ref z) "zip" := ⟨_, hz, rfl⟩
  unfold pyNext
  refine wpAny_bind (wpAny_attempt (wpAny_callSpecial?_slot (name := Str.ofString "__next__") isZip F.slot_zip_next (wpAny_call_entry F.slot_zip_next isZip F.entry_zip_next ?_ (F.args_zip_next_1 _))))
  show wpAny _ _ (field (.ref z) 2 >>= _) _ _ s
  refine wpAny_bind (wpAny_field (i := 2) hz rfl rfl ?_)
  show wpAny _ _ (field (.ref z) 3 >>= _) _ _ s
  refine wpAny_bind (wpAny_field (i := 3) hz rfl rfl (wpAny_bind (wpAny_seqItems hTI rfl ?_)))
  refine wpAny_bind (wpAny_tupleHeld_zip hz hT fun ha hza hsa => ?_)
  rw [if_neg Bool.false_ne_true]
  refine wpAny_bind ?_
  rw [← Array.forIn_toList]
  simp only [List.forIn_nil, List.forIn_cons]
  refine wpAny_bind (wpAny_bind (wpAny_holding (wpAny_bind (RZ.nextOf_tuple_end (s := { s with heap := ha }) hh (a1.extBut hsa.extBut D.i1z) (t1.extBut hsa.extBut D.l1z) ex fun hb e hsb he => ?_))))
  obtain ⟨o, ho, hc⟩ := he
  refine wpAny_bind (wpAny_isInstance (T := "StopIteration") (b := true) ⟨o, ho, hc⟩ isSubtype_stop ?_)
  exact wpAny_pure (q hb fun b o n1 n2 _ e => hsb b o n2 (hsa.extBut b o n1 e))
end
/-! ### a zip as a source of pairs for a list S that is being made -/
structure PSrc (prog : Program) (w : World) (z : Addr) (wr : List Addr) (n : Nat) (pr : Nat → Value × Value) (St : Nat → Addr → Heap → Prop) : Prop where
  type : ∀ i S (s : Shared), St i S s.heap → s.TypeIs (.ref z) "zip"
  self : ∀ (A : Around) (E : Value → Shared → Prop) i S (s : Shared) (Q : Value → Shared → Prop), St i S s.heap → Q (.ref z) s → wpAny (model prog w) A (pyIter (.ref z)) Q E s
  keep : ∀ i S h h', St i S h → (∀ b o, b ≠ S → h.get? b = some o → h'.get? b = some o) → St i S h'
  item : ∀ (A : Around) (E : Value → Shared → Prop) i S (s : Shared) (Q : Option Value → Shared → Prop), i < n → S < s.heap.objs.size → St i S s.heap →
    (∀ h', St (i + 1) S h' → h'.get? s.heap.objs.size = some { cls := .type "tuple", data := .seq #[(pr i).1, (pr i).2] } → h'.objs.size = s.heap.objs.size + 1 → (∀ b o, b ∉ wr → s.heap.get? b = some o → h'.get? b = some o) → Q (some (.ref s.heap.objs.size)) { s with heap := h' }) →
    wpAny (model prog w) A (pyNext (.ref z)) Q E s
  done : ∀ (A : Around) (E : Value → Shared → Prop) S (s : Shared) (Q : Option Value → Shared → Prop), A.handled = none → St n S s.heap → (∀ h', (∀ b o, b ∉ wr → s.heap.get? b = some o → h'.get? b = some o) → Q none { s with heap := h' }) →
    wpAny (model prog w) A (pyNext (.ref z)) Q E s
/-- the pairs that are out -/
structure Outs (pr : Nat → Value × Value) (lo : Addr) (h : Heap) (as : List Addr) : Prop where
  rise : as.Pairwise (· < ·)
  above : ∀ a ∈ as, lo ≤ a
  pairs : ∀ (j : Nat) (a : Addr), as[j]? = some a → h.get? a = some { cls := .type "tuple", data := .seq #[(pr j).1, (pr j).2] }
section
variable {prog : Program} {w : World} {A : Around} {E : Value → Shared → Prop} {s : Shared} {R : Result → Shared → Prop} {z : Addr} {wr : List Addr} {n : Nat} {pr : Nat → Value × Value} {St : Nat → Addr → Heap → Prop}
theorem Outs.lt {lo : Addr} {h : Heap} {as : List Addr} (g : Outs pr lo h as) {a : Addr} (ha : a ∈ as) : a < h.objs.size := by
  obtain ⟨j, hj⟩ := List.mem_iff_getElem?.mp ha
  exact Heap.lt_size (g.pairs j a hj)
theorem zip_loop (W : PSrc prog w z wr n pr St) {S lo : Addr} (hh : A.handled = none) (wlo : ∀ b ∈ wr, b < lo) (Slo : S < lo) (Sw : S ∉ wr) (hn : n ≤ sizeLine) (res : Value) {h0 : Heap}
    (fin : ∀ h' tk acc c as, (∀ b o, b ≠ S → b ∉ wr → h0.get? b = some o → h'.get? b = some o) → h'.get? S = some { cls := .type "list", dict := none, data := .seq acc c, slots := #[] } → as.length = n → Outs pr lo h' as → acc.toList = as.map Value.ref →
      R (.ok (.ret res)) { s with heap := h', toks := tk }) :
    ∀ (m i : Nat) (h : Heap) (tk c : Nat) (acc : Array Value) (as : List Addr), n - i = m → i ≤ n → St i S h → (∀ b o, b ≠ S → b ∉ wr → h0.get? b = some o → h.get? b = some o) → h.get? S = some { cls := .type "list", dict := none, data := .seq acc c, slots := #[] } →
      acc.toList = as.map Value.ref → as.length = i → Outs pr lo h as → lo ≤ h.objs.size → codeAny (model prog w) A (.builtin "list.extend.loop" ⟨[.ref S, .ref z, res], []⟩) R { s with heap := h, toks := tk } := by
  intro m
  induction m with
  | zero =>
    intro i h tk c acc as e1 e2 st kp hS ha hl g hlo
    have ein : i = n := by omega
    subst ein
    refine codeAny_builtin PySem.F.entry_extend_loop ?_
    rw [Around.under_plainId PySem.F.plain_extend_loop _]
    show wpAny _ A.in1 (pyNext (.ref z) >>= _) _ _ _
    refine wpAny_bind (W.done A.in1 _ S { s with heap := h, toks := tk } _ hh st fun h' k => wpAny_pure ?_)
    exact fin h' tk acc c as (fun b o n1 n2 e => k b o n2 (kp b o n1 n2 e)) (k S _ Sw hS) hl ⟨g.rise, g.above, fun j a hj => k a _ (fun q => absurd (wlo a q) (Nat.not_lt.mpr (g.above a (List.mem_of_getElem? hj)))) (g.pairs j a hj)⟩ ha
  | succ m ih =>
    intro i h tk c acc as e1 e2 st kp hS ha hl g hlo
    have lt : i < n := by omega
    have sz : acc.size = i := by rw [← Array.length_toList, ha, List.length_map, hl]
    refine codeAny_builtin PySem.F.entry_extend_loop ?_
    rw [Around.under_plainId PySem.F.plain_extend_loop _]
    show wpAny _ A.in1 (pyNext (.ref z) >>= _) _ _ _
    have Slt : S < h.objs.size := Heap.lt_size hS
    refine wpAny_bind (W.item A.in1 _ i S { s with heap := h, toks := tk } _ lt Slt st fun h' st' tup one k => ?_)
    have hS' : h'.get? S = some { cls := .type "list", dict := none, data := .seq acc c, slots := #[] } := k S _ Sw hS
    have tup' : h'.get? h.objs.size = some { cls := .type "tuple", data := .seq #[(pr i).1, (pr i).2] } := tup
    have one' : h'.objs.size = h.objs.size + 1 := one
    have nS : h.objs.size ≠ S := Nat.ne_of_gt Slt
    have off : ∀ b o, b ≠ S → h'.get? b = some o → (h'.update S (Obj.mapSeq (·.push (Value.ref h.objs.size)))).get? b = some o := fun b o nb e => (Heap.get?_update_other _ _ (Ne.symm nb)).trans e
    show wpAny _ A.in1 (updateSeq S (·.push (Value.ref h.objs.size)) >>= _) _ _ _
    refine wpAny_bind ?_
    refine wpAny_updateSeq hS' rfl (wpAny_pure ⟨plainId_quiet PySem.F.plain_extend_loop _, ?_⟩) (by rw [sz]; omega) (by show (acc.push (Value.ref h.objs.size)).size ≤ sizeLine + 1; rw [Array.size_push, sz]; omega)
    refine ih (i + 1) _ tk _ (acc.push (Value.ref h.objs.size)) (as ++ [h.objs.size]) (by omega) lt (W.keep _ _ _ _ st' off) (fun b o n1 n2 e => off b o n1 (k b o n2 (kp b o n1 n2 e))) (Heap.get?_update_self _ hS' rfl)
      (by rw [Array.toList_push, ha, List.map_append]; rfl) (by rw [List.length_append, hl]; rfl) ⟨?_, ?_, ?_⟩ ?_
    · refine List.pairwise_append.mpr ⟨g.rise, List.pairwise_singleton _ _, ?_⟩
      intro a q b q'
      obtain rfl := List.mem_singleton.mp q'
      exact g.lt q
    · intro a q
      rcases List.mem_append.mp q with q | q
      · exact g.above a q
      · obtain rfl := List.mem_singleton.mp q
        exact hlo
    · intro j b hj
      by_cases jl : j < as.length
      · rw [List.getElem?_append_left jl] at hj
        have ab := g.above b (List.mem_of_getElem? hj)
        exact off b _ (Nat.ne_of_gt (Nat.lt_of_lt_of_le Slo ab)) (k b _ (fun q => absurd (wlo b q) (Nat.not_lt.mpr ab)) (g.pairs j b hj))
      · rw [List.getElem?_append_right (by omega)] at hj
        have j0 : j - as.length = 0 := by
          cases q : j - as.length with
          | zero => rfl
          | succ r => rw [q] at hj; simp at hj
        have ej : j = i := by omega
        rw [j0] at hj
        obtain rfl : h.objs.size = b := Option.some.inj hj
        rw [ej]
        exact off _ _ nS tup'
    · have e : (h'.update S (Obj.mapSeq (·.push (Value.ref h.objs.size)))).get? h.objs.size = _ := off _ _ nS tup'
      exact Nat.le_trans hlo (Nat.le_of_lt (Heap.lt_size e))
theorem nolen_zip : typeLookup (.type "zip") "__len__" = pure none := by rw [typeLookup_type, builtinLookup_eq_fast]; kernel_rfl
theorem nohint_zip : typeLookup (.type "zip") "__length_hint__" = pure none := by rw [typeLookup_type, builtinLookup_eq_fast]; kernel_rfl
/-- the list's end behind the call -/
def ListOut (n : Nat) (pr : Nat → Value × Value) (wr : List Addr) (lo : Addr) (s : Shared) (Q : Value → Shared → Prop) : Prop :=
  ∀ h' tk acc c as, (∀ b o, b ∉ wr → s.heap.get? b = some o → h'.get? b = some o) → h'.get? s.heap.objs.size = some { cls := .type "list", dict := none, data := .seq acc c, slots := #[] } → as.length = n → Outs pr lo h' as → acc.toList = as.map Value.ref →
    Q (.ref s.heap.objs.size) { s with heap := h', toks := tk }
theorem call_list_zip {Q : Value → Shared → Prop} (W : PSrc prog w z wr n pr St) (hh : A.handled = none) (st : ∀ h', (∀ b o, s.heap.get? b = some o → h'.get? b = some o) → St 0 s.heap.objs.size h') (wlt : ∀ b ∈ wr, b < s.heap.objs.size) (zlt : z < s.heap.objs.size) (hn : n ≤ sizeLine)
    (q : ListOut n pr wr (s.heap.objs.size + 1) s Q) : wpAny (model prog w) A (call (.type "list") [.ref z]) Q E s := by
  refine callType_codes (Q₁ := fun obj s' => obj = .ref s.heap.objs.size ∧ s' = { s with heap := s.heap.push { cls := .type "list", data := .seq #[] } }) PySem.F.called_list (PySem.F.typeCall_list_1 _) PySem.F.entry_list_init (code_list_new _ ⟨rfl, rfl⟩) ?_
  rintro obj s' ⟨rfl, rfl⟩
  have at0 : (s.heap.push { cls := .type "list", data := .seq #[] }).get? s.heap.objs.size = some { cls := .type "list", data := .seq #[] } := Heap.get?_push_size _ rfl
  refine ⟨⟨_, at0, rfl⟩, PySem.F.args_list_init_2 _ _, ?_⟩
  show wpAny _ A.in1.in1 (do let old ← Builtin.List.listItems (.ref s.heap.objs.size); Builtin.List.listUpdate (.ref s.heap.objs.size) (fun _ => #[]); letGo old.toList.reverse; Builtin.List.listExtendWith (.ref s.heap.objs.size) (.ref z) .none) _ _ _
  refine wpAny_bind ?_
  unfold Builtin.List.listItems
  refine wpAny_bind (wpAny_seqItems at0 rfl (wpAny_pure ?_))
  show wpAny _ A.in1.in1 (updateSeq s.heap.objs.size (fun _ => #[]) >>= fun _ => letGo (#[] : Array Value).toList.reverse >>= fun _ => Builtin.List.listExtendWith (.ref s.heap.objs.size) (.ref z) .none) _ _ _
  refine wpAny_bind (wpAny_updateSeq at0 rfl (wpAny_bind (wpAny_letGo ?_)))
  have at1 := Heap.get?_update_self (Obj.mapSeq (fun _ => (#[] : Array Value))) at0 rfl
  have k1 : ∀ b o, s.heap.get? b = some o → ((s.heap.push { cls := .type "list", data := .seq #[] }).update s.heap.objs.size (Obj.mapSeq (fun _ => (#[] : Array Value)))).get? b = some o :=
    fun b o e => (Heap.get?_update_other _ _ (Nat.ne_of_gt (Heap.lt_size e))).trans (Heap.get?_push_of_some _ e)
  have st1 := st _ k1
  have zz : (Value.type "zip" == Value.type "list") = false := by decide
  have zt : (Value.type "zip" == Value.type "tuple") = false := by decide
  have nsame : Builtin.List.listSameRef (.ref s.heap.objs.size) (.ref z) = false := by simp [Builtin.List.listSameRef, Nat.ne_of_gt zlt]
  unfold Builtin.List.listExtendWith
  refine wpAny_bind (wpAny_typeOf (W.type 0 _ { s with heap := (s.heap.push { cls := .type "list", data := .seq #[] }).update s.heap.objs.size (Obj.mapSeq (fun _ => (#[] : Array Value))) } st1) ?_)
  simp only [nsame, zz, zt, Bool.or_false, Bool.false_eq_true, if_false]
  refine wpAny_bind (W.self _ _ 0 _ _ _ st1 (wpAny_bind (wpAny_holding ?_)))
  have isz := W.type 0 _ { s with heap := (s.heap.push { cls := .type "list", data := .seq #[] }).update s.heap.objs.size (Obj.mapSeq (fun _ => (#[] : Array Value))) } st1
  unfold Builtin.List.listLengthHint
  refine wpAny_bind (wpAny_specialOf isz nolen_zip ?_)
  show wpAny _ A.in1.in1 (specialOf (Value.ref z) (Str.ofString "__length_hint__") >>= _) _ _ _
  refine wpAny_bind (wpAny_specialOf isz nohint_zip (wpAny_pure ?_))
  show wpAny _ A.in1.in1 (rule "list.extend.makes-room" >>= fun _ => Builtin.List.listTouch (.ref s.heap.objs.size) >>= fun _ => again (.builtin "list.extend.loop" ⟨[.ref s.heap.objs.size, .ref z, .none], []⟩)) _ _ _
  refine wpAny_bind (wpAny_rule (wpAny_bind ?_))
  show wpAny _ A.in1.in1 (updateSeq s.heap.objs.size (·.push .none) >>= fun _ => updateSeq s.heap.objs.size (·.pop)) _ _ _
  refine wpAny_bind (wpAny_updateSeq at1 rfl ?_)
  have at2 := Heap.get?_update_self (Obj.mapSeq (·.push Value.none)) at1 rfl
  refine wpAny_updateSeq (hz := by seq_fits) at2 rfl ?_
  have at3 := Heap.get?_update_self (Obj.mapSeq (·.pop)) at2 rfl
  have k3 : ∀ b o, s.heap.get? b = some o → ((((s.heap.push { cls := .type "list", data := .seq #[] }).update s.heap.objs.size (Obj.mapSeq (fun _ => (#[] : Array Value)))).update s.heap.objs.size (Obj.mapSeq (·.push Value.none))).update s.heap.objs.size (Obj.mapSeq (·.pop))).get? b = some o := by
    intro b o e
    have nb := Nat.ne_of_gt (Heap.lt_size e)
    exact (Heap.get?_update_other _ _ nb).trans ((Heap.get?_update_other _ _ nb).trans (k1 b o e))
  have big : s.heap.objs.size + 1 ≤ ((((s.heap.push { cls := .type "list", data := .seq #[] }).update s.heap.objs.size (Obj.mapSeq (fun _ => (#[] : Array Value)))).update s.heap.objs.size (Obj.mapSeq (·.push Value.none))).update s.heap.objs.size (Obj.mapSeq (·.pop))).objs.size := Heap.lt_size at3
  refine wpAny_pure ⟨plainId_quiet F.plain_extend_loop _, ?_⟩
  refine zip_loop (s := s) (A := A.in1) W (S := s.heap.objs.size) (lo := s.heap.objs.size + 1) (h0 := s.heap) hh (fun b q => Nat.lt_succ_of_lt (wlt b q)) (Nat.lt_succ_self _) (fun q => absurd (wlt _ q) (Nat.lt_irrefl _)) hn .none ?_ n 0 _ s.toks _ #[] [] rfl (Nat.zero_le _) (st _ k3) (fun b o _ _ e => k3 b o e) at3 rfl rfl ⟨List.Pairwise.nil, fun _ q => (nomatch q), fun j a q => by simp at q⟩ big
  intro h' tk acc c as kp hS hl g ha
  exact ⟨rfl, q h' tk acc c as (fun b o n2 e => kp b o (Nat.ne_of_lt (Heap.lt_size e)) n2 e) hS hl g ha⟩
end

theorem psrc_lists {prog : Program} {w : World} {z TI TO i1 i2 l1 l2 : Addr} (D : ZipApart z TI TO i1 i2 l1 l2) (xs ys : Array Value) (hn : xs.size = ys.size) : PSrc prog w z [z, TO, i1, i2] xs.size (fun i => (xs.getD i .none, ys.getD i .none))
    (fun i S h => IsPair h TI (.ref i1) (.ref i2) ∧ h.IsListIter i1 l1 i ∧ h.IsListIter i2 l2 i ∧ h.IsList l1 xs ∧ h.IsList l2 ys ∧ (S ≠ z ∧ S ≠ TI ∧ S ≠ TO ∧ S ≠ i1 ∧ S ≠ i2 ∧ S ≠ l1 ∧ S ≠ l2) ∧
      ((IsZip h z TI TO .none ∧ ∃ a b, IsPair h TO a b) ∨ ∃ T f oT, IsZipHeld h z TI TO T f ∧ h.get? T = some oT ∧ T ≠ z ∧ T ≠ i1 ∧ T ≠ i2 ∧ T ≠ S)) where
  type := by
    rintro i S s ⟨_, _, _, _, _, _, ⟨hz, _⟩ | ⟨T, f, oT, hz, _⟩⟩
    · exact ⟨_, hz, rfl⟩
    · exact ⟨_, hz, rfl⟩
  self := by
    rintro A E i S s Q ⟨_, _, _, _, _, _, ⟨hz, _⟩ | ⟨T, f, oT, hz, _⟩⟩ q
    · exact wpAny_pyIter_zip hz q
    · have isz : s.TypeIs (.ref z) "zip" := ⟨_, hz, rfl⟩
      exact wpAny_pyIter_slot isz F.slot_zip_iter (wpAny_call_entry F.slot_zip_iter isz F.entry_zip_iter (wpAny_pure ⟨_, rfl, "zip", _, isz, F.slot_zip_next.lookup, q⟩) (F.args_zip_iter_1 _))
  keep := by
    rintro i S h h' ⟨p, a1, a2, t1, t2, ⟨n1, n2, n3, n4, n5, n6, n7⟩, hz⟩ k
    refine ⟨k _ _ n2.symm p, a1.at fun o e => k _ o n4.symm e, a2.at fun o e => k _ o n5.symm e, t1.at fun o e => k _ o n6.symm e, t2.at fun o e => k _ o n7.symm e, ⟨n1, n2, n3, n4, n5, n6, n7⟩, ?_⟩
    rcases hz with ⟨hz, a, b, ho⟩ | ⟨T, f, oT, hz, hT, r1, r2, r3, r4⟩
    · exact .inl ⟨k _ _ n1.symm hz, a, b, k _ _ n3.symm ho⟩
    · exact .inr ⟨T, f, oT, k _ _ n1.symm hz, k _ _ r4 hT, r1, r2, r3, r4⟩
  item := by
    rintro A E i S s Q lt Slt ⟨p, a1, a2, t1, t2, ns, hz⟩ q
    have ex : xs[i]? = some (xs.getD i .none) := by simp [Array.getD, lt]
    have ey : ys[i]? = some (ys.getD i .none) := by
      have : i < ys.size := by omega
      simp [Array.getD, this]
    have new : ∀ {b o}, s.heap.get? b = some o → s.heap.objs.size ≠ b := fun e => Nat.ne_of_gt (Heap.lt_size e)
    have ni1 : s.heap.objs.size ≠ i1 := let ⟨_, e, _⟩ := a1; new e
    have ni2 : s.heap.objs.size ≠ i2 := let ⟨_, e, _⟩ := a2; new e
    rcases hz with ⟨hz, a, b, ho⟩ | ⟨T, f, oT, hz, hT, r1, r2, r3, r4⟩
    · refine wpAny_pyNext_zip_item D hz p ho a1 a2 t1 t2 ex ey fun h' c1 c2 c3 c4 c5 c6 k => ?_
      refine q h' ⟨k _ _ D.TIz D.TITO D.TIi1 D.TIi2 p, c3, c4, t1.at fun o e => k _ o D.l1z D.l1TO D.l1i1 D.l1i2 e, t2.at fun o e => k _ o D.l2z D.l2TO D.l2i1 D.l2i2 e, ns, .inr ⟨s.heap.objs.size, false, _, c1, c5, new hz, ni1, ni2, Nat.ne_of_gt Slt⟩⟩ c5 c6 fun b o nb e => ?_
      simp only [List.mem_cons, List.not_mem_nil, or_false, not_or] at nb
      exact k b o nb.1 nb.2.1 nb.2.2.1 nb.2.2.2 e
    · refine wpAny_pyNext_zip_item_held D hz hT p a1 a2 t1 t2 ex ey fun h' c1 c3 c4 c5 c6 k => ?_
      refine q h' ⟨k _ _ D.TIz D.TIi1 D.TIi2 p, c3, c4, t1.at fun o e => k _ o D.l1z D.l1i1 D.l1i2 e, t2.at fun o e => k _ o D.l2z D.l2i1 D.l2i2 e, ns, .inr ⟨T, true, oT, c1, k _ _ r1 r2 r3 hT, r1, r2, r3, r4⟩⟩ c5 c6 fun b o nb e => ?_
      simp only [List.mem_cons, List.not_mem_nil, or_false, not_or] at nb
      exact k b o nb.1 nb.2.2.1 nb.2.2.2 e
  done := by
    rintro A E S s Q hh ⟨p, a1, a2, t1, t2, ns, hz⟩ q
    have ex : xs[xs.size]? = none := by simp
    rcases hz with ⟨hz, a, b, ho⟩ | ⟨T, f, oT, hz, hT, r1, r2, r3, r4⟩
    · refine wpAny_pyNext_zip_end hh D hz p ho a1 a2 t1 t2 (.inl ex) fun h' k => q h' fun b o nb e => ?_
      simp only [List.mem_cons, List.not_mem_nil, or_false, not_or] at nb
      exact k b o nb.1 nb.2.1 nb.2.2.1 nb.2.2.2 e
    · refine wpAny_pyNext_zip_end_held hh D hz hT p a1 a2 t1 t2 (.inl ex) fun h' k => q h' fun b o nb e => ?_
      simp only [List.mem_cons, List.not_mem_nil, or_false, not_or] at nb
      exact k b o nb.1 nb.2.2.1 nb.2.2.2 e

theorem psrc_tuples {prog : Program} {w : World} {z TI TO i1 i2 l1 l2 : Addr} (D : ZipApart z TI TO i1 i2 l1 l2) (xs ys : Array Value) (hn : xs.size = ys.size) : PSrc prog w z [z, TO, i1, i2] xs.size (fun i => (xs.getD i .none, ys.getD i .none))
    (fun i S h => IsPair h TI (.ref i1) (.ref i2) ∧ h.IsTupleIter i1 l1 i ∧ h.IsTupleIter i2 l2 i ∧ h.IsTuple l1 xs ∧ h.IsTuple l2 ys ∧ (S ≠ z ∧ S ≠ TI ∧ S ≠ TO ∧ S ≠ i1 ∧ S ≠ i2 ∧ S ≠ l1 ∧ S ≠ l2) ∧
      ((IsZip h z TI TO .none ∧ ∃ a b, IsPair h TO a b) ∨ ∃ T f oT, IsZipHeld h z TI TO T f ∧ h.get? T = some oT ∧ T ≠ z ∧ T ≠ i1 ∧ T ≠ i2 ∧ T ≠ S)) where
  type := by
    rintro i S s ⟨_, _, _, _, _, _, ⟨hz, _⟩ | ⟨T, f, oT, hz, _⟩⟩
    · exact ⟨_, hz, rfl⟩
    · exact ⟨_, hz, rfl⟩
  self := by
    rintro A E i S s Q ⟨_, _, _, _, _, _, ⟨hz, _⟩ | ⟨T, f, oT, hz, _⟩⟩ q
    · exact wpAny_pyIter_zip hz q
    · have isz : s.TypeIs (.ref z) "zip" := ⟨_, hz, rfl⟩
      exact wpAny_pyIter_slot isz F.slot_zip_iter (wpAny_call_entry F.slot_zip_iter isz F.entry_zip_iter (wpAny_pure ⟨_, rfl, "zip", _, isz, F.slot_zip_next.lookup, q⟩) (F.args_zip_iter_1 _))
  keep := by
    rintro i S h h' ⟨p, a1, a2, t1, t2, ⟨n1, n2, n3, n4, n5, n6, n7⟩, hz⟩ k
    refine ⟨k _ _ n2.symm p, a1.at fun o e => k _ o n4.symm e, a2.at fun o e => k _ o n5.symm e, t1.at fun o e => k _ o n6.symm e, t2.at fun o e => k _ o n7.symm e, ⟨n1, n2, n3, n4, n5, n6, n7⟩, ?_⟩
    rcases hz with ⟨hz, a, b, ho⟩ | ⟨T, f, oT, hz, hT, r1, r2, r3, r4⟩
    · exact .inl ⟨k _ _ n1.symm hz, a, b, k _ _ n3.symm ho⟩
    · exact .inr ⟨T, f, oT, k _ _ n1.symm hz, k _ _ r4 hT, r1, r2, r3, r4⟩
  item := by
    rintro A E i S s Q lt Slt ⟨p, a1, a2, t1, t2, ns, hz⟩ q
    have ex : xs[i]? = some (xs.getD i .none) := by simp [Array.getD, lt]
    have ey : ys[i]? = some (ys.getD i .none) := by
      have : i < ys.size := by omega
      simp [Array.getD, this]
    have new : ∀ {b o}, s.heap.get? b = some o → s.heap.objs.size ≠ b := fun e => Nat.ne_of_gt (Heap.lt_size e)
    have ni1 : s.heap.objs.size ≠ i1 := let ⟨_, e, _⟩ := a1; new e
    have ni2 : s.heap.objs.size ≠ i2 := let ⟨_, e, _⟩ := a2; new e
    rcases hz with ⟨hz, a, b, ho⟩ | ⟨T, f, oT, hz, hT, r1, r2, r3, r4⟩
    · refine RZ.pyNext_zipT_item D hz p ho a1 a2 t1 t2 ex ey fun h' c1 c2 c3 c4 c5 c6 k => ?_
      refine q h' ⟨k _ _ D.TIz D.TITO D.TIi1 D.TIi2 p, c3, c4, t1.at fun o e => k _ o D.l1z D.l1TO D.l1i1 D.l1i2 e, t2.at fun o e => k _ o D.l2z D.l2TO D.l2i1 D.l2i2 e, ns, .inr ⟨s.heap.objs.size, false, _, c1, c5, new hz, ni1, ni2, Nat.ne_of_gt Slt⟩⟩ c5 c6 fun b o nb e => ?_
      simp only [List.mem_cons, List.not_mem_nil, or_false, not_or] at nb
      exact k b o nb.1 nb.2.1 nb.2.2.1 nb.2.2.2 e
    · refine zt_item D hz hT p a1 a2 t1 t2 ex ey fun h' c1 c3 c4 c5 c6 k => ?_
      refine q h' ⟨k _ _ D.TIz D.TIi1 D.TIi2 p, c3, c4, t1.at fun o e => k _ o D.l1z D.l1i1 D.l1i2 e, t2.at fun o e => k _ o D.l2z D.l2i1 D.l2i2 e, ns, .inr ⟨T, true, oT, c1, k _ _ r1 r2 r3 hT, r1, r2, r3, r4⟩⟩ c5 c6 fun b o nb e => ?_
      simp only [List.mem_cons, List.not_mem_nil, or_false, not_or] at nb
      exact k b o nb.1 nb.2.2.1 nb.2.2.2 e
  done := by
    rintro A E S s Q hh ⟨p, a1, a2, t1, t2, ns, hz⟩ q
    have ex : xs[xs.size]? = none := by simp
    rcases hz with ⟨hz, a, b, ho⟩ | ⟨T, f, oT, hz, hT, r1, r2, r3, r4⟩
    · refine RZ.pyNext_zipT_end hh D hz p ho a1 a2 t1 t2 (.inl ex) fun h' k => q h' fun b o nb e => ?_
      simp only [List.mem_cons, List.not_mem_nil, or_false, not_or] at nb
      exact k b o nb.1 nb.2.1 nb.2.2.1 nb.2.2.2 e
    · refine zt_end hh D hz hT p a1 t1 ex fun h' k => q h' fun b o nb e => ?_
      simp only [List.mem_cons, List.not_mem_nil, or_false, not_or] at nb
      exact k b o nb.1 nb.2.2.1 nb.2.2.2 e

/-! ### the rule -/
def putP : Hp → List Addr → List (V × V) → Hp
  | H, a :: as, p :: ps => putP (upd H a (.tup [p.1, p.2])) as ps
  | H, _, _ => H
theorem putP_off {b : Addr} : ∀ (as : List Addr) (ps : List (V × V)) (H : Hp), b ∉ as → putP H as ps b = H b
  | [], _, _, _ => rfl
  | _ :: _, [], _, _ => rfl
  | a :: as, p :: ps, H, h => by
    have h1 : b ∉ as := fun q => h (List.mem_cons_of_mem _ q)
    have h2 : b ≠ a := fun q => h (by rw [q]; exact List.mem_cons_self)
    show putP (upd H a (.tup [p.1, p.2])) as ps b = H b
    rw [putP_off as ps _ h1, upd_ne h2]
theorem putP_at : ∀ (as : List Addr) (ps : List (V × V)) (H : Hp), as.length = ps.length → as.Nodup → Paired (fun (t : Addr) (p : V × V) => putP H as ps t = some (.tup [p.1, p.2])) as ps
  | [], [], _, _, _ => .nil
  | [], _ :: _, _, h, _ => by cases h
  | _ :: _, [], _, h, _ => by cases h
  | a :: as, p :: ps, H, h, hn => by
    obtain ⟨n1, n2⟩ := List.nodup_cons.mp hn
    refine .cons ?_ (putP_at as ps (upd H a (.tup [p.1, p.2])) (Nat.succ.inj h) n2)
    show putP (upd H a (.tup [p.1, p.2])) as ps a = some (.tup [p.1, p.2])
    rw [putP_off as ps _ n1, upd_same]
/-- behind list(zip(..)): a new list of new pairs -/
def ZipEnd (H : Hp) (Q : VK) (xs ys : List V) : Prop := ∀ (H' : Hp) (l : Addr) (ts : List Addr), Same H H' → H l = none → H' l = some (.lst (ts.map V.ref)) → Paired (fun (t : Addr) (p : V × V) => H' t = some (.tup [p.1, p.2])) ts (xs.zip ys) → Q (.ref l) H'
section
variable {X : Cx} {pins : List (Addr × Obj)} {σ : L2.St} {H : Hp} {s : Shared} {xs ys : List V} {us vs : List Value}
theorem na_not {L : Nat} (h : L + 1 ≤ L) : False := by omega
theorem na_le {n L t : Nat} (h : n ≤ L) (g : L + 1 ≤ t) : n ≤ t := by omega
theorem na_ne {b n L : Nat} (h : b < n) (g : n ≤ L) : b ≠ L := by omega
theorem na_out {b n L : Nat} (h : b < n) (g : n ≤ L) (q : L + 1 ≤ b) : False := by omega
theorem na_ns {n a b : Nat} (la : a < n) (lb : b < n) : n + 5 ≠ n + 4 ∧ n + 5 ≠ n + 2 ∧ n + 5 ≠ n + 3 ∧ n + 5 ≠ n ∧ n + 5 ≠ n + 1 ∧ n + 5 ≠ a ∧ n + 5 ≠ b := by omega
theorem na_wr {n b : Nat} (h : b = n + 4 ∨ b = n + 3 ∨ b = n ∨ b = n + 1) : b < n + 5 := by omega
theorem na_old {n b : Nat} (h : b < n) (q : b = n + 4 ∨ b = n + 3 ∨ b = n ∨ b = n + 1) : False := by omega
theorem getD_of {us : List Value} {j : Nat} {u : Value} (h : us[j]? = some u) : us.toArray.getD j .none = u := by
  obtain ⟨h1, h2⟩ := List.getElem?_eq_some_iff.mp h
  simp [Array.getD, h1, h2]
theorem zip_laid (I : Inv X pins σ H s) (rx : Vals xs us) (ry : Vals ys vs) {h2 : Heap} {tk c L : Nat} {acc : Array Value} {as : List Addr} (k : ∀ b o, s.heap.get? b = some o → h2.get? b = some o) (hL : s.heap.objs.size ≤ L)
    (hS : h2.get? L = some { cls := .type "list", dict := none, data := .seq acc c, slots := #[] }) (hn : as.length = (xs.zip ys).length) (hz : as.length ≤ sizeLine) (g : Outs (fun i => (us.toArray.getD i .none, vs.toArray.getD i .none)) (L + 1) h2 as) (ha : acc.toList = as.map Value.ref) :
    ∃ H' : Hp, Same H H' ∧ H L = none ∧ H' L = some (.lst (as.map V.ref)) ∧ Paired (fun (t : Addr) (p : V × V) => H' t = some (.tup [p.1, p.2])) as (xs.zip ys) ∧ Inv X pins σ H' { s with heap := h2, toks := tk } := by
  have nL : L ∉ as := fun q => na_not (g.above L q)
  have nd : as.Nodup := List.Pairwise.imp (fun {a b} (h : a < b) => Nat.ne_of_lt h) g.rise
  have newT : ∀ t ∈ as, H t = none := fun t q => I.hok.fresh (na_le hL (g.above t q))
  have newL : H L = none := I.hok.fresh hL
  have tups := putP_at as (xs.zip ys) (upd H L (.lst (as.map V.ref))) hn nd
  have off : ∀ b, b ∉ as → b ≠ L → putP (upd H L (.lst (as.map V.ref))) as (xs.zip ys) b = H b := fun b q1 q2 => by rw [putP_off as _ _ q1, upd_ne q2]
  have low : ∀ b o, s.heap.get? b = some o → b ∉ as ∧ b ≠ L := fun b o e => by
    have lt := Heap.lt_size e
    exact ⟨fun q => na_out lt hL (g.above b q), na_ne lt hL⟩
  have kp : Same H (putP (upd H L (.lst (as.map V.ref))) as (xs.zip ys)) := fun b u e => by
    rw [off b (fun q => by rw [newT b q] at e; cases e) (fun q => by rw [q, newL] at e; cases e)]
    exact e
  have atL : putP (upd H L (.lst (as.map V.ref))) as (xs.zip ys) L = some (.lst (as.map V.ref)) := by rw [putP_off as _ _ nL, upd_same]
  refine ⟨_, kp, newL, atL, tups, ?_⟩
  have un : Un (frs X.stack) [] H (putP (upd H L (.lst (as.map V.ref))) as (xs.zip ys)) s.heap h2 := by
    refine ⟨fun b o e _ _ _ => k b o e, fun b o e _ _ _ => ⟨o.slots, k b o e⟩, fun b o e n _ => ?_, fun b o e _ => ⟨o, k b o e⟩, fun b zs e => kp b _ e, fun b o u e => kp b _ e, fun b ps e => ⟨#[], ?_⟩⟩
    · obtain ⟨q1, q2⟩ := low b o e
      rw [off b q1 q2]
      exact n
    · rw [kp b _ e]
      simp
  refine I.call' (ch := []) rfl un (fun b u e => ?_) I.bare fun b q => nomatch q
  by_cases hb : b ∈ as
  · obtain ⟨j, p, e1, e2, e3⟩ := LiI.paired_ix tups hb
    rw [e3] at e
    cases e
    obtain ⟨x1, y1⟩ := List.getElem?_zip_eq_some.mp e2
    obtain ⟨u, eu, ru⟩ := Vals.get rx x1
    obtain ⟨v, ev, rv⟩ := Vals.get ry y1
    have t := g.pairs j b e1
    rw [getD_of eu, getD_of ev] at t
    exact ⟨by show 2 ≤ sizeLine; decide, [u, v], .cons ru (.cons rv .nil), ⟨_, t, rfl, _, rfl⟩⟩
  · by_cases hb2 : b = L
    · rw [hb2] at e ⊢
      rw [atL] at e
      cases e
      refine ⟨by rw [List.length_map]; exact hz, acc.toList, c, by rw [ha]; exact LiI.vals_refs as, ?_⟩
      rw [Array.toArray_toList]
      exact hS
    · rw [off b hb hb2] at e
      exact (I.hok b u e).stay (fun d w _ q => k d w q) (fun d q => kp d _ q) fun d zs q => kp d _ q
def tListZip (K : PySem.W.Frag) (ta : TA) : TE := fun σ H Q => ta σ H fun vs H1 => ∃ (a b : Addr) (xs ys : List V), vs = [.ref a, .ref b] ∧ ((SqL K H1 a xs ∧ SqL K H1 b ys) ∨ (SqT K H1 a xs ∧ SqT K H1 b ys)) ∧ xs.length = ys.length ∧ ZipEnd H1 Q xs ys
theorem pe_listZip {e e2 : Expr} {ta : TA} {p p2 pos pos2 : Pos} (hg : Gl X "list") (hm : X.mg "list" = none) (hgz : Gl X "zip") (hmz : X.mg "zip" = none) (hc : X.calm = true) (hp : PA X [e, e2] ta)
    (hs : starEach [.Call (.Name "zip" p2) [e, e2] [] pos2] X.env = (false, eval (.Call (.Name "zip" p2) [e, e2] [] pos2) X.env) :: starEach [] X.env := by rfl) (hpl : (backTo pos (starEach [] X.env)).any (·.1) = false := by rfl)
    (hs2 : starEach [e, e2] X.env = (false, eval e X.env) :: starEach [e2] X.env := by rfl) (hpl2 : (backTo pos2 (starEach [e2] X.env)).any (·.1) = false := by rfl) :
    PE X (.Call (.Name "list" p) [.Call (.Name "zip" p2) [e, e2] [] pos2] [] pos) (tListZip X.K ta) := by
  refine ⟨fun pins s σ H Q I h => ?_⟩
  refine Call_ (ld_blt I hg hm (show bootBuiltins "list" = some (Value.type "list") by decide +kernel) (PyProof.Rows.callWith_type1 ?_ hs hpl))
  rw [hs]
  show wpAny _ _ (spliced ((false, eval (.Call (.Name "zip" p2) [e, e2] [] pos2) X.env) :: backTo pos (starEach [] X.env))) _ _ s
  refine Calls.spliced_cons ?_
  refine Call_ (ld_blt I hgz hmz PyProof.Rows.boot_zip (PyProof.Rows.callWith_type1 (thn (hp.run pos2 pins s σ H _ I h) fun us s1 ⟨vs, H1, I1, r1, q1⟩ => ?_) hs2 hpl2))
  obtain ⟨a, b, xs, ys, ex, hq, hl, q⟩ := q1
  subst ex
  cases r1 with
  | cons r rr =>
    cases rr with
    | cons r' rr =>
      cases rr
      cases r
      cases r'
      rcases hq with ⟨hx, hy⟩ | ⟨hx, hy⟩
      · obtain ⟨ia, rv, p1, z1⟩ := I1.list hx
        obtain ⟨ib, rw', p3, _⟩ := I1.list hy
        have eq : ia.toArray.size = ib.toArray.size := by simp only [List.size_toArray]; rw [← rv.length, ← rw'.length]; exact hl
        refine call_zip_2 p1.isList p3.isList fun h' hz hTI hTO h1 h2 hsz hk => Calls.spliced_nil ?_
        refine call_list_zip (s := { s1 with heap := h' }) (psrc_lists (PySem.W.ktu_apart s1.heap.objs.size a b p1.lt p3.lt) ia.toArray ib.toArray eq) (I1.ok.hd hc) ?_ ?_ ?_ ?_ ?_
        · intro h2' k
          have la := p1.lt
          have lb := p3.lt
          refine ⟨k _ _ hTI, h1.at fun o e => k _ o e, h2.at fun o e => k _ o e, p1.isList.at fun o e => k _ o (hk _ o e), p3.isList.at fun o e => k _ o (hk _ o e), ?_, .inl ⟨k _ _ hz, _, _, k _ _ hTO⟩⟩
          show h'.objs.size ≠ _ ∧ h'.objs.size ≠ _ ∧ h'.objs.size ≠ _ ∧ h'.objs.size ≠ _ ∧ h'.objs.size ≠ _ ∧ h'.objs.size ≠ _ ∧ h'.objs.size ≠ _
          rw [hsz]
          exact na_ns la lb
        · intro b' hb'
          show b' < h'.objs.size
          rw [hsz]
          simp only [List.mem_cons, List.not_mem_nil, or_false] at hb'
          exact na_wr hb'
        · show s1.heap.objs.size + 4 < h'.objs.size
          rw [hsz]
          exact Nat.lt_succ_self _
        · rw [List.size_toArray, ← rv.length]
          exact z1
        · intro h3 tk acc c as kp hS hlen g ha
          have kk : ∀ b' o, s1.heap.get? b' = some o → h3.get? b' = some o := fun b' o e => kp b' o (fun z => by
            have := Heap.lt_size e
            simp only [List.mem_cons, List.not_mem_nil, or_false] at z
            exact na_old this z) (hk b' o e)
          have lz : (xs.zip ys).length = xs.length := by rw [List.length_zip]; omega
          have la : as.length = xs.length := by rw [hlen, List.size_toArray, ← rv.length]
          obtain ⟨H', c1, c2, c3, c4, J⟩ := zip_laid (tk := tk) I1 rv rw' kk (show s1.heap.objs.size ≤ h'.objs.size by rw [hsz]; exact Nat.le_add_right _ _) hS (by omega) (by omega) g ha
          exact ⟨.ref h'.objs.size, H', J, rfl, q H' _ as c1 c2 c3 c4⟩
      · obtain ⟨ia, rv, p1, z1⟩ := I1.tuple hx
        obtain ⟨ib, rw', p3, _⟩ := I1.tuple hy
        have eq : ia.toArray.size = ib.toArray.size := by simp only [List.size_toArray]; rw [← rv.length, ← rw'.length]; exact hl
        refine RZ.call_zipT p1 p3 fun h' hz hTI hTO h1 h2 hsz hk => Calls.spliced_nil ?_
        refine call_list_zip (s := { s1 with heap := h' }) (psrc_tuples (PySem.W.ktu_apart s1.heap.objs.size a b p1.lt p3.lt) ia.toArray ib.toArray eq) (I1.ok.hd hc) ?_ ?_ ?_ ?_ ?_
        · intro h2' k
          have la := p1.lt
          have lb := p3.lt
          refine ⟨k _ _ hTI, h1.at fun o e => k _ o e, h2.at fun o e => k _ o e, Heap.IsTuple.at p1 fun o e => k _ o (hk _ o e), Heap.IsTuple.at p3 fun o e => k _ o (hk _ o e), ?_, .inl ⟨k _ _ hz, _, _, k _ _ hTO⟩⟩
          show h'.objs.size ≠ _ ∧ h'.objs.size ≠ _ ∧ h'.objs.size ≠ _ ∧ h'.objs.size ≠ _ ∧ h'.objs.size ≠ _ ∧ h'.objs.size ≠ _ ∧ h'.objs.size ≠ _
          rw [hsz]
          exact na_ns la lb
        · intro b' hb'
          show b' < h'.objs.size
          rw [hsz]
          simp only [List.mem_cons, List.not_mem_nil, or_false] at hb'
          exact na_wr hb'
        · show s1.heap.objs.size + 4 < h'.objs.size
          rw [hsz]
          exact Nat.lt_succ_self _
        · rw [List.size_toArray, ← rv.length]
          exact z1
        · intro h3 tk acc c as kp hS hlen g ha
          have kk : ∀ b' o, s1.heap.get? b' = some o → h3.get? b' = some o := fun b' o e => kp b' o (fun z => by
            have := Heap.lt_size e
            simp only [List.mem_cons, List.not_mem_nil, or_false] at z
            exact na_old this z) (hk b' o e)
          have lz : (xs.zip ys).length = xs.length := by rw [List.length_zip]; omega
          have la : as.length = xs.length := by rw [hlen, List.size_toArray, ← rv.length]
          obtain ⟨H', c1, c2, c3, c4, J⟩ := zip_laid (tk := tk) I1 rv rw' kk (show s1.heap.objs.size ≤ h'.objs.size by rw [hsz]; exact Nat.le_add_right _ _) hS (by omega) (by omega) g ha
          exact ⟨.ref h'.objs.size, H', J, rfl, q H' _ as c1 c2 c3 c4⟩
end
end L3

/-! dicts of kinds that are equal -/
namespace L3
open PySem PySem.Spec PyProof.Rows L2
section
variable {X : Cx} {pins : List (Addr × Obj)} {σ : L2.St} {H : Hp} {s : Shared}
theorem opR_or {f : Value → Value → Sem Value} {r r' : R2} (h : OpR X f r) (h' : OpR X f r') : OpR X f (fun x y H Q => r x y H Q ∨ r' x y H Q) := by
  intro pins s σ H x y v u Q I rx ry q
  rcases q with q | q
  · exact h pins s σ H x y v u Q I rx ry q
  · exact h' pins s σ H x y v u Q I rx ry q
theorem kv_hits (I : Inv X pins σ H s) {A : Around} (hu : A.units + 64 < cLine) {ls : List (Key × V)} {b2 : By} {vb : List (Key × Value)} (rb : KV ls vb) (k2 : ByAt H ls b2) (f2 : ∀ q ∈ b2, q.2.fit 60) :
    ∀ {ks : List (Key × V)} {b1 : By} {va : List (Key × Value)}, KV ks va → ByAt H ks b1 → (∀ q ∈ b1, q.2.fit 60 ∧ lk b2 q.1 = some q.2) → PySem.W.KeqHits A s vb va true
  | _, _, _, .nil, .nil, _ => .nil
  | (key, v) :: ks, (x, k) :: b1, (key', u) :: va, .cons ⟨e1, r1⟩ t1, .cons ⟨e2, g⟩ t2, h => by
    obtain ⟨fk, el⟩ := h _ List.mem_cons_self
    have e1' : key = key' := e1
    have e2' : key = .inr x := e2
    subst e1' e2'
    rcases k2.get x with ⟨_, z⟩ | ⟨v2, k', e3, e4, g'⟩
    · rw [z] at el
      cases el
    · rw [e4] at el
      cases el
      have rr : RelO (some v2) (valueAt vb (.inr x)) := by
        rw [← e3]
        exact rb.val (.inr x)
      obtain ⟨y, hy, ry⟩ := rr.some_of
      obtain ⟨as, ra⟩ := Dp.reads I _ v u g.dp r1
      obtain ⟨bs, rb'⟩ := Dp.reads I _ v2 y g'.dp ry
      obtain ⟨l1, l2⟩ := Kd.lay fk
      have eq := SeqAt.eqAt_reads _ _ A s u y as bs ra rb' l1 l1 (by have : min k.dat.depth k.dat.depth = k.dat.depth := Nat.min_self _; omega)
      rw [Kd.eqv, decide_eq_true rfl] at eq
      exact PySem.W.KeqHits.hit hy eq (kv_hits I hu rb k2 f2 t1 t2 fun q hq => h q (List.mem_cons_of_mem _ hq))
def rBy (r : Bool) : R2 := fun x y H Q => ∃ (a b : Addr) (ks ls : List (Key × V)) (b1 b2 : By), x = .ref a ∧ y = .ref b ∧ H a = some (.dK ks) ∧ H b = some (.dK ls) ∧ ByAt H ks b1 ∧ ByAt H ls b2 ∧ b1.length = b2.length ∧ (∀ q ∈ b1, q.2.fit 60 ∧ lk b2 q.1 = some q.2) ∧ (∀ q ∈ b2, q.2.fit 60) ∧ Q (.bl r) H
theorem op_eqBy (hu : X.A.units + 65 < cLine) : OpR X (compareOp .Eq) (rBy true) := by
  intro pins s σ H x y v u Q I rx ry ⟨a, b, ks, ls, b1, b2, ex, ey, ea, eb, k1, k2, hl, h1, h2, q⟩
  subst ex ey
  obtain rfl : v = Value.ref a := rx
  obtain rfl : u = Value.ref b := ry
  obtain ⟨_, ya, va, ra, da⟩ := (show ObjOk X.prog X.w H s.heap a (.dK ks) from I.hok a _ ea)
  obtain ⟨_, yb, vb, rb, db⟩ := (show ObjOk X.prog X.w H s.heap b (.dK ls) from I.hok b _ eb)
  have lv : va.length = vb.length := by rw [← ra.length, ← rb.length, Paired.length k1, Paired.length k2]; exact hl
  refine PySem.W.keq_eq (knd := mixKind X.prog X.w) (r := true) ya yb da db (by omega) (fun _ => kv_hits I (A := X.A.in1) (by show X.A.units + 1 + 64 < cLine; omega) rb k2 h2 ra k1 h1) ?_
  have e : (va.length == vb.length && true) = true := by simp [lv]
  rw [e]
  exact ⟨.bl true, H, I, rfl, q⟩
theorem op_neBy (hu : X.A.units + 65 < cLine) : OpR X (compareOp .NotEq) (rBy false) := by
  intro pins s σ H x y v u Q I rx ry ⟨a, b, ks, ls, b1, b2, ex, ey, ea, eb, k1, k2, hl, h1, h2, q⟩
  subst ex ey
  obtain rfl : v = Value.ref a := rx
  obtain rfl : u = Value.ref b := ry
  obtain ⟨_, ya, va, ra, da⟩ := (show ObjOk X.prog X.w H s.heap a (.dK ks) from I.hok a _ ea)
  obtain ⟨_, yb, vb, rb, db⟩ := (show ObjOk X.prog X.w H s.heap b (.dK ls) from I.hok b _ eb)
  have lv : va.length = vb.length := by rw [← ra.length, ← rb.length, Paired.length k1, Paired.length k2]; exact hl
  refine PySem.W.keq_ne (knd := mixKind X.prog X.w) (r := true) ya yb da db (by omega) (fun _ => kv_hits I (A := X.A.in1) (by show X.A.units + 1 + 64 < cLine; omega) rb k2 h2 ra k1 h1) ?_
  have e : (!(va.length == vb.length && true)) = false := by simp [lv]
  rw [e]
  exact ⟨.bl false, H, I, rfl, q⟩
end
/-- what is in order names each key once -/
theorem addV_nodup {fs : List Str} (x : Str) (h : fs.Nodup) : (addV fs x).Nodup := by
  unfold addV
  by_cases e : x ∈ fs
  · rw [if_pos e]
    exact h
  · rw [if_neg e]
    exact List.nodup_append.mpr ⟨h, by simp, fun a ha b hb => by rw [List.mem_singleton.mp hb]; intro z; rw [z] at ha; exact e ha⟩
theorem Kd.vs_nodup : ∀ (k : Kd) {fs : List Str}, fs.Nodup → (k.vs fs).Nodup
  | .var x, _, h => addV_nodup x h
  | .con _, _, h => h
  | .app a b, _, h => Kd.vs_nodup b (Kd.vs_nodup a h)
theorem vsL_nodup : ∀ (ks : List Kd) {fs : List Str}, fs.Nodup → (vsL ks fs).Nodup
  | [], _, h => h
  | k :: r, _, h => vsL_nodup r (k.vs_nodup h)
theorem lk_self : ∀ (b : By), (names b).Nodup → ∀ q ∈ b, lk b q.1 = some q.2
  | [], _, q, h => nomatch h
  | p :: r, hn, q, h => by
    obtain ⟨n1, n2⟩ := List.nodup_cons.mp (show (p.1 :: names r).Nodup from hn)
    rcases List.mem_cons.mp h with e | h
    · rw [e]
      exact lk_pos rfl
    · have ne : ¬ p.1 = q.1 := fun z => n1 (by rw [z]; exact List.mem_map.mpr ⟨q, h, rfl⟩)
      rw [lk_neg ne]
      exact lk_self r n2 q h
end L3

/-! how kinds are shown: no dict, not too long -/
namespace L3
open PySem L2
theorem shown_word {x : Str} (w : Wok x) : (PyData.str x).shown.length ≤ 82 := by
  have h := StrLaws.reprText_len x (fun c hc => by have := w.2.2 c hc; omega)
  have e : (PyData.str x).shown = reprText x := by simp only [PyData.shown]
  rw [e]
  have := w.2.1
  omega
theorem shown_var : (PyData.str "var").shown.length ≤ 82 := by decide +kernel
theorem shown_con : (PyData.str "con").shown.length ≤ 82 := by decide +kernel
theorem shown_apply : (PyData.str "apply").shown.length ≤ 82 := by decide +kernel
theorem shown_two (a b : PyData) : (PyData.tuple [a, b]).shown.length ≤ a.shown.length + b.shown.length + 7 := by
  have h := tupleText_len_le [a.shown, b.shown]
  simp only [PyData.shown, PyData.shownAll]
  simp only [List.map_cons, List.map_nil, List.sum_cons, List.sum_nil, List.length_cons, List.length_nil] at h
  omega
theorem shown_three (a b c : PyData) : (PyData.tuple [a, b, c]).shown.length ≤ a.shown.length + b.shown.length + c.shown.length + 9 := by
  have h := tupleText_len_le [a.shown, b.shown, c.shown]
  simp only [PyData.shown, PyData.shownAll]
  simp only [List.map_cons, List.map_nil, List.sum_cons, List.sum_nil, List.length_cons, List.length_nil] at h
  omega
theorem Kd.shown_len : ∀ {k : Kd} {n : Nat}, k.fit n → k.dat.shown.length + 100 ≤ 300 * 2 ^ n
  | .var x, n, h => by
    have h1 := shown_two (.str "var") (.str x)
    have h2 := shown_word (wok_of_var h)
    have h3 := shown_var
    have h4 : 1 ≤ 2 ^ n := Nat.one_le_two_pow
    show (PyData.tuple [.str "var", .str x]).shown.length + 100 ≤ _
    omega
  | .con x, n, h => by
    have h1 := shown_two (.str "con") (.str x)
    have h2 := shown_word (wok_of_con h)
    have h3 := shown_con
    have h4 : 1 ≤ 2 ^ n := Nat.one_le_two_pow
    show (PyData.tuple [.str "con", .str x]).shown.length + 100 ≤ _
    omega
  | .app a b, n, h => by
    obtain ⟨m, rfl, ha, hb⟩ := Kd.fit_app h
    have h1 := shown_three (.str "apply") a.dat b.dat
    have h2 := Kd.shown_len ha
    have h3 := Kd.shown_len hb
    have h4 := shown_apply
    have h5 : 2 ^ (m + 1) = 2 ^ m * 2 := Nat.pow_succ ..
    show (PyData.tuple [.str "apply", a.dat, b.dat]).shown.length + 100 ≤ _
    omega
theorem Kd.show_ok : ∀ k : Kd, k.dat.showable = true ∧ k.dat.hasDict = false
  | .var x => by simp [Kd.dat, PyData.showable, PyData.showableAll, PyData.hasDict, PyData.hasDictAll]
  | .con x => by simp [Kd.dat, PyData.showable, PyData.showableAll, PyData.hasDict, PyData.hasDictAll]
  | .app a b => by
    obtain ⟨h1, h2⟩ := Kd.show_ok a
    obtain ⟨h3, h4⟩ := Kd.show_ok b
    simp [Kd.dat, PyData.showable, PyData.showableAll, PyData.hasDict, PyData.hasDictAll, h1, h2, h3, h4]
theorem kds_show : ∀ {ks : List Kd} {n : Nat}, (∀ k ∈ ks, k.fit n) → PyData.showableAll (ks.map Kd.dat) = true ∧ PyData.hasDictAll (ks.map Kd.dat) = false ∧ PyData.depthAll (ks.map Kd.dat) ≤ n + 1 ∧ ((PyData.shownAll (ks.map Kd.dat)).map (·.length)).sum ≤ ks.length * (300 * 2 ^ n) ∧ (PyData.shownAll (ks.map Kd.dat)).length = ks.length
  | [], n, _ => by simp [PyData.showableAll, PyData.hasDictAll, PyData.depthAll, PyData.shownAll]
  | k :: r, n, h => by
    obtain ⟨h1, h2, h3, h4, h5⟩ := kds_show (ks := r) (n := n) fun y hy => h y (List.mem_cons_of_mem _ hy)
    have hk := h k List.mem_cons_self
    obtain ⟨g1, g2⟩ := Kd.show_ok k
    obtain ⟨g3, g4⟩ := Kd.lay hk
    have g5 := Kd.shown_len hk
    refine ⟨?_, ?_, ?_, ?_, ?_⟩
    · simp [PyData.showableAll, g1, h1]
    · simp [PyData.hasDictAll, g2, h2]
    · simp only [List.map_cons, PyData.depthAll]
      omega
    · have e : (r.length + 1) * (300 * 2 ^ n) = r.length * (300 * 2 ^ n) + 300 * 2 ^ n := Nat.succ_mul ..
      simp only [List.map_cons, PyData.shownAll, List.sum_cons, List.length_cons]
      rw [e]
      generalize r.length * (300 * 2 ^ n) = z at h4 ⊢
      omega
    · simp [PyData.shownAll, h5]
/-- [patterns, kinds] -/
def twoD (ps ks : List Kd) : PyData := .list [.list (ps.map Kd.dat), .list (ks.map Kd.dat)]
theorem twoD_show {ps ks : List Kd} (hp : ∀ k ∈ ps, k.fit 12) (hk : ∀ k ∈ ks, k.fit 12) (lp : ps.length ≤ 4) (lk : ks.length ≤ 4) :
    (twoD ps ks).showable = true ∧ (twoD ps ks).hasDict = false ∧ (twoD ps ks).depth ≤ 60 ∧ (twoD ps ks).shown.length ≤ sizeLine := by
  obtain ⟨a1, a2, a3, a4, a5⟩ := kds_show hp
  obtain ⟨b1, b2, b3, b4, b5⟩ := kds_show hk
  refine ⟨?_, ?_, ?_, ?_⟩
  · simp [twoD, PyData.showable, PyData.showableAll, a1, b1]
  · simp [twoD, PyData.hasDict, PyData.hasDictAll, a2, b2]
  · simp only [twoD, PyData.depth, PyData.depthAll]
    omega
  · have h := listText_len_le [listText (PyData.shownAll (ps.map Kd.dat)), listText (PyData.shownAll (ks.map Kd.dat))]
    have h1 := listText_len_le (PyData.shownAll (ps.map Kd.dat))
    have h2 := listText_len_le (PyData.shownAll (ks.map Kd.dat))
    have c1 : ps.length * (300 * 2 ^ 12) ≤ 4 * (300 * 2 ^ 12) := Nat.mul_le_mul_right _ lp
    have c2 : ks.length * (300 * 2 ^ 12) ≤ 4 * (300 * 2 ^ 12) := Nat.mul_le_mul_right _ lk
    simp only [List.map_cons, List.map_nil, List.sum_cons, List.sum_nil, List.length_cons, List.length_nil] at h
    simp only [twoD, PyData.shown, PyData.shownAll]
    have e := sizeLine_eq
    rw [e]
    omega
end L3

set_option maxHeartbeats 4000000
/-! values of any kind: none, bools, ints, texts, lists, tuples, dicts; literals; repr -/
namespace L3
open PySem PySem.Spec PyProof.Rows L2
mutual
/-- v is d; t is where the tape stands -/
inductive Da (t : Addr) (H : Hp) : V → PyData → Prop
  | non : Da t H .non .none
  | bl (b : Bool) : Da t H (.bl b) (.bool b)
  | int (i : Int) : Da t H (.int i) (.int i)
  | str (x : Str) : Da t H (.str x) (.str x)
  | lst {a : Addr} {xs : List V} {ds : List PyData} : H a = some (.lst xs) → a ≠ sysModules → DaAll t H xs ds → Da t H (.ref a) (.list ds)
  | tup {a : Addr} {xs : List V} {ds : List PyData} : H a = some (.tup xs) → DaAll t H xs ds → Da t H (.ref a) (.tuple ds)
  | dct {a : Addr} {kvs : List (Key × V)} {ds : List (PyData × PyData)} : H a = some (.dK kvs) → a ≠ t → DaKv t H kvs ds → Da t H (.ref a) (.dict ds)
inductive DaAll (t : Addr) (H : Hp) : List V → List PyData → Prop
  | nil : DaAll t H [] []
  | cons {v : V} {vs : List V} {d : PyData} {ds : List PyData} : Da t H v d → DaAll t H vs ds → DaAll t H (v :: vs) (d :: ds)
inductive DaKv (t : Addr) (H : Hp) : List (Key × V) → List (PyData × PyData) → Prop
  | nil : DaKv t H [] []
  | cons {x : Str} {v : V} {vs : List (Key × V)} {d : PyData} {ds : List (PyData × PyData)} : Da t H v d → DaKv t H vs ds → DaKv t H ((.inr x, v) :: vs) ((.str x, d) :: ds)
end
/-- what a change of the heap has to keep -/
structure Kp (t : Addr) (H H' : Hp) : Prop where
  l : ∀ a xs, H a = some (.lst xs) → H' a = some (.lst xs)
  u : ∀ a xs, H a = some (.tup xs) → H' a = some (.tup xs)
  d : ∀ a kvs, a ≠ t → H a = some (.dK kvs) → H' a = some (.dK kvs)
mutual
theorem Da.kp {t : Addr} {H H' : Hp} (e : Kp t H H') : ∀ {d : PyData} {v : V}, Da t H v d → Da t H' v d
  | .none, _, h => by cases h; exact .non
  | .bool b, _, h => by cases h; exact .bl b
  | .int i, _, h => by cases h; exact .int i
  | .str x, _, h => by cases h; exact .str x
  | .list ds, _, h => by
    cases h with
    | lst h1 h2 h3 => exact .lst (e.l _ _ h1) h2 (DaAll.kp e h3)
  | .tuple ds, _, h => by
    cases h with
    | tup h1 h3 => exact .tup (e.u _ _ h1) (DaAll.kp e h3)
  | .dict ds, _, h => by
    cases h with
    | dct h1 h2 h3 => exact .dct (e.d _ _ h2 h1) h2 (DaKv.kp e h3)
theorem DaAll.kp {t : Addr} {H H' : Hp} (e : Kp t H H') : ∀ {ds : List PyData} {vs : List V}, DaAll t H vs ds → DaAll t H' vs ds
  | [], _, h => by cases h; exact .nil
  | d :: ds, _, h => by
    cases h with
    | cons h1 h2 => exact .cons (Da.kp e h1) (DaAll.kp e h2)
theorem DaKv.kp {t : Addr} {H H' : Hp} (e : Kp t H H') : ∀ {ds : List (PyData × PyData)} {vs : List (Key × V)}, DaKv t H vs ds → DaKv t H' vs ds
  | [], _, h => by cases h; exact .nil
  | d :: ds, _, h => by
    cases h with
    | cons h1 h2 => exact .cons (Da.kp e h1) (DaKv.kp e h2)
end
theorem kp_same {t : Addr} {H H' : Hp} (e : Same H H') : Kp t H H' := ⟨fun _ _ h => e _ _ h, fun _ _ h => e _ _ h, fun _ _ _ h => e _ _ h⟩
theorem DaAll.len {t : Addr} {H : Hp} : ∀ {vs : List V} {ds : List PyData}, DaAll t H vs ds → vs.length = ds.length
  | _, [], h => by cases h; rfl
  | _, d :: ds, h => by
    cases h with
    | cons _ h => rw [List.length_cons, List.length_cons, DaAll.len h]
theorem DaAll.app {t : Addr} {H : Hp} : ∀ {vs ws : List V} {ds es : List PyData}, DaAll t H vs ds → DaAll t H ws es → DaAll t H (vs ++ ws) (ds ++ es)
  | _, _, [], _, h, g => by cases h; exact g
  | _, _, d :: ds, _, h, g => by
    cases h with
    | cons h1 h2 => exact .cons h1 (DaAll.app h2 g)
theorem DaAll.mem {t : Addr} {H : Hp} {v : V} : ∀ {vs : List V} {ds : List PyData}, DaAll t H vs ds → v ∈ vs → ∃ d ∈ ds, Da t H v d
  | _, [], h, hv => by cases h; cases hv
  | _, d :: ds, h, hv => by
    cases h with
    | cons h1 h2 =>
      rcases List.mem_cons.mp hv with e | hv
      · exact ⟨d, List.mem_cons_self, by rw [e]; exact h1⟩
      · obtain ⟨d', m, q⟩ := DaAll.mem h2 hv
        exact ⟨d', List.mem_cons_of_mem _ m, q⟩
/-! ### read by the library -/
section
variable {X : Cx} {pins : List (Addr × Obj)} {σ : L2.St} {H : Hp} {s : Shared} {t : Addr}
theorem kv_keys {knd : KeyKind X.prog X.w Key} (hk : knd.is = keyIs) : ∀ {kvs : List (Key × V)} {ds : List (PyData × PyData)} {es : List DictEntry} {vs : List (Key × Value)}, DaKv t H kvs ds → KV kvs vs → Pairs knd es vs → ReadsAll s.heap (es.map (·.key)) (ds.map (·.1)) []
  | _, [], _, _, h, h2, h3 => by
    cases h
    cases h2
    cases h3
    exact ReadsAll.nil
  | _, (q, d) :: ds, [], _, h, h2, h3 => by
    cases h3
    cases h2
    cases h
  | _, (q, d) :: ds, e :: es, _, h, h2, h3 => by
    cases h with
    | @cons x v vs d' ds' g1 g2 =>
      cases h2 with
      | cons e2 t2 =>
        cases h3 with
        | cons p1 p2 t3 =>
          obtain ⟨e2, _⟩ := e2
          rw [hk] at p1
          have h1' : keyIs _ e.key = true := p1
          rw [← e2] at h1'
          obtain ⟨tk, ht⟩ := Value.isStrOf_shape (x := x) (v := e.key) h1'
          have ih := kv_keys hk g2 t2 t3
          show ReadsAll s.heap (e.key :: es.map (·.key)) (PyData.str x :: _) []
          rw [ht]
          exact ReadsAll.cons (as := []) (bs := []) (Reads.str _ _) ih
mutual
theorem Da.reads (I : Inv X pins σ H s) : ∀ (d : PyData) (v : V) (u : Value), Da t H v d → RelV v u → ∃ as, Reads s.heap u d as ∧ sysModules ∉ as
  | .none, _, _, h, r => by
    cases h
    cases r
    exact ⟨_, Reads.none, List.not_mem_nil⟩
  | .bool b, _, _, h, r => by
    cases h
    cases r
    exact ⟨_, Reads.bool b, List.not_mem_nil⟩
  | .int i, _, _, h, r => by
    cases h
    obtain ⟨k, rfl⟩ := r
    exact ⟨_, Reads.int i k, List.not_mem_nil⟩
  | .str x, _, _, h, r => by
    cases h
    obtain ⟨k, rfl⟩ := r
    exact ⟨_, Reads.str x k, List.not_mem_nil⟩
  | .list ds, _, u, h, r => by
    cases h with
    | @lst a xs _ hs ns ha =>
      obtain rfl : u = Value.ref a := r
      obtain ⟨its, rv, ⟨o, n, ho, hc, _, hd⟩, _⟩ := I.list (SqL.of hs)
      obtain ⟨as, hr, q⟩ := Da.readsAll I ds _ its ha rv
      exact ⟨_, Reads.list ho hc hd hr, fun z => (List.mem_cons.mp z).elim (fun e => ns e.symm) q⟩
  | .tuple ds, _, u, h, r => by
    cases h with
    | @tup a xs _ hs ha =>
      obtain rfl : u = Value.ref a := r
      obtain ⟨its, rv, ⟨o, ho, hc, n, hd⟩, _⟩ := I.tuple (SqT.of hs)
      obtain ⟨as, hr, q⟩ := Da.readsAll I ds _ its ha rv
      exact ⟨_, Reads.tuple ho hc hd hr, q⟩
  | .dict ds, _, u, h, r => by
    cases h with
    | @dct a kvs _ hs na ha =>
      obtain rfl : u = Value.ref a := r
      obtain ⟨_, lo, vs, ra, da⟩ := (show ObjOk X.prog X.w H s.heap a (.dK kvs) from I.hok a _ hs)
      obtain ⟨ep, o, es, ho, hx, hdat, _, pr, _⟩ := da.dictAt
      obtain ⟨bs, hr, q⟩ := Da.readsKv I ds kvs _ vs ha ra pr
      refine ⟨_, Reads.dict (as := []) ho hx.1 hdat (kv_keys rfl ha ra pr) hr, fun z => ?_⟩
      rcases List.mem_append.mp z with e | e
      · have e := List.mem_singleton.mp e
        rw [← e] at lo
        simp at lo
      · exact q e
theorem Da.readsAll (I : Inv X pins σ H s) : ∀ (ds : List PyData) (vs : List V) (us : List Value), DaAll t H vs ds → Vals vs us → ∃ as, ReadsAll s.heap us ds as ∧ sysModules ∉ as
  | [], _, _, h, r => by
    cases h
    cases r
    exact ⟨_, ReadsAll.nil, List.not_mem_nil⟩
  | d :: ds, _, _, h, r => by
    cases h with
    | cons h1 h2 =>
      cases r with
      | cons r1 r2 =>
        obtain ⟨as, q1, n1⟩ := Da.reads I d _ _ h1 r1
        obtain ⟨bs, q2, n2⟩ := Da.readsAll I ds _ _ h2 r2
        exact ⟨_, ReadsAll.cons q1 q2, fun z => (List.mem_append.mp z).elim n1 n2⟩
theorem Da.readsKv (I : Inv X pins σ H s) {knd : KeyKind X.prog X.w Key} : ∀ (ds : List (PyData × PyData)) (kvs : List (Key × V)) (es : List DictEntry) (vs : List (Key × Value)), DaKv t H kvs ds → KV kvs vs → Pairs knd es vs → ∃ as, ReadsAll s.heap (es.map (·.val)) (ds.map (·.2)) as ∧ sysModules ∉ as
  | [], _, _, _, h, h2, h3 => by
    cases h
    cases h2
    cases h3
    exact ⟨_, ReadsAll.nil, List.not_mem_nil⟩
  | (q, d) :: ds, _, [], _, h, h2, h3 => by
    cases h3
    cases h2
    cases h
  | (q, d) :: ds, _, e :: es', _, h, h2, h3 => by
    cases h with
    | @cons x v vs d' ds' g1 g2 =>
      cases h2 with
      | cons e2 t2 =>
        cases h3 with
        | cons p1 p2 t3 =>
          obtain ⟨_, r⟩ := e2
          obtain ⟨as, q1, n1⟩ := Da.reads I d _ _ g1 r
          obtain ⟨bs, q2, n2⟩ := Da.readsKv I ds _ es' _ g2 t2 t3
          have h2' : e.val = _ := p2
          refine ⟨_, ?_, fun z => (List.mem_append.mp z).elim n1 n2⟩
          show ReadsAll s.heap (e.val :: es'.map (·.val)) (d :: _) _
          rw [h2']
          exact ReadsAll.cons q1 q2
end
/-- repr of a list, a tuple or a dict of such values -/
def rReprA (t : Addr) : List V → Hp → VK → Prop := fun xs H Q => ∃ (a : Addr) (d : PyData), xs = [.ref a] ∧ Da t H (.ref a) d ∧ d.showable = true ∧ d.depth ≤ 60 ∧ d.shown.length ≤ sizeLine ∧ Q (.str d.shown) H
theorem call_reprA (t : Addr) (hg : X.A.guards = some []) (hu : X.A.units + 64 < cLine) : CallR X (.builtin "repr") (rReprA t) := by
  intro pins s σ H xs us Q I r h
  obtain ⟨a, d, rfl, hd, hs, hdep, hsz, q⟩ := h
  obtain ⟨u, rfl, rx⟩ := vals1 r
  obtain rfl : u = Value.ref a := rx
  obtain ⟨as, hr, n⟩ := Da.reads I d _ _ hd (show RelV (.ref a) (.ref a) from rfl)
  exact repr_of_reads' hr hs (fun _ => n) hg (by omega) (fun _ _ e => e) (fun h' u tk hk => ⟨.str d.shown, H, I.kept (t' := tk) hk, ⟨u, rfl⟩, q⟩) hsz
end
/-! ### literals -/
section
variable {X : Cx} {e : Expr} {es : List Expr} {pos : Pos} {t : Addr}
theorem _root_.L2.PE.weak {te te' : TE} (h : PE X e te) (m : ∀ σ H Q, te' σ H Q → te σ H Q) : PE X e te' := ⟨fun pins s σ H Q I q => h.run pins s σ H Q I (m σ H Q q)⟩
theorem _root_.L2.PA.weak {te te' : TA} (h : PA X es te) (m : ∀ σ H Q, te' σ H Q → te σ H Q) : PA X es te' := ⟨fun pos pins s σ H Q I q => h.run pos pins s σ H Q I (m σ H Q q)⟩
/-- a value that is d, all else is kept -/
def tLit (t : Addr) (d : PyData) : TE := fun _ H Q => (∃ o, H t = some o) ∧ ∀ H' v, Same H H' → Da t H' v d → Q v H'
def tLits (t : Addr) (ds : List PyData) : TA := fun _ H Q => (∃ o, H t = some o) ∧ ∀ H' vs, Same H H' → DaAll t H' vs ds → Q vs H'
/-- a new list of such values -/
def tLitL (t : Addr) (ds : List PyData) : TE := fun _ H Q => (∃ o, H t = some o) ∧ ∀ H' l vs, Same H H' → l ≠ sysModules → H' l = some (.lst vs) → DaAll t H' vs ds → Q (.ref l) H'
theorem pl_nil : PA X [] (tLits t []) := pa_nil.weak fun σ H Q h => h.2 H [] (Same.refl H) .nil
theorem pl_cons {d : PyData} {ds : List PyData} (ha : PE X e (tLit t d)) (hr : PA X es (tLits t ds)) (hs : starEach (e :: es) X.env = (false, eval e X.env) :: starEach es X.env := by rfl) : PA X (e :: es) (tLits t (d :: ds)) :=
  (pa_cons ha hr hs).weak fun σ H Q ⟨⟨o, ho⟩, h⟩ => ⟨⟨o, ho⟩, fun H1 v s1 d1 => ⟨⟨o, s1 _ _ ho⟩, fun H2 vs s2 d2 => h H2 (v :: vs) (s1.trans s2) (.cons (d1.kp (kp_same s2)) d2)⟩⟩
theorem pl_tup {x1} {ds : List PyData} (h : PA X es (tLits t ds)) (hz : ds.length ≤ 1000 := by decide) : PE X (.Tuple es x1 pos) (tLit t (.tuple ds)) :=
  (pe_tup h).weak fun σ H Q ⟨⟨o, ho⟩, h⟩ => ⟨⟨o, ho⟩, fun H1 vs s1 d1 => ⟨by rw [d1.len, sizeLine_eq]; omega, fun p hp => h _ _ (s1.trans (same_new hp)) (.tup upd_same (d1.kp (kp_same (same_new hp))))⟩⟩
theorem pl_lstL {ds : List PyData} (h : PA X es (tLits t ds)) (hz : ds.length ≤ 1000 := by decide) : PE X (.List es pos) (tLitL t ds) := by
  refine ⟨fun pins s σ H Q I hq => ?_⟩
  obtain ⟨ho, hq⟩ := hq
  refine wpAny_List_spliced (thn (h.run pos pins s σ H (fun vs H1 => Same H H1 ∧ DaAll t H1 vs ds) I ⟨ho, fun H1 vs s1 d1 => ⟨s1, d1⟩⟩) fun us s1 ⟨xs, H1, I1, r, sm, dd⟩ => ⟨by rw [← r.length, dd.len, sizeLine_eq]; omega, ?_⟩)
  have hf : H1 s1.heap.objs.size = none := I1.hok.fresh (Nat.le_refl _)
  refine ⟨.ref s1.heap.objs.size, upd H1 s1.heap.objs.size (.lst xs), I1.laid (t' := s1.toks) (fun b u e => Heap.get?_push_of_some _ e) (Nat.le_refl _) ?_, rfl, hq _ _ xs (sm.trans (same_new hf)) (Nat.ne_of_gt I1.big) upd_same (dd.kp (kp_same (same_new hf)))⟩
  exact ⟨by rw [dd.len, sizeLine_eq]; omega, us, 0, r, Heap.get?_push_size _ rfl⟩
theorem pl_lst {ds : List PyData} (h : PA X es (tLits t ds)) (hz : ds.length ≤ 1000 := by decide) : PE X (.List es pos) (tLit t (.list ds)) :=
  (pl_lstL h hz).weak fun σ H Q ⟨ho, h⟩ => ⟨ho, fun H1 l vs s1 n1 g1 d1 => h _ _ s1 (.lst g1 n1 d1)⟩
theorem pl_c {x : V} {d : PyData} (h : PE X e (tC x)) (m : ∀ H, Da t H x d) : PE X e (tLit t d) := h.weak fun σ H Q ⟨_, h⟩ => h H x (Same.refl H) (m H)
theorem pl_d0 : PE X (.Dict [] [] pos) (tLit t (.dict [])) :=
  pe_dnewK.weak fun σ H Q ⟨⟨o, ho⟩, h⟩ p hp => h _ _ (same_new hp) (.dct upd_same (fun e => by rw [e, ho] at hp; cases hp) .nil)
theorem pl_neg {i : Int} (h : PE X e (tC (.int i))) : PE X (.UnaryOp .USub e pos) (tLit t (.int (-i))) :=
  (pe_un un_neg h).weak fun σ H Q ⟨_, q⟩ => ⟨_, rfl, q H _ (Same.refl H) (.int _)⟩
theorem pl_pow {e2 : Expr} {i j : Int} (h : PE X e (tC (.int i))) (h2 : PE X e2 (tC (.int j))) (hc : CPow i j := by decide) : PE X (.BinOp e .Pow e2 pos) (tLit t (.int (i ^ j.toNat))) :=
  (pe_op op_pow h h2).weak fun σ H Q ⟨_, q⟩ => ⟨_, _, rfl, rfl, hc, q H _ (Same.refl H) (.int _)⟩
theorem pl_d1 {x : Str} {i : Int} {p1 p2 : Pos} {k1 k2} : PE X (.Dict [some (.Constant (.str x) k1 p1)] [.Constant (.int i) k2 p2] pos) (tLit t (.dict [(.str x, .int i)])) :=
  (pe_disp (pps_cons pe_str pe_int pps_nil) (by rfl) (by rfl) (fun z => by cases z) (by show 1 ≤ 15; decide)).weak fun σ H Q ⟨⟨o, ho⟩, h⟩ p hp => ⟨upd_same, [(.inr x, .int i)], rfl, by show 1 ≤ 15; decide, h _ _ (fun b o' e => by
    rw [upd_ne (ne_of_none e hp), upd_ne (ne_of_none e hp)]
    exact e) (.dct upd_same (fun e => by rw [e, ho] at hp; cases hp) (.cons (.int i) .nil))⟩
end
end L3

/-! a value of any kind: its type; beside a text -/
namespace L3
open PySem PySem.Spec PyProof.Rows L2
open PySem.SeqAt
theorem dict_eq_declines_str (a : Addr) (es : Array DictEntry) (n : Nat) (dd : Option Addr) (sl : Array (Option Value)) (b : Str) (u : Tok) :
    Meets (Builtin.«dict.__eq__» ⟨[.ref a, .str b u], []⟩) (fun _ R s => s.heap.get? a = some { cls := .type "dict", dict := dd, data := .dict es n, slots := sl } ∧ R (.ok (.ret .notImplemented)) s) :=
  .of_wp fun prog w A R s h => by
    obtain ⟨hl, h⟩ := h
    have tA : s.TypeIs (.ref a) "dict" := ⟨_, hl, rfl⟩
    show wpAny _ _ (Builtin.Dict.dictSlotArgs "__eq__" ⟨[.ref a, .str b u], []⟩ >>= _) _ _ s
    refine wpAny_bind ?_
    unfold Builtin.Dict.dictSlotArgs
    refine wpAny_bind (wpAny_notOrdered_dict tA ?_)
    show wpAny _ _ (pure (Value.ref a, Value.str b u)) _ _ s
    refine wpAny_pure ?_
    refine wpAny_bind (wpAny_isInstance (T := "str") (typeIs_str s b u) F.sub_str_dict ?_)
    simp only [Bool.not_false, if_true]
    exact wpAny_bind (wpAny_rule (wpAny_pure ⟨_, rfl, h⟩))
theorem str_eq_declines_dict (b : Str) (u : Tok) (l : Addr) (c : Value) (es : Array DictEntry) (n : Nat) (dd : Option Addr) (sl : Array (Option Value)) :
    Meets (Builtin.«str.__eq__» ⟨[.str b u, .ref l], []⟩) (fun _ R s => s.heap.get? l = some { cls := c, dict := dd, data := .dict es n, slots := sl } ∧ R (.ok (.ret .notImplemented)) s) :=
  .of_wp fun prog w A R s h => by obtain ⟨hp, g, d, tk, os⟩ := s; obtain ⟨hl, h⟩ := h; wp_walk using wpAny_loadPart' hl, wpAny_load hl; exact ⟨_, rfl, h⟩
section
variable {A : Around} {s : Shared}
theorem rc_dict_str {l : Addr} {o : Obj} {es : Array DictEntry} {n : Nat} (b : Str) (u : Tok) (ho : s.heap.get? l = some o) (hc : o.cls = .type "dict") (hd : o.data = .dict es n) (hu : A.units < cLine) : RcAt A s (.ref l) (.str b u) false := fun prog w E Q h => by
  obtain ⟨cls, dd, data, sl⟩ := o
  simp only at hc hd
  subst hc hd
  exact rc_eq_decline_or (k := false) ⟨_, ho, rfl⟩ (typeIs_str s b u) (by decide) F.sub_str_dict F.slot_dict_eq F.slot_str_eq_refl
    (fun _ hq => call_meets F.slot_dict_eq ⟨_, ho, rfl⟩ F.entry_dict_eq (F.args_dict_eq_2 _ _) (dict_eq_declines_str l es n dd sl b u) ⟨ho, hq⟩)
    (fun _ hq => call_meets F.slot_str_eq_refl (typeIs_str s b u) F.entry_str_eq (F.args_str_eq_2 _ _) (str_eq_declines_dict b u l (.type "dict") es n dd sl) ⟨ho, hq⟩)
    (fun _ hq => wpAny_of_eq (rfl : isSame (.ref l) (.str b u) = pure false) hq) (.inr hu) h
end
/-- whether a value is this text -/
def isS (x : Str) : PyData → Bool
  | .str y => decide (y = x)
  | _ => false
def tyName : PyData → String
  | .none => "NoneType"
  | .bool _ => "bool"
  | .int _ => "int"
  | .str _ => "str"
  | .list _ => "list"
  | .tuple _ => "tuple"
  | .dict _ => "dict"
section
variable {X : Cx} {pins : List (Addr × Obj)} {σ : L2.St} {H : Hp} {s : Shared}
def rEqStr (t : Addr) : R2 := fun x y H Q => ∃ (d : PyData) (z : Str), y = .str z ∧ Da t H x d ∧ Q (.bl (isS z d)) H
theorem op_eqStr {t : Addr} (hu : X.A.units + 64 < cLine) : OpR X (compareOp .Eq) (rEqStr t) := by
  intro pins s σ H x y v u Q I rx ry h
  obtain ⟨d, z, rfl, hd, q⟩ := h
  obtain ⟨tk, rfl⟩ := (show ∃ k, u = Value.str z k from ry)
  have hu' : X.A.units < cLine := by omega
  have fin : ∀ b : Bool, b = isS z d → EP X pins σ Q (.bool b) s := fun b e => ⟨.bl b, H, I, rfl, by rw [e]; exact q⟩
  cases d with
  | none =>
    cases hd
    cases (show v = Value.none from rx)
    exact RcAt.none_str z tk _ _ _ _ (fin _ rfl)
  | bool b =>
    cases hd
    cases (show v = Value.bool b from rx)
    exact RcAt.bool_str b z tk _ _ _ _ (fin _ rfl)
  | int i =>
    cases hd
    obtain ⟨k, rfl⟩ := (show ∃ k, v = Value.int i k from rx)
    exact RcAt.int_str i k z tk _ _ _ _ (fin _ rfl)
  | str y =>
    cases hd
    obtain ⟨k, rfl⟩ := (show ∃ k, v = Value.str y k from rx)
    exact RcAt.str_str y k z tk _ _ _ _ (fin _ (str_beq y z))
  | list ds =>
    cases hd with
    | @lst a xs _ hs ns ha =>
      obtain rfl : v = Value.ref a := rx
      obtain ⟨its, rv, ⟨o, n, ho, hc, _, hd⟩, _⟩ := I.list (SqL.of hs)
      exact RcAt.list_str z tk ⟨o, ho, hc, n, hd⟩ hu' _ _ _ _ (fin _ rfl)
  | tuple ds =>
    cases hd with
    | @tup a xs _ hs ha =>
      obtain rfl : v = Value.ref a := rx
      obtain ⟨its, rv, ⟨o, ho, hc, n, hd⟩, _⟩ := I.tuple (SqT.of hs)
      exact RcAt.tuple_str z tk ⟨o, ho, hc, n, hd⟩ hu' _ _ _ _ (fin _ rfl)
  | dict ds =>
    cases hd with
    | @dct a kvs _ hs na ha =>
      obtain rfl : v = Value.ref a := rx
      obtain ⟨_, lo, vs, ra, da⟩ := (show ObjOk X.prog X.w H s.heap a (.dK kvs) from I.hok a _ hs)
      obtain ⟨ep, o, es, ho, hx, hdat, _, pr, _⟩ := da.dictAt
      exact rc_dict_str z tk ho hx.1 hdat hu' _ _ _ _ (fin _ rfl)
theorem Da.ty {K : PySem.W.Frag} {t : Addr} {v : V} {d : PyData} (h : Da t H v d) : TyX K H v (.type (tyName d)) := by
  cases d with
  | none => cases h; exact .base .non
  | bool b => cases h; exact .base (.bl b)
  | int i => cases h; exact .base (.int i)
  | str y => cases h; exact .base (.str y)
  | list ds =>
    cases h with
    | lst h1 _ _ => exact .base (.lst h1)
  | tuple ds =>
    cases h with
    | tup h1 _ => exact .base (.tup h1)
  | dict ds =>
    cases h with
    | dct h1 _ _ => exact .base (.dK h1)
def isStr : PyData → Bool
  | .str _ => true
  | _ => false
def isTup : PyData → Bool
  | .tuple _ => true
  | _ => false
theorem kit_str {K : PySem.W.Frag} (d : PyData) : PySem.W.kitOne K (.type (tyName d)) (.type "str") = some (isStr d) := by
  cases d with
  | none => exact kit_ty (show kitB "NoneType" "str" = some false by decide +kernel)
  | bool _ => exact kit_ty (show kitB "bool" "str" = some false by decide +kernel)
  | int _ => exact kit_ty (show kitB "int" "str" = some false by decide +kernel)
  | str _ => exact kit_ty (show kitB "str" "str" = some true by decide +kernel)
  | list _ => exact kit_ty (show kitB "list" "str" = some false by decide +kernel)
  | tuple _ => exact kit_ty (show kitB "tuple" "str" = some false by decide +kernel)
  | dict _ => exact kit_ty (show kitB "dict" "str" = some false by decide +kernel)
theorem kit_tup {K : PySem.W.Frag} (d : PyData) : PySem.W.kitOne K (.type (tyName d)) (.type "tuple") = some (isTup d) := by
  cases d with
  | none => exact kit_ty (show kitB "NoneType" "tuple" = some false by decide +kernel)
  | bool _ => exact kit_ty (show kitB "bool" "tuple" = some false by decide +kernel)
  | int _ => exact kit_ty (show kitB "int" "tuple" = some false by decide +kernel)
  | str _ => exact kit_ty (show kitB "str" "tuple" = some false by decide +kernel)
  | list _ => exact kit_ty (show kitB "list" "tuple" = some false by decide +kernel)
  | tuple _ => exact kit_ty (show kitB "tuple" "tuple" = some true by decide +kernel)
  | dict _ => exact kit_ty (show kitB "dict" "tuple" = some false by decide +kernel)
end
end L3

/-! names, wholes, texts among values of any kind -/
namespace L3
open PySem L2
theorem szl {n : Nat} (h : n ≤ 1000000) : n < sizeLine := Nat.lt_of_le_of_lt h (by decide)
structure Bl9 (mg : Str → Option Value) : Prop where
  isinstance : mg "isinstance" = none
  all : mg "all" = none
  str_ : mg "str" = none
  tuple : mg "tuple" = none
  bool : mg "bool" = none
  int : mg "int" = none
  ord : mg "ord" = none
  abs : mg "abs" = none
  max : mg "max" = none
def barL : List Str := ["data", "role", "case", "define", "derive", "picks", "above", "settles", "member", "as", "if", "given", "let", "and", "in", "match", "end"]
theorem pe_gc {X : Cx} {x : Str} {v : V} {pos : Pos} (hg : Gl X x) (h : ∃ u, X.mg x = some u ∧ RelV v u) (hd : (x == ("__debug__" : Str)) = false := by decide) : PE X (.Name x pos) (tC v) := by
  obtain ⟨u, e, r⟩ := h
  exact pe_glob hg e r hd
/-- a sign from a to z -/
def lo (c : Nat) : Bool := decide (97 ≤ c) && decide (c ≤ 122)
/-- 1 to 8 letters -/
def wok (x : Str) : Bool := decide (1 ≤ x.length) && decide (x.length ≤ 8) && x.cps.all lo
def isWordD : PyData → Bool
  | .str x => wok x
  | _ => false
def isNameD : PyData → Bool
  | .str x => wok x && !decide (x ∈ barL)
  | _ => false
def isIntD : PyData → Bool
  | .int _ => true
  | _ => false
def isWholeD : PyData → Bool
  | .int i => decide (-(10 ^ 30) ≤ i) && decide (i ≤ 10 ^ 30)
  | _ => false
/-- a sign that a text may have -/
def sgnT (c : Nat) : Bool := decide (32 ≤ c) && decide (c ≤ 126) && !decide (c = 37)
def isTextD : PyData → Bool
  | .str x => decide (x.length ≤ 200) && x.cps.all sgnT
  | _ => false
theorem lo_tab : ∀ c, c < 128 → (Unicode.isAlpha c && Unicode.isUpper c) = (decide (65 ≤ c) && decide (c ≤ 90)) ∧ Unicode.isAlpha c = (decide (65 ≤ c) && decide (c ≤ 90) || lo c) ∧ Unicode.isLower c = lo c ∧ (Unicode.isUpper c || Unicode.isTitle c) = (decide (65 ≤ c) && decide (c ≤ 90)) := by decide +kernel
theorem asc_low {x : Str} (h1 : 1 ≤ x.length) : (Txt.isascii x && (Txt.isalpha x && Txt.islower x)) = x.cps.all lo := by
  have hl : ∀ p : Nat → Bool, x.cps.all p = x.cps.toList.all p := fun p => (Array.all_toList).symm
  have hn : ∀ p : Nat → Bool, x.cps.any p = x.cps.toList.any p := fun p => (Array.any_toList).symm
  unfold Txt.isascii Txt.isalpha Txt.islower
  have e1 : decide (x.length > 0) = true := decide_eq_true h1
  rw [e1, hl, hl, hl, hn, hn]
  have h1 : 0 < x.cps.toList.length := by
    rw [Array.length_toList]
    exact h1
  generalize x.cps.toList = l at h1 ⊢
  rw [Bool.eq_iff_iff]
  simp only [Bool.true_and, Bool.and_eq_true, List.all_eq_true, List.any_eq_true, Bool.not_eq_true', List.any_eq_false, decide_eq_true_eq]
  constructor
  · rintro ⟨ha, hb, _, hc⟩ c m
    obtain ⟨_, t2, _, t4⟩ := lo_tab c (ha c m)
    have b := hb c m
    have u := hc c m
    rw [t4] at u
    rw [t2, Bool.or_eq_true] at b
    rcases b with b | b
    · exact absurd b u
    · exact b
  · intro h
    have small : ∀ c ∈ l, c < 128 := fun c m => by
      have := h c m
      unfold lo at this
      simp only [Bool.and_eq_true, decide_eq_true_eq] at this
      omega
    refine ⟨small, fun c m => ?_, ?_, fun c m => ?_⟩
    · rw [(lo_tab c (small c m)).2.1, h c m, Bool.or_true]
    · obtain ⟨c, m⟩ := List.exists_mem_of_length_pos h1
      exact ⟨c, m, by rw [(lo_tab c (small c m)).2.2.1]; exact h c m⟩
    · rw [(lo_tab c (small c m)).2.2.2]
      have := h c m
      unfold lo at this
      simp only [Bool.and_eq_true, decide_eq_true_eq] at this ⊢
      omega
end L3

/-! a tuple of anything beside a tuple of one text -/
namespace L3
open PySem PySem.Spec PyProof.Rows L2
open PySem.SeqAt
theorem eqAt_rc {A : Around} {s : Shared} {v : Value} {z : Str} {tk : Tok} {b : Bool} (hf : ∀ x y, v ≠ .float x y) (h : RcAt A s v (.str z tk) b) (e : v = .str z tk → b = true) : EqAt A s v (.str z tk) b := fun prog w E Q hq => by
  by_cases c : v = .str z tk
  · have eb := e c
    subst c eb
    exact EqAt.same _ prog w E Q hq
  · unfold eqBool
    refine wpAny_holding ?_
    refine wpAny_ite_split (fun hab => absurd (eq_of_beq hab) c) (fun _ => ?_)
    cases v with
    | float x y => exact absurd rfl (hf x y)
    | _ => exact wpAny_bind (h prog w E _ (wpAny_truthy_bool hq))
section
variable {X : Cx} {pins : List (Addr × Obj)} {σ : L2.St} {H : Hp} {s : Shared}
theorem rc_any_str {t : Addr} {A : Around} (I : Inv X pins σ H s) (hu' : A.units < cLine) {d : PyData} {x : V} {v : Value} {z : Str} {tk : Tok} (hd : Da t H x d) (rx : RelV x v) : RcAt A s v (.str z tk) (isS z d) ∧ (v = .str z tk → isS z d = true) ∧ (∀ x y, v ≠ .float x y) := by
  cases d with
  | none =>
    cases hd
    cases (show v = Value.none from rx)
    exact ⟨RcAt.none_str z tk, nofun, nofun⟩
  | bool b =>
    cases hd
    cases (show v = Value.bool b from rx)
    exact ⟨RcAt.bool_str b z tk, nofun, nofun⟩
  | int i =>
    cases hd
    obtain ⟨k, rfl⟩ := (show ∃ k, v = Value.int i k from rx)
    exact ⟨RcAt.int_str i k z tk, nofun, nofun⟩
  | str y =>
    cases hd
    obtain ⟨k, rfl⟩ := (show ∃ k, v = Value.str y k from rx)
    have e : isS z (.str y) = (y == z) := by
      show decide (y = z) = (y == z)
      rw [Bool.eq_iff_iff, decide_eq_true_eq, beq_iff_eq]
    rw [e]
    refine ⟨RcAt.str_str y k z tk, fun h => ?_, nofun⟩
    injection h with h _
    rw [h]
    exact beq_self_eq_true z
  | list ds =>
    cases hd with
    | @lst a xs _ hs ns ha =>
      obtain rfl : v = Value.ref a := rx
      obtain ⟨its, rv, ⟨o, n, ho, hc, _, hd⟩, _⟩ := I.list (SqL.of hs)
      exact ⟨RcAt.list_str z tk ⟨o, ho, hc, n, hd⟩ hu', nofun, nofun⟩
  | tuple ds =>
    cases hd with
    | @tup a xs _ hs ha =>
      obtain rfl : v = Value.ref a := rx
      obtain ⟨its, rv, ⟨o, ho, hc, n, hd⟩, _⟩ := I.tuple (SqT.of hs)
      exact ⟨RcAt.tuple_str z tk ⟨o, ho, hc, n, hd⟩ hu', nofun, nofun⟩
  | dict ds =>
    cases hd with
    | @dct a kvs _ hs na ha =>
      obtain rfl : v = Value.ref a := rx
      obtain ⟨_, lo, vs, ra, da⟩ := (show ObjOk X.prog X.w H s.heap a (.dK kvs) from I.hok a _ hs)
      obtain ⟨ep, o, es, ho, hx, hdat, _, pr, _⟩ := da.dictAt
      exact ⟨rc_dict_str z tk ho hx.1 hdat hu', nofun, nofun⟩
/-- one value, this text -/
def isOne (z : Str) : List PyData → Bool
  | [d] => isS z d
  | _ => false
def rEqOne (t : Addr) : R2 := fun x y H Q => ∃ (a b : Addr) (ds : List PyData) (z : Str), x = .ref a ∧ y = .ref b ∧ Da t H (.ref a) (.tuple ds) ∧ H b = some (.tup [.str z]) ∧ Q (.bl (isOne z ds)) H
theorem op_eqOne {t : Addr} (hu : X.A.units + 64 < cLine) : OpR X (compareOp .Eq) (rEqOne t) := by
  intro pins s σ H x y v u Q I rx ry h
  obtain ⟨a, b, ds, z, rfl, rfl, hd, hb, q⟩ := h
  obtain rfl : v = Value.ref a := rx
  obtain rfl : u = Value.ref b := ry
  cases hd with
  | @tup _ xs _ ha da =>
    obtain ⟨its, rv, ⟨o, ho, hc, n, hd⟩, _⟩ := I.tuple (SqT.of ha)
    obtain ⟨its2, rv2, ⟨o2, ho2, hc2, n2, hd2⟩, _⟩ := I.tuple (SqT.of hb)
    obtain ⟨u2, rfl, r2⟩ := vals1 rv2
    obtain ⟨tk, rfl⟩ := (show ∃ k, u2 = Value.str z k from r2)
    have fin : ∀ b : Bool, b = isOne z ds → EP X pins σ Q (.bool b) s := fun b e => ⟨.bl b, H, I, rfl, by rw [e]; exact q⟩
    cases da with
    | nil =>
      cases rv
      exact RcAt.tuples (e := fun _ => true) ⟨o, ho, hc, n, hd⟩ ⟨o2, ho2, hc2, n2, hd2⟩ (by omega) (fun j h1 h2 => absurd h1 (by simp)) _ _ _ _ (fin _ rfl)
    | @cons v1 vs1 d ds' q1 t1 =>
      cases rv with
      | @cons _ u1 _ us1 r1 rr =>
        obtain ⟨c1, c2, c3⟩ := rc_any_str (A := X.A.in1) (z := z) (tk := tk) I (by show X.A.units + 1 < cLine; omega) q1 r1
        refine RcAt.tuples (e := fun _ => isS z d) ⟨o, ho, hc, n, hd⟩ ⟨o2, ho2, hc2, n2, hd2⟩ (by omega) (fun j h1 h2 => ?_) _ _ _ _ (fin _ ?_)
        · obtain rfl : j = 0 := by
            have : j < 1 := h2
            omega
          exact eqAt_rc c3 c1 c2
        · have l1 := t1.len
          have l2 := rr.length
          cases t1 with
          | nil =>
            cases rr
            show (isS z d && true && true) = isS z d
            simp
          | cons _ _ =>
            cases rr
            show (_ && _) = false
            simp
end
end L3

namespace L3
open PySem L2
structure Mn (K : PySem.W.Frag) (w : World) (mg : Str → Option Value) (bA : Addr) (es : Array DictEntry) (nb : Nat) : Prop where
  LONGEST : ∃ u, mg "LONGEST" = some u ∧ RelV (.int 8) u
  BARRED : ∃ u, mg "BARRED" = some u ∧ RelV (.ref bA) u
  kd : KDict K w bA es nb
  has : ∀ z : Str, ∃ r, PySem.W.nsIn K bA z = some r ∧ r.isSome = decide (z ∈ barL)
  BOUND : ∃ u, mg "BOUND" = some u ∧ RelV (.int (10 ^ 30)) u
  LONGEST_TEXT : ∃ u, mg "LONGEST_TEXT" = some u ∧ RelV (.int 200) u
  set : mg "set" = none
section
variable {P : Program} {w : World} {K : PySem.W.Frag} {mg : Str → Option Value} {base : Heap} {bA : Addr} {es : Array DictEntry} {nb : Nat}
abbrev s_is_word : Stmt := topS 5
abbrev N_is_word : List Str := ["value"]
theorem sc_is_word : FnScope N_is_word ["value"] (defScope s_is_word) := ⟨rfl, rfl, rfl, by decide +kernel, rfl, by decide +kernel, by decide +kernel⟩
def spWord : Sp := fun vs H Q _ => ∃ (t : Addr) (v : V) (d : PyData), vs = [v] ∧ Da t H v d ∧ (∀ x, d = .str x → x.length ≤ 1000) ∧ Q (.bl (isWordD d)) H
theorem ok_word {f : Addr} {fd : FuncData} (F : Fun K "is_word" "is_word" s_is_word f fd) (B : Bl mg) (B9 : Bl9 mg) (M : Mn K w mg bA es nb) : FnOk P w K mg base CX0 1 f fd ["value"] spWord := by
  refine F.ok sc_is_word (fun vs H Q E h => ?_) (fun cdv A outer s H vs Q E hr h => ?_)
  · obtain ⟨t, v, d, rfl, _⟩ := h
    rfl
  · obtain ⟨t, v, d, rfl, hd, hx, k⟩ := h
    refine ⟨_, (pss_cons (ps_if (PW.pt (pw_or (pt_not (pt_val (pe_callB call_isi (by rfl) B9.isinstance PyProof.Rows.boot_isinstance (pa_cons (pv 0) (pa_cons (pe_bltn (v := .ty "str") (by rfl) B9.str_ (by decide +kernel) rfl) pa_nil))))) (pw_or1 (pt_not (pt_chain op_le op_le pe_int (pe_callB call_len (by rfl) B.len PySem.boot_len (pa_cons (pv 0) pa_nil)) (pe_gc (by rfl) M.LONGEST))))))
  (pss_one (ps_ret pe_bl))
  pss_nil)
  (pss_one (ps_ret (pe_and (pe_bm0 PySem.F.plainAttrs_str PySem.F.slot_str_isascii PySem.F.type_str_isascii mt_isascii (pv 0)) (pe_and (pe_bm0 PySem.F.plainAttrs_str PySem.F.slot_str_isalpha PySem.F.type_str_isalpha mt_isalpha (pv 0)) (pe_one (pe_bm0 PySem.F.plainAttrs_str PySem.F.slot_str_islower PySem.F.type_str_islower mt_islower (pv 0)))))))), ?_⟩
    refine ⟨_, rfl, v, .ty "str", .type (tyName d), .type "str", isStr d, rfl, .ty "str", hd.ty, kit_str d, _, rfl, ?_⟩
    cases hs : isStr d with
    | false =>
      have e : isWordD d = false := by cases d <;> first | rfl | cases hs
      rw [e] at k
      refine iT rfl ?_
      exact iT rfl k
    | true =>
      obtain ⟨x, rfl⟩ : ∃ x, d = .str x := by
        cases d with
        | str x => exact ⟨x, rfl⟩
        | _ => cases hs
      cases hd
      have lx := hx x rfl
      refine iF rfl ?_
      refine ⟨_, rfl, .str x, x.length, rfl, ⟨by rw [sizeLine_eq]; omega, rfl⟩, _, _, rfl, rfl, _, rfl, ?_⟩
      by_cases h1 : (1 : Int) ≤ (x.length : Int)
      · refine iT (decide_eq_true h1) ?_
        refine ⟨_, _, rfl, rfl, _, rfl, ?_⟩
        by_cases h2 : (x.length : Int) ≤ 8
        · refine iF (by rw [decide_eq_true h2]; rfl) ?_
          have ew : isWordD (.str x) = (Txt.isascii x && (Txt.isalpha x && Txt.islower x)) := by
            rw [asc_low (by omega)]
            show wok x = _
            unfold wok
            rw [decide_eq_true (by omega : 1 ≤ x.length), decide_eq_true (by omega : x.length ≤ 8)]
            rfl
          rw [ew] at k
          refine ⟨_, rfl, rfl, x, rfl, rfl, trivial, _, rfl, ?_⟩
          cases h3 : Txt.isascii x with
          | false =>
            rw [h3] at k
            exact iF rfl k
          | true =>
            rw [h3] at k
            refine iT rfl ?_
            refine ⟨_, rfl, rfl, x, rfl, rfl, trivial, _, rfl, ?_⟩
            cases h4 : Txt.isalpha x with
            | false =>
              rw [h4] at k
              exact iF rfl k
            | true =>
              rw [h4] at k
              refine iT rfl ?_
              exact ⟨_, rfl, rfl, x, rfl, rfl, trivial, k⟩
        · refine iT (by rw [decide_eq_false h2]; rfl) ?_
          have e : isWordD (.str x) = false := by
            show wok x = false
            unfold wok
            rw [decide_eq_false (by omega : ¬ x.length ≤ 8)]
            simp
          rw [e] at k
          exact k
      · refine iF (decide_eq_false h1) ?_
        have e : isWordD (.str x) = false := by
          show wok x = false
          unfold wok
          rw [decide_eq_false (by omega : ¬ 1 ≤ x.length)]
          rfl
        rw [e] at k
        exact ⟨_, rfl, iT rfl k⟩
/-! ### names -/
abbrev s_is_name : Stmt := topS 6
abbrev N_is_name : List Str := ["value"]
theorem sc_is_name : FnScope N_is_name ["value"] (defScope s_is_name) := ⟨rfl, rfl, rfl, by decide +kernel, rfl, by decide +kernel, by decide +kernel⟩
def spName : Sp := fun vs H Q _ => ∃ (t : Addr) (v : V) (d : PyData), vs = [v] ∧ Da t H v d ∧ (∀ x, d = .str x → x.length ≤ 1000) ∧ Q (.bl (isNameD d)) H
theorem ok_name {f : Addr} {fd : FuncData} (F : Fun K "is_name" "is_name" s_is_name f fd) (M : Mn K w mg bA es nb) (D_is_word : Kn P w K mg base 1 "is_word" ["value"] spWord) : FnOk P w K mg base CX0 2 f fd ["value"] spName := by
  refine F.ok sc_is_name (fun vs H Q E h => ?_) (fun cdv A outer s H vs Q E hr h => ?_)
  · obtain ⟨t, v, d, rfl, _⟩ := h
    rfl
  · obtain ⟨t, v, d, rfl, hd, hx, k⟩ := h
    have hr_is_word : Room 1 _ := hr
    refine ⟨_, (pss_one (ps_ret (pe_and (pe_kn D_is_word hr_is_word (pa_cons (pv 0) pa_nil)) (pe_one (pe_cmpR (op_notIn_kd M.kd) (pv 0) (pe_gc (by rfl) M.BARRED) (by rfl)))))), ?_⟩
    refine ⟨_, rfl, t, v, d, rfl, hd, hx, ?_⟩
    refine ⟨_, rfl, ?_⟩
    cases hw : isWordD d with
    | false =>
      have e : isNameD d = false := by
        cases d with
        | str x =>
          have hw' : wok x = false := hw
          show (wok x && _) = false
          rw [hw']
          rfl
        | _ => rfl
      rw [e] at k
      exact iF rfl k
    | true =>
      obtain ⟨x, rfl⟩ : ∃ x, d = .str x := by
        cases d with
        | str x => exact ⟨x, rfl⟩
        | _ => cases hw
      cases hd
      refine iT rfl ?_
      obtain ⟨r, er, hr2⟩ := M.has x
      refine ⟨_, rfl, x, r, rfl, rfl, er, ?_⟩
      have hw' : wok x = true := hw
      have e : isNameD (.str x) = !r.isSome := by
        show (wok x && _) = _
        rw [hw', hr2]
        rfl
      rw [e] at k
      exact k
/-! ### integers, wholes -/
def isBoolD : PyData → Bool
  | .bool _ => true
  | _ => false
theorem kit_int {K : PySem.W.Frag} (d : PyData) : PySem.W.kitOne K (.type (tyName d)) (.type "int") = some (isIntD d || isBoolD d) := by
  cases d with
  | none => exact kit_ty (show kitB "NoneType" "int" = some false by decide +kernel)
  | bool _ => exact kit_ty (show kitB "bool" "int" = some true by decide +kernel)
  | int _ => exact kit_ty (show kitB "int" "int" = some true by decide +kernel)
  | str _ => exact kit_ty (show kitB "str" "int" = some false by decide +kernel)
  | list _ => exact kit_ty (show kitB "list" "int" = some false by decide +kernel)
  | tuple _ => exact kit_ty (show kitB "tuple" "int" = some false by decide +kernel)
  | dict _ => exact kit_ty (show kitB "dict" "int" = some false by decide +kernel)
theorem kit_bool {K : PySem.W.Frag} (d : PyData) : PySem.W.kitOne K (.type (tyName d)) (.type "bool") = some (isBoolD d) := by
  cases d with
  | none => exact kit_ty (show kitB "NoneType" "bool" = some false by decide +kernel)
  | bool _ => exact kit_ty (show kitB "bool" "bool" = some true by decide +kernel)
  | int _ => exact kit_ty (show kitB "int" "bool" = some false by decide +kernel)
  | str _ => exact kit_ty (show kitB "str" "bool" = some false by decide +kernel)
  | list _ => exact kit_ty (show kitB "list" "bool" = some false by decide +kernel)
  | tuple _ => exact kit_ty (show kitB "tuple" "bool" = some false by decide +kernel)
  | dict _ => exact kit_ty (show kitB "dict" "bool" = some false by decide +kernel)
abbrev s_is_integer : Stmt := topS 7
abbrev N_is_integer : List Str := ["value"]
theorem sc_is_integer : FnScope N_is_integer ["value"] (defScope s_is_integer) := ⟨rfl, rfl, rfl, by decide +kernel, rfl, by decide +kernel, by decide +kernel⟩
def spInt : Sp := fun vs H Q _ => ∃ (t : Addr) (v : V) (d : PyData), vs = [v] ∧ Da t H v d ∧ Q (.bl (isIntD d)) H
theorem ok_int {f : Addr} {fd : FuncData} (F : Fun K "is_integer" "is_integer" s_is_integer f fd) (B9 : Bl9 mg) : FnOk P w K mg base CX0 1 f fd ["value"] spInt := by
  refine F.ok sc_is_integer (fun vs H Q E h => ?_) (fun cdv A outer s H vs Q E hr h => ?_)
  · obtain ⟨t, v, d, rfl, _⟩ := h
    rfl
  · obtain ⟨t, v, d, rfl, hd, k⟩ := h
    refine ⟨_, (pss_one (ps_ret (pe_and (pe_callB call_isi (by rfl) B9.isinstance PyProof.Rows.boot_isinstance (pa_cons (pv 0) (pa_cons (pe_bltn (v := .ty "int") (by rfl) B9.int (by decide +kernel) rfl) pa_nil))) (pe_one (pe_not (pe_callB call_isi (by rfl) B9.isinstance PyProof.Rows.boot_isinstance (pa_cons (pv 0) (pa_cons (pe_bltn (v := .ty "bool") (by rfl) B9.bool (by decide +kernel) rfl) pa_nil)))))))), ?_⟩
    refine ⟨_, rfl, v, .ty "int", .type (tyName d), .type "int", _, rfl, .ty "int", hd.ty, kit_int d, _, rfl, ?_⟩
    cases hi : (isIntD d || isBoolD d) with
    | false =>
      have e : isIntD d = false := (Bool.or_eq_false_iff.mp hi).1
      rw [e] at k
      exact iF rfl k
    | true =>
      refine iT rfl ?_
      refine ⟨_, rfl, v, .ty "bool", .type (tyName d), .type "bool", isBoolD d, rfl, .ty "bool", hd.ty, kit_bool d, _, rfl, ?_⟩
      have e : isIntD d = !isBoolD d := by cases d <;> first | rfl | cases hi
      rw [e] at k
      exact k
abbrev s_is_whole : Stmt := topS 22
abbrev N_is_whole : List Str := ["value"]
theorem sc_is_whole : FnScope N_is_whole ["value"] (defScope s_is_whole) := ⟨rfl, rfl, rfl, by decide +kernel, rfl, by decide +kernel, by decide +kernel⟩
def spWhole : Sp := fun vs H Q _ => ∃ (t : Addr) (v : V) (d : PyData), vs = [v] ∧ Da t H v d ∧ Q (.bl (isWholeD d)) H
theorem ok_whole {f : Addr} {fd : FuncData} (F : Fun K "is_whole" "is_whole" s_is_whole f fd) (M : Mn K w mg bA es nb) (D_is_integer : Kn P w K mg base 1 "is_integer" ["value"] spInt) : FnOk P w K mg base CX0 2 f fd ["value"] spWhole := by
  refine F.ok sc_is_whole (fun vs H Q E h => ?_) (fun cdv A outer s H vs Q E hr h => ?_)
  · obtain ⟨t, v, d, rfl, _⟩ := h
    rfl
  · obtain ⟨t, v, d, rfl, hd, k⟩ := h
    have hr_is_integer : Room 1 _ := hr
    refine ⟨_, (pss_one (ps_ret (pe_and (pe_kn D_is_integer hr_is_integer (pa_cons (pv 0) pa_nil)) (pe_one (pe_chain op_le op_le (pe_un un_neg (pe_gc (by rfl) M.BOUND)) (pv 0) (pe_gc (by rfl) M.BOUND)))))), ?_⟩
    refine ⟨_, rfl, t, v, d, rfl, hd, ?_⟩
    refine ⟨_, rfl, ?_⟩
    cases hi : isIntD d with
    | false =>
      have e : isWholeD d = false := by cases d <;> first | rfl | cases hi
      rw [e] at k
      exact iF rfl k
    | true =>
      obtain ⟨i, rfl⟩ : ∃ i, d = .int i := by
        cases d with
        | int i => exact ⟨i, rfl⟩
        | _ => cases hi
      cases hd
      refine iT rfl ?_
      have e : isWholeD (.int i) = (decide (-(10 ^ 30) ≤ i) && decide (i ≤ 10 ^ 30)) := rfl
      rw [e] at k
      refine ⟨_, rfl, _, rfl, _, _, rfl, rfl, _, rfl, ?_⟩
      by_cases h1 : (-(10 ^ 30) : Int) ≤ i
      · rw [decide_eq_true h1] at k
        refine iT (decide_eq_true h1) ?_
        exact ⟨_, _, rfl, rfl, k⟩
      · rw [decide_eq_false h1] at k
        exact iF (decide_eq_false h1) k
abbrev s_is_text : Stmt := topS 23
abbrev N_is_text : List Str := ["value", "sign"]
theorem sc_is_text : FnScope N_is_text ["value"] (defScope s_is_text) := ⟨rfl, rfl, rfl, by decide +kernel, rfl, by decide +kernel, by decide +kernel⟩
def spText : Sp := fun vs H Q _ => ∃ (t : Addr) (v : V) (d : PyData), vs = [v] ∧ Da t H v d ∧ (∀ x, d = .str x → x.length ≤ 1000) ∧ ∀ H', Same H H' → Q (.bl (isTextD d)) H'
theorem ok_text {f : Addr} {fd : FuncData} (F : Fun K "is_text" "is_text" s_is_text f fd) (B : Bl mg) (B9 : Bl9 mg) (M : Mn K w mg bA es nb) : FnOk P w K mg base CX0 1 f fd ["value"] spText := by
  refine F.ok sc_is_text (fun vs H Q E h => ?_) (fun cdv A outer s H vs Q E hr h => ?_)
  · obtain ⟨t, v, d, rfl, _⟩ := h
    rfl
  · obtain ⟨t, v, d, rfl, hd, hx, k⟩ := h
    refine ⟨_, (pss_cons (ps_if (PW.pt (pw_or (pt_not (pt_val (pe_callB call_isi (by rfl) B9.isinstance PyProof.Rows.boot_isinstance (pa_cons (pv 0) (pa_cons (pe_bltn (v := .ty "str") (by rfl) B9.str_ (by decide +kernel) rfl) pa_nil))))) (pw_or1 (pt_cmpR op_gt (pe_callB call_len (by rfl) B.len PySem.boot_len (pa_cons (pv 0) pa_nil)) (pe_gc (by rfl) M.LONGEST_TEXT) (nomark _)))))
  (pss_one (ps_ret pe_bl))
  pss_nil)
  (pss_one (ps_ret (pe_callB (cr_all rfl) (by rfl) B9.all (by decide +kernel) (pa_cons (pe_lc (own := [("sign", 1)]) rfl sc_is_text.nd (pi_str (pv 0)) (blkOk_by (N := N_is_text) (sc := (defScope s_is_text)) (own := [("sign", 1)]) (by decide +kernel)) (fun _ _ _ _ _ => (pg_name (i := 1) sc_is_text.nd rfl (Or.inl rfl))) (fun _ _ _ _ _ => pts_nil) (fun _ _ _ _ _ => (pe_and (pe_chain op_le op_le pe_int (pe_callB call_ord (by rfl) B9.ord PyProof.Rows.boot_ord (pa_cons (pv 1) pa_nil)) pe_int) (pe_one (pe_cmpR op_ne (pe_callB call_ord (by rfl) B9.ord PyProof.Rows.boot_ord (pa_cons (pv 1) pa_nil)) pe_int (nomark _)))))) pa_nil))))), ?_⟩
    refine ⟨_, rfl, v, .ty "str", .type (tyName d), .type "str", isStr d, rfl, .ty "str", hd.ty, kit_str d, _, rfl, ?_⟩
    cases hs : isStr d with
    | false =>
      have e : isTextD d = false := by cases d <;> first | rfl | cases hs
      rw [e] at k
      refine iT rfl ?_
      exact iT rfl (k H (Same.refl H))
    | true =>
      obtain ⟨x, rfl⟩ : ∃ x, d = .str x := by
        cases d with
        | str x => exact ⟨x, rfl⟩
        | _ => cases hs
      cases hd
      have lx := hx x rfl
      refine iF rfl ?_
      refine ⟨_, rfl, .str x, x.length, rfl, ⟨by rw [sizeLine_eq]; omega, rfl⟩, _, _, rfl, rfl, ?_⟩
      refine ⟨_, rfl, ?_⟩
      by_cases h1 : (x.length : Int) > 200
      · refine iT (decide_eq_true h1) ?_
        have e : isTextD (.str x) = false := by
          show (decide (x.length ≤ 200) && _) = false
          rw [decide_eq_false (by omega)]
          rfl
        rw [e] at k
        exact k H (Same.refl H)
      · refine iF (decide_eq_false h1) ?_
        have e : isTextD (.str x) = x.cps.toList.all sgnT := by
          show (decide (x.length ≤ 200) && _) = _
          rw [decide_eq_true (by omega), ← Array.all_toList]
          rfl
        rw [e] at k
        refine ⟨_, rfl, x, rfl, fun D hD => lc_it walk_str (fun i H' => Same H H' ∧ H' D = some (.lst (((x.cps.toList.take i).map sgnT).map V.bl))) ⟨same_new hD, upd_same⟩ (fun i H' _ _ => trivial) ?_ ?_⟩
        · rintro i y H1 H2 hi ⟨s1, g1⟩ ⟨rfl, c, ec, rfl⟩
          refine ⟨rfl, ?_⟩
          have ec' : x.cps.toList[i]? = some c := by simpa using ec
          have hi' : i < x.length := hi
          have fin : ∀ b : Bool, b = sgnT c → ∃ acc, H2 D = some (.lst acc) ∧ acc.length < sizeLine ∧ Same H (upd H2 D (.lst (acc ++ [V.bl b]))) ∧ upd H2 D (.lst (acc ++ [V.bl b])) D = some (.lst (((x.cps.toList.take (i + 1)).map sgnT).map V.bl)) := fun b eb => by
            refine ⟨_, g1, szl (by simp; omega), fun b o e => ?_, ?_⟩
            · rw [upd_ne (ne_of_none e hD)]
              exact s1 _ _ e
            · rw [upd_same, List.take_add_one, ec', eb]
              simp
          refine ⟨_, rfl, ⟨#[c]⟩, rfl, rfl, _, _, rfl, rfl, _, rfl, ?_⟩
          show if decide ((32 : Int) ≤ (c : Int)) = true then _ else _
          by_cases q1 : 32 ≤ c
          · refine iT (decide_eq_true (by omega)) ?_
            refine ⟨_, _, rfl, rfl, _, rfl, ?_⟩
            show if decide ((c : Int) ≤ 126) = true then _ else _
            by_cases q2 : c ≤ 126
            · refine iT (decide_eq_true (by omega)) ?_
              refine ⟨_, rfl, ⟨#[c]⟩, rfl, rfl, rfl, ?_⟩
              refine fin _ ?_
              unfold sgnT
              rw [decide_eq_true q1, decide_eq_true q2]
              show (!decide (V.int (c : Int) = V.int 37)) = _
              by_cases q3 : c = 37
              · rw [decide_eq_true q3, decide_eq_true (by rw [q3]; rfl)]
                rfl
              · rw [decide_eq_false q3, decide_eq_false (fun z => q3 (by injection z with z; omega))]
                rfl
            · refine iF (decide_eq_false (by omega)) ?_
              refine fin _ ?_
              unfold sgnT
              rw [decide_eq_false q2]
              simp
          · refine iF (decide_eq_false (by omega)) ?_
            refine ⟨_, rfl, iF rfl (fin _ ?_)⟩
            unfold sgnT
            rw [decide_eq_false q1]
            simp
        · rintro H1 ⟨s1, g1⟩
          rw [List.take_of_length_le (by simp)] at g1
          refine ⟨D, _, rfl, SqL.of g1, ?_⟩
          have ew : (x.cps.toList.map sgnT).all id = x.cps.toList.all sgnT := by
            rw [List.all_map]
            rfl
          rw [ew]
          exact k H1 s1
end
end L3

namespace L3
open PySem L2
section
variable {P : Program} {w : World} {K : PySem.W.Frag} {mg : Str → Option Value} {base : Heap}
/-! ### words -/
def sgn (j : Nat) : Str := ⟨#[97 + j]⟩
def mkW (rest : Str) (d : Bool) (c : Str) : Str := if d then rest ++ c else c ++ rest
abbrev s__law_words : Stmt := topS 38
abbrev N__law_words : List Str := ["_law_tape", "_law_many", "_law_rest", "_law_first", "_law_letters", "_law_is_behind", "_law_k", "_law_letter"]
theorem sc__law_words : FnScope N__law_words ["_law_tape", "_law_many"] (defScope s__law_words) := ⟨rfl, rfl, rfl, by decide +kernel, rfl, by decide +kernel, by decide +kernel⟩
def rests : List Str := ["", "x", "oo", "zzzz", "ery", "bbbbbbb"]
def lets (first n : Nat) : List Str := (List.range n).map fun k => sgn ((first + 7 * k) % 26)
def spWords (K : PySem.W.Frag) : Sp := fun vs H Q _ => ∃ (t c : Addr) (n b : Nat), vs = [.ref t, .int (n : Int)] ∧ n ≤ 100 ∧ Tape K H t c (b + 3) ∧
  ∀ (H' : Hp) (l : Addr) (rest : Str) (first : Nat) (d : Bool), Ext t H H' → Tape K H' t c b → H l = none → rest ∈ rests → first < 26 → H' l = some (.lst (((lets first n).map (mkW rest d)).map V.str)) → Q (.ref l) H'
theorem at_ofG {α : Type} {xs : List α} {z : Int} {j : Nat} {v : α} (e : z = (j : Int)) (h : xs[j]? = some v) : atI xs z = some v := by
  rw [e]
  exact atI_nat h
theorem abc_at : ∀ j : Nat, j < 26 → ("abcdefghijklmnopqrstuvwxyz" : Str).cps.toList[j]? = some (97 + j) := by decide +kernel
theorem lets_succ (first n : Nat) : lets first (n + 1) = lets first n ++ [sgn ((first + 7 * n) % 26)] := by
  unfold lets
  rw [List.range_succ, List.map_append]
  rfl
theorem lets_length (first n : Nat) : (lets first n).length = n := by
  unfold lets
  rw [List.length_map, List.length_range]
theorem rests_len : ∀ r ∈ rests, r.length ≤ 7 := by decide +kernel
theorem ok_words {f : Addr} {fd : FuncData} (F : Fun K "_law_words" "_law_words" s__law_words f fd) (B : Bl mg) (D__law_draw : Kn P w K mg base 1 "_law_draw" ["_law_tape", "_law_many"] (spDraw K)) (D__law_pick : Kn P w K mg base 2 "_law_pick" ["_law_tape", "_law_items"] (spPick K)) :
    FnOk P w K mg base CX0 3 f fd ["_law_tape", "_law_many"] (spWords K) := by
  refine F.ok sc__law_words (fun vs H Q E h => ?_) (fun cdv A outer s H vs Q E hr h => ?_)
  · obtain ⟨t, c, n, b, rfl, _⟩ := h
    rfl
  · obtain ⟨t, c, n, b, rfl, hn, hT, k⟩ := h
    have hr__law_draw : Room 1 _ := hr.mono (by decide)
    have hr__law_pick : Room 2 _ := hr
    refine ⟨_, (pss_cons (ps_asg (pe_tup (pa_cons (pe_kn D__law_pick hr__law_pick (pa_cons (pv 0) (pa_cons (pe_lst (pa_cons pe_str (pa_cons pe_str (pa_cons pe_str (pa_cons pe_str (pa_cons pe_str (pa_cons pe_str pa_nil))))))) pa_nil))) (pa_cons (pe_kn D__law_draw hr__law_draw (pa_cons (pv 0) (pa_cons pe_int pa_nil))) pa_nil))) (pg_tup (by rfl) (pgs_cons (pg_name (i := 2) sc__law_words.nd rfl (Or.inr rfl)) (pgs_cons (pg_name (i := 3) sc__law_words.nd rfl (Or.inr rfl)) pgs_nil))))
  (pss_cons (ps_setLc (i := 4) (own := [("_law_k", 6)]) rfl sc__law_words.nd rfl rfl (sw_true rfl rfl rfl (by decide +kernel)) (pi_range1 (by rfl) B.range (pa_cons (pv 1) pa_nil)) (blkOk_by (N := N__law_words) (sc := (defScope s__law_words)) (own := [("_law_k", 6)]) (by decide +kernel)) (fun _ _ _ _ _ => (pg_name (i := 6) sc__law_words.nd rfl (Or.inl rfl))) (fun _ _ _ _ _ => pts_nil) (fun _ _ _ _ _ => (pe_ix ix_str pe_str (pe_op op_mod (pe_callTy call_int1 (by rfl) B.int (by decide +kernel) (pa_cons (pe_op op_add (pv 3) (pe_op op_mul pe_int (pv 6))) pa_nil)) pe_int) (fun _ _ => rfl))))
  (pss_cons (ps_set (i := 5) sc__law_words.nd rfl (Or.inr rfl) (pe_cmpR op_eq (pe_kn D__law_draw hr__law_draw (pa_cons (pv 0) (pa_cons pe_int pa_nil))) pe_int (nomark _)))
  (pss_one (ps_ret (pe_lc (own := [("_law_letter", 7)]) rfl sc__law_words.nd (pi_list (pv 4)) (blkOk_by (N := N__law_words) (sc := (defScope s__law_words)) (own := [("_law_letter", 7)]) (by decide +kernel)) (fun _ _ _ _ _ => (pg_name (i := 7) sc__law_words.nd rfl (Or.inl rfl))) (fun _ _ _ _ _ => pts_nil) (fun _ _ _ _ _ => (pe_ifExp (pt_val (pv 5)) (pe_op op_add_str (pv 2) (pv 7)) (pe_op op_add_str (pv 7) (pv 2)))))))))), ?_⟩
    refine ⟨_, rfl, slz rfl, fun l0 hl0 => ?_⟩
    refine ⟨t, c, l0, rests.map V.str, b + 2, rfl, SqL.of upd_same, by decide, by decide, hT.new hl0, fun H1 v e1 T1 hv => ?_⟩
    obtain ⟨rest, hrest, rfl⟩ := List.mem_map.mp hv
    refine ⟨_, rfl, t, c, 26, b + 1, rfl, by decide, by decide, T1, fun H2 r e2 T2 r1 r2 => ?_⟩
    obtain ⟨first, rfl⟩ : ∃ m : Nat, r = (m : Int) := ⟨r.toNat, (Int.toNat_of_nonneg r1).symm⟩
    have hf : first < 26 := by omega
    refine ⟨slz rfl, fun q hq => ⟨q, _, rfl, SqT.of upd_same, rfl, _, _, rfl, _, _, rfl, rfl, ?_⟩⟩
    have E2 : Ext t H (upd H2 q (.tup [.str rest, .int (first : Int)])) := (((Ext.new hl0).trans e1).trans e2).trans (Ext.new hq)
    have T3 := T2.new (o := .tup [.str rest, .int (first : Int)]) hq
    generalize upd H2 q (.tup [.str rest, .int (first : Int)]) = H3 at E2 T3 ⊢
    refine ⟨_, rfl, (n : Int), rfl, by omega, by omega, fun D hD => ?_⟩
    refine lc_range (lo := 0) (n := n) (fun i H' => Same H3 H' ∧ H' D = some (.lst ((lets first i).map V.str))) ⟨same_new hD, upd_same⟩ (fun i H' hi ⟨s1, g1⟩ => ⟨rfl, ?_⟩) (fun H4 ⟨s4, g4⟩ => ?_)
    · refine ⟨_, rfl, _, rfl, _, _, rfl, rfl, .inl ⟨by decide, by decide⟩, _, _, rfl, rfl, .inl ⟨_, rfl, ?_⟩⟩
      refine ⟨_, _, rfl, rfl, (show (0 : Int) < 26 by decide), _, _, _, rfl, rfl, slz rfl, at_ofG (show ((first : Int) + 7 * (0 + (i : Int))) % 26 = (((first + 7 * i) % 26 : Nat) : Int) by omega) (abc_at _ (by omega)), ?_⟩
      refine ⟨_, g1, ?_, ?_⟩
      · rw [List.length_map, lets_length]
        exact small1000 (by omega)
      · refine ⟨fun b' o z => ?_, ?_⟩
        · rw [upd_ne (ne_of_none z hD)]
          exact s1 _ _ z
        · rw [upd_same, lets_succ, List.map_append]
          rfl
    · have T4 := T3.same s4
      refine ⟨_, rfl, t, c, 2, b, rfl, by decide, by decide, T4, fun H5 r5 e5 T5 r51 r52 => ?_⟩
      refine ⟨rfl, ?_⟩
      have n5 : D ≠ t := T3.ne hD
      have g5 := e5 _ _ n5 g4
      refine ⟨_, rfl, D, rfl, ⟨_, SqL.of g5⟩, fun D2 hD2 => ?_⟩
      have nD : D ≠ D2 := ne_of_none g5 hD2
      refine lc_list (K := K) (a := D) (xs := (lets first n).map V.str) (fun i H' => Same H5 H' ∧ H' D2 = some (.lst ((((lets first n).take i).map (mkW rest (decide (V.int r5 = V.int 0)))).map V.str))) ⟨same_new hD2, upd_same⟩ (fun i H' _ ⟨s1, _⟩ => SqL.of (s1 _ _ g5)) (fun i x H' hx ⟨s1, g1⟩ => ⟨rfl, ?_⟩) (fun H6 ⟨s6, g6⟩ => ?_)
      · rw [List.getElem?_map] at hx
        obtain ⟨ch, hc, rfl⟩ := Option.map_eq_some_iff.mp hx
        have hi : i < (lets first n).length := (List.getElem?_eq_some_iff.mp hc).1
        have c1 : ch.length = 1 := by
          unfold lets at hc
          rw [List.getElem?_map] at hc
          obtain ⟨j, _, rfl⟩ := Option.map_eq_some_iff.mp hc
          rfl
        have rl := rests_len _ hrest
        have tk : (lets first n).take (i + 1) = (lets first n).take i ++ [ch] := by
          rw [List.take_add_one, hc]
          rfl
        have fin : ∀ z : Str, z = mkW rest (decide (V.int r5 = V.int 0)) ch → ∃ acc, H' D2 = some (.lst acc) ∧ acc.length < sizeLine ∧ Same H5 (upd H' D2 (.lst (acc ++ [V.str z]))) ∧ upd H' D2 (.lst (acc ++ [V.str z])) D2 = some (.lst ((((lets first n).take (i + 1)).map (mkW rest (decide (V.int r5 = V.int 0)))).map V.str)) := by
          rintro z rfl
          refine ⟨_, g1, ?_, fun b' o z => ?_, ?_⟩
          · rw [List.length_map, List.length_map, List.length_take]
            rw [lets_length] at hi
            exact small1000 (by omega)
          · rw [upd_ne (ne_of_none z hD2)]
            exact s1 _ _ z
          · rw [upd_same, tk, List.map_append, List.map_append]
            rfl
        refine ⟨_, rfl, _, rfl, ?_⟩
        refine ite2 (fun hc1 => ?_) (fun hc1 => ?_)
        · refine ⟨_, rfl, _, rfl, _, _, rfl, rfl, Nat.le_trans (show rest.length + ch.length ≤ 8 by omega) (slz rfl), ?_⟩
          refine fin _ ?_
          unfold mkW
          rw [if_pos hc1]
        · refine ⟨_, rfl, _, rfl, _, _, rfl, rfl, Nat.le_trans (show ch.length + rest.length ≤ 8 by omega) (slz rfl), ?_⟩
          refine fin _ ?_
          unfold mkW
          rw [if_neg hc1]
      · have T6 := T5.same s6
        rw [List.length_map, List.take_of_length_le (Nat.le_refl _)] at g6
        have n2 : D2 ≠ t := T5.ne hD2
        have EE : Ext t H H6 := ((E2.trans (same_ext s4)).trans e5).trans (same_ext s6)
        refine k H6 D2 rest first _ EE T6 ?_ hrest hf g6
        exact ((E2.trans (same_ext s4)).trans e5).free n2 hD2
end
end L3

namespace L3
open PySem L2
section
variable {P : Program} {w : World} {K : PySem.W.Frag} {mg : Str → Option Value} {base : Heap}
abbrev s__law_odd : Stmt := topS 37
abbrev N__law_odd : List Str := ["_law_tape", "_law_some"]
theorem sc__law_odd : FnScope N__law_odd ["_law_tape"] (defScope s__law_odd) := ⟨rfl, rfl, rfl, by decide +kernel, rfl, by decide +kernel, by decide +kernel⟩
def oddA : List PyData := [.none, .bool true, .bool false, .int 0, .int 1, .int (-1), .int 7, .int (10 ^ 40), .str "", .str "a", .str "self", .str "data", .str "A", .str "a b", .str "whole", .tuple [], .list [], .dict [], .tuple [.str "a"]]
def oddB : List PyData := [.list [.str "a"], .tuple [.int 0], .tuple [.int 1, .int 2], .list [.int 0], .tuple [.tuple [.str "a"]], .dict [(.str "a", .int 1)], .tuple [.str "var", .str "a"], .tuple [.str "con", .str "whole"], .tuple [.str "name", .str "a"], .tuple [.none]]
def oddC : List PyData := [.tuple [.str "apply", .tuple [.str "con", .str "to"]], .tuple [.str "var", .int 1], .str "abcdefghi", .tuple [.int 1, .int 1], .tuple [.str "whole", .bool true], .list [.tuple []], .int 3, .tuple [.str "same", .tuple []]]
def oddD : List PyData := [.tuple [.str "given", .int 0, .tuple []], .tuple [.str "case", .str "a", .tuple []], .tuple [.str "whole", .int 1], .tuple [.str "hole"], .tuple [.str "definition", .str "a"], .dict []]
def odds : List PyData := oddA ++ oddB ++ oddC ++ oddD
theorem kp_ext {K : PySem.W.Frag} {t c : Addr} {b : Nat} {H H' : Hp} (e : Ext t H H') (T : Tape K H t c b) : Kp t H H' := by
  obtain ⟨_, _, _, h, _⟩ := T
  exact ⟨fun a xs g => e a _ (fun z => by rw [z, h] at g; cases g) g, fun a xs g => e a _ (fun z => by rw [z, h] at g; cases g) g, fun a kvs n g => e a _ n g⟩
def spOdd (K : PySem.W.Frag) : Sp := fun vs H Q _ => ∃ (t c : Addr) (b : Nat), vs = [.ref t] ∧ Tape K H t c (b + 1) ∧ ∀ (H' : Hp) (v : V) (d : PyData), Ext t H H' → Tape K H' t c b → Da t H' v d → d ∈ odds → Q v H'
theorem ok_odd {f : Addr} {fd : FuncData} (F : Fun K "_law_odd" "_law_odd" s__law_odd f fd) (D__law_pick : Kn P w K mg base 2 "_law_pick" ["_law_tape", "_law_items"] (spPick K)) : FnOk P w K mg base CX0 3 f fd ["_law_tape"] (spOdd K) := by
  refine F.ok sc__law_odd (fun vs H Q E h => ?_) (fun cdv A outer s H vs Q E hr h => ?_)
  · obtain ⟨t, c, b, rfl, _⟩ := h
    rfl
  · obtain ⟨t, c, b, rfl, T, k⟩ := h
    have hr__law_pick : Room 2 _ := hr
    refine ⟨_, (pss_cons (ps_set (i := 1) sc__law_odd.nd rfl (Or.inl rfl) (pl_lstL (t := t) (pl_cons (pl_c pe_non fun _ => .non) (pl_cons (pl_c pe_bl fun _ => .bl _) (pl_cons (pl_c pe_bl fun _ => .bl _) (pl_cons (pl_c pe_int fun _ => .int _) (pl_cons (pl_c pe_int fun _ => .int _) (pl_cons (pl_neg pe_int) (pl_cons (pl_c pe_int fun _ => .int _) (pl_cons (pl_pow pe_int pe_int ⟨by decide, by decide, by decide⟩) (pl_cons (pl_c pe_str fun _ => .str _) (pl_cons (pl_c pe_str fun _ => .str _) (pl_cons (pl_c pe_str fun _ => .str _) (pl_cons (pl_c pe_str fun _ => .str _) (pl_cons (pl_c pe_str fun _ => .str _) (pl_cons (pl_c pe_str fun _ => .str _) (pl_cons (pl_c pe_str fun _ => .str _) (pl_cons (pl_tup pl_nil) (pl_cons (pl_lst pl_nil) (pl_cons pl_d0 (pl_cons (pl_tup (pl_cons (pl_c pe_str fun _ => .str _) pl_nil)) pl_nil)))))))))))))))))))))
  (pss_cons (ps_set (i := 1) sc__law_odd.nd rfl (Or.inl rfl) (pe_op op_cat (pv 1) (pl_lstL (t := t) (pl_cons (pl_lst (pl_cons (pl_c pe_str fun _ => .str _) pl_nil)) (pl_cons (pl_tup (pl_cons (pl_c pe_int fun _ => .int _) pl_nil)) (pl_cons (pl_tup (pl_cons (pl_c pe_int fun _ => .int _) (pl_cons (pl_c pe_int fun _ => .int _) pl_nil))) (pl_cons (pl_lst (pl_cons (pl_c pe_int fun _ => .int _) pl_nil)) (pl_cons (pl_tup (pl_cons (pl_tup (pl_cons (pl_c pe_str fun _ => .str _) pl_nil)) pl_nil)) (pl_cons pl_d1 (pl_cons (pl_tup (pl_cons (pl_c pe_str fun _ => .str _) (pl_cons (pl_c pe_str fun _ => .str _) pl_nil))) (pl_cons (pl_tup (pl_cons (pl_c pe_str fun _ => .str _) (pl_cons (pl_c pe_str fun _ => .str _) pl_nil))) (pl_cons (pl_tup (pl_cons (pl_c pe_str fun _ => .str _) (pl_cons (pl_c pe_str fun _ => .str _) pl_nil))) (pl_cons (pl_tup (pl_cons (pl_c pe_non fun _ => .non) pl_nil)) pl_nil)))))))))))))
  (pss_cons (ps_set (i := 1) sc__law_odd.nd rfl (Or.inl rfl) (pe_op op_cat (pv 1) (pl_lstL (t := t) (pl_cons (pl_tup (pl_cons (pl_c pe_str fun _ => .str _) (pl_cons (pl_tup (pl_cons (pl_c pe_str fun _ => .str _) (pl_cons (pl_c pe_str fun _ => .str _) pl_nil))) pl_nil))) (pl_cons (pl_tup (pl_cons (pl_c pe_str fun _ => .str _) (pl_cons (pl_c pe_int fun _ => .int _) pl_nil))) (pl_cons (pl_c pe_str fun _ => .str _) (pl_cons (pl_tup (pl_cons (pl_c pe_int fun _ => .int _) (pl_cons (pl_c pe_int fun _ => .int _) pl_nil))) (pl_cons (pl_tup (pl_cons (pl_c pe_str fun _ => .str _) (pl_cons (pl_c pe_bl fun _ => .bl _) pl_nil))) (pl_cons (pl_lst (pl_cons (pl_tup pl_nil) pl_nil)) (pl_cons (pl_c pe_int fun _ => .int _) (pl_cons (pl_tup (pl_cons (pl_c pe_str fun _ => .str _) (pl_cons (pl_tup pl_nil) pl_nil))) pl_nil)))))))))))
  (pss_one (ps_ret (pe_kn D__law_pick hr__law_pick (pa_cons (pv 0) (pa_cons (pe_op op_cat (pv 1) (pl_lstL (t := t) (pl_cons (pl_tup (pl_cons (pl_c pe_str fun _ => .str _) (pl_cons (pl_c pe_int fun _ => .int _) (pl_cons (pl_tup pl_nil) pl_nil)))) (pl_cons (pl_tup (pl_cons (pl_c pe_str fun _ => .str _) (pl_cons (pl_c pe_str fun _ => .str _) (pl_cons (pl_tup pl_nil) pl_nil)))) (pl_cons (pl_tup (pl_cons (pl_c pe_str fun _ => .str _) (pl_cons (pl_c pe_int fun _ => .int _) pl_nil))) (pl_cons (pl_tup (pl_cons (pl_c pe_str fun _ => .str _) pl_nil)) (pl_cons (pl_tup (pl_cons (pl_c pe_str fun _ => .str _) (pl_cons (pl_c pe_str fun _ => .str _) pl_nil))) (pl_cons pl_d0 pl_nil)))))))) pa_nil)))))))), ?_⟩
    have hT : ∀ {H' : Hp}, Tape K H' t c (b + 1) → ∃ o, H' t = some o := fun T => by
      obtain ⟨_, _, _, h, _⟩ := T
      exact ⟨_, h⟩
    refine ⟨hT T, fun H1 l1 vs1 s1 n1 g1 d1 => ?_⟩
    have T1 := T.same s1
    refine ⟨_, rfl, hT T1, fun H2 l2 vs2 s2 n2 g2 d2 => ?_⟩
    refine ⟨l1, l2, vs1, vs2, rfl, rfl, s2 _ _ g1, g2, by rw [d1.len, d2.len, sizeLine_eq]; decide, fun p hp => ?_⟩
    have s3 := same_new (o := .lst (vs1 ++ vs2)) hp
    have d12 : DaAll t (upd H2 p (.lst (vs1 ++ vs2))) (vs1 ++ vs2) (oddA ++ oddB) := (DaAll.app (d1.kp (kp_same s2)) d2).kp (kp_same s3)
    have g3 : (upd H2 p (.lst (vs1 ++ vs2))) p = some (.lst (vs1 ++ vs2)) := upd_same
    have S3 := s1.trans (s2.trans s3)
    have T3 := T.same S3
    generalize upd H2 p (.lst (vs1 ++ vs2)) = H3 at d12 g3 S3 T3 ⊢
    refine ⟨_, rfl, hT T3, fun H4 l4 vs4 s4 n4 g4 d4 => ?_⟩
    refine ⟨p, l4, _, vs4, rfl, rfl, s4 _ _ g3, g4, by rw [d12.len, d4.len, sizeLine_eq]; decide, fun p5 hp5 => ?_⟩
    have s5 := same_new (o := .lst (vs1 ++ vs2 ++ vs4)) hp5
    have d5 : DaAll t (upd H4 p5 (.lst (vs1 ++ vs2 ++ vs4))) (vs1 ++ vs2 ++ vs4) (oddA ++ oddB ++ oddC) := (DaAll.app (d12.kp (kp_same s4)) d4).kp (kp_same s5)
    have g5 : (upd H4 p5 (.lst (vs1 ++ vs2 ++ vs4))) p5 = some (.lst (vs1 ++ vs2 ++ vs4)) := upd_same
    have S5 := S3.trans (s4.trans s5)
    have T5 := T.same S5
    generalize upd H4 p5 (.lst (vs1 ++ vs2 ++ vs4)) = H5 at d5 g5 S5 T5 ⊢
    refine ⟨_, rfl, _, rfl, hT T5, fun H6 l6 vs6 s6 n6 g6 d6 => ?_⟩
    refine ⟨p5, l6, _, vs6, rfl, rfl, s6 _ _ g5, g6, by rw [d5.len, d6.len, sizeLine_eq]; decide, fun p7 hp7 => ?_⟩
    have s7 := same_new (o := .lst (vs1 ++ vs2 ++ vs4 ++ vs6)) hp7
    have d7 : DaAll t (upd H6 p7 (.lst (vs1 ++ vs2 ++ vs4 ++ vs6))) (vs1 ++ vs2 ++ vs4 ++ vs6) odds := (DaAll.app (d5.kp (kp_same s6)) d6).kp (kp_same s7)
    have g7 : (upd H6 p7 (.lst (vs1 ++ vs2 ++ vs4 ++ vs6))) p7 = some (.lst (vs1 ++ vs2 ++ vs4 ++ vs6)) := upd_same
    have S7 := S5.trans (s6.trans s7)
    have T7 := T.same S7
    generalize upd H6 p7 (.lst (vs1 ++ vs2 ++ vs4 ++ vs6)) = H7 at d7 g7 S7 T7 ⊢
    refine ⟨t, c, p7, _, b, rfl, SqL.of g7, by rw [d7.len]; decide, by rw [d7.len]; decide, T7, fun H8 v e8 T8 hv => ?_⟩
    obtain ⟨d, hd, dv⟩ := d7.mem hv
    exact k H8 v d ((same_ext S7).trans e8) T8 (dv.kp (kp_ext e8 T7)) hd
end
end L3

namespace L3
open PySem L2
theorem eraseIdx_str : ∀ (ws : List Str) (j : Nat), (ws.map V.str).eraseIdx j = (ws.eraseIdx j).map V.str
  | [], _ => rfl
  | _ :: _, 0 => rfl
  | x :: r, j + 1 => by
    show V.str x :: (r.map V.str).eraseIdx j = V.str x :: (r.eraseIdx j).map V.str
    rw [eraseIdx_str r j]
theorem erase_perm : ∀ {ws : List Str} {j : Nat} {x : Str}, ws[j]? = some x → (x :: ws.eraseIdx j).Perm ws
  | [], _, _, h => by simp at h
  | y :: r, 0, x, h => by
    cases h
    exact List.Perm.refl _
  | y :: r, j + 1, x, h => (List.Perm.swap y x _).trans ((erase_perm (ws := r) (j := j) h).cons y)
section
variable {P : Program} {w : World} {K : PySem.W.Frag} {mg : Str → Option Value} {base : Heap}
abbrev s__law_shuffled : Stmt := topS 36
abbrev N__law_shuffled : List Str := ["_law_tape", "_law_items", "_law_left", "_law_found"]
theorem sc__law_shuffled : FnScope N__law_shuffled ["_law_tape", "_law_items"] (defScope s__law_shuffled) := ⟨rfl, rfl, rfl, by decide +kernel, rfl, by decide +kernel, by decide +kernel⟩
def spShuf (K : PySem.W.Frag) : Sp := fun vs H Q _ => ∃ (t c l : Addr) (ws : List Str) (b : Nat), vs = [.ref t, .ref l] ∧ SqL K H l (ws.map V.str) ∧ (∀ x ∈ ws, Wok x) ∧ ws.length ≤ 1000 ∧ Tape K H t c (b + ws.length) ∧
  ∀ (H' : Hp) (p : Addr) (ws' : List Str), Ext t H H' → Tape K H' t c b → H p = none → H' p = some (.lst (ws'.map V.str)) → (∀ x ∈ ws', Wok x) → ws'.Perm ws → Q (.ref p) H'
theorem ok_shuf {f : Addr} {fd : FuncData} (F : Fun K "_law_shuffled" "_law_shuffled" s__law_shuffled f fd) (B : Bl mg) (D__law_draw : Kn P w K mg base 1 "_law_draw" ["_law_tape", "_law_many"] (spDraw K)) : FnOk P w K mg base CX0 2 f fd ["_law_tape", "_law_items"] (spShuf K) := by
  refine F.ok sc__law_shuffled (fun vs H Q E h => ?_) (fun cdv A outer s H vs Q E hr h => ?_)
  · obtain ⟨t, c, l, ws, b, rfl, _⟩ := h
    rfl
  · obtain ⟨t, c, l, ws, b, rfl, h1, h2, h3, hT, k⟩ := h
    have hr__law_draw := hr
    have hu64 := hr.units
    refine ⟨_, (pss_cons (ps_par (i := 2) (j := 3) (by rfl) sc__law_shuffled.nd rfl rfl (by decide) rfl rfl (pa_cons (pe_callTy call_list_of (by rfl) B.list (by decide +kernel) (pa_cons (pv 1) pa_nil)) (pa_cons (pe_lst pa_nil) pa_nil)) (by rfl))
  (pss_cons (ps_while PassesOwn.never (pt_cmpR (op_neD hu64) (pv 2) (pe_lst pa_nil) (nomark _))
  (pss_one (ps_expr (pe_bm PySem.F.plainAttrs_list PySem.F.slot_list_append PySem.F.type_list_append mt_append (pv 3) (pa_cons (pe_bm PySem.F.plainAttrs_list PySem.F.slot_list_pop PySem.F.type_list_pop mt_popAt (pv 2) (pa_cons (pe_kn D__law_draw hr__law_draw (pa_cons (pv 0) (pa_cons (pe_callB call_len (by rfl) B.len PySem.boot_len (pa_cons (pv 2) pa_nil)) pa_nil))) pa_nil)) pa_nil)))))
  (pss_one (ps_ret (pv 3))))), ?_⟩
    refine ⟨_, rfl, l, _, rfl, .inl h1, fun ll hll => ?_⟩
    have s1 : Same H (upd H ll (.lst (ws.map V.str))) := same_new hll
    have gl1 : (upd H ll (.lst (ws.map V.str))) ll = some (.lst (ws.map V.str)) := upd_same
    generalize upd H ll (.lst (ws.map V.str)) = H1 at s1 gl1 ⊢
    refine ⟨slz rfl, fun lf hlf => ⟨_, _, rfl, ?_⟩⟩
    have s2 : Same H (upd H1 lf (.lst [])) := s1.trans (same_new hlf)
    have nlf : H lf = none := s1.free hlf
    have nll : ll ≠ lf := ne_of_none gl1 hlf
    have ntl : ll ≠ t := hT.ne hll
    have ntf : lf ≠ t := hT.ne nlf
    refine ⟨fun m σ H' => ∃ (ws1 ws2 : List Str), σ = [some (.ref t), some (.ref l), some (.ref ll), some (.ref lf)] ∧ Ext t H H' ∧ Tape K H' t c (b + ws1.length) ∧ H' ll = some (.lst (ws1.map V.str)) ∧ H' lf = some (.lst (ws2.map V.str)) ∧ (∀ x ∈ ws1, Wok x) ∧ (∀ x ∈ ws2, Wok x) ∧ m = ws1.length ∧ (ws2 ++ ws1).Perm ws,
      ⟨ws.length, ws, [], rfl, same_ext s2, hT.same s2, same_new hlf _ _ gl1, upd_same, h2, (fun _ q => nomatch q), rfl, List.Perm.refl _⟩, ?_⟩
    rintro m σ H2 ⟨ws1, ws2, rfl, e2, t2, g1, g2, w1, w2, rfl, ln⟩
    have lnn : ws2.length + ws1.length = ws.length := by
      have := ln.length_eq
      rwa [List.length_append] at this
    refine ⟨_, rfl, slz rfl, fun e he => ?_⟩
    have s5 : Same H2 (upd H2 e (.lst [])) := same_new he
    refine ⟨_, _, .lst (SqL.of (s5 _ _ g1)) (dp_words ws1), .lst (SqL.of upd_same) .nil, shaped_words w1, shaped_nil, _, rfl, ?_⟩
    rw [words_ne]
    have E5 := e2.trans (same_ext (t := t) s5)
    have T5 := t2.same s5
    have g1' := s5 _ _ g1
    have g2' := s5 _ _ g2
    generalize upd H2 e (.lst []) = H3 at E5 T5 g1' g2' ⊢
    clear s5
    by_cases hst : ws1 = []
    · subst hst
      refine iteF ?_
      exact ⟨_, rfl, k H3 lf ws2 E5 T5 nlf g2' w2 (by simpa using ln)⟩
    · have pos : 0 < ws1.length := List.length_pos_iff.mpr hst
      have hne : (!ws1.isEmpty) = true := by
        cases ws1 with
        | nil => exact absurd rfl hst
        | cons _ _ => rfl
      refine iT hne ?_
      refine ⟨fun σ' H' => ∃ (ws1' ws2 : List Str), σ' = [some (.ref t), some (.ref l), some (.ref ll), some (.ref lf)] ∧ Ext t H H' ∧ Tape K H' t c (b + ws1'.length) ∧ H' ll = some (.lst (ws1'.map V.str)) ∧ H' lf = some (.lst (ws2.map V.str)) ∧ (∀ x ∈ ws1', Wok x) ∧ (∀ x ∈ ws2, Wok x) ∧ ws1'.length < ws1.length ∧ (ws2 ++ ws1').Perm ws, ?_, ?_⟩
      · rintro σ' H' ⟨a1, a2, x1, x2, x3, x4, x5, x6, x7, x8, x9⟩
        exact ⟨a1.length, x8, a1, a2, x1, x2, x3, x4, x5, x6, x7, rfl, x9⟩
      · have lm : (ws1.map V.str).length = ws1.length := List.length_map ..
        refine ⟨_, rfl, .inl ⟨rfl, _, SqL.of g2'⟩, _, rfl, .inl ⟨rfl, _, SqL.of g1'⟩, _, rfl, _, rfl, _, _, rfl, .inl ⟨_, SqL.of g1', rfl⟩, t, c, _, b + (ws1.length - 1), rfl, by rw [lm]; omega, by rw [lm]; omega, T5.less (by omega), fun H4 r e4 t4 r0 r1 => ?_⟩
        obtain ⟨j, rfl⟩ : ∃ j : Nat, r = (j : Int) := ⟨r.toNat, (Int.toNat_of_nonneg r0).symm⟩
        rw [lm] at r1
        have hj : j < ws1.length := by omega
        obtain ⟨x, hx⟩ : ∃ x, ws1[j]? = some x := ⟨_, List.getElem?_eq_getElem hj⟩
        have mx := List.mem_of_getElem? hx
        have g14 := e4 _ _ ntl g1'
        have g24 := e4 _ _ ntf g2'
        refine ⟨ll, ws1.map V.str, (j : Int), j, .str x, rfl, rfl, g14, by omega, by omega, ?_, by rw [List.getElem?_map, hx]; rfl, ?_⟩
        · rw [lm, seqIndex_of (by omega) (by omega), Int.toNat_natCast]
        · rw [eraseIdx_str]
          have E6 := E5.trans e4
          have g1u : (upd H4 ll (.lst ((ws1.eraseIdx j).map V.str))) ll = _ := upd_same
          have g2u : (upd H4 ll (.lst ((ws1.eraseIdx j).map V.str))) lf = some (.lst (ws2.map V.str)) := by rw [upd_ne nll.symm]; exact g24
          have E7 := E6.upd (o := .lst ((ws1.eraseIdx j).map V.str)) hll
          have T7 := Tape.put hT E6 t4 hll (o := .lst ((ws1.eraseIdx j).map V.str))
          generalize upd H4 ll (.lst ((ws1.eraseIdx j).map V.str)) = H5 at g1u g2u E7 T7 ⊢
          have le : (ws1.eraseIdx j).length = ws1.length - 1 := List.length_eraseIdx_of_lt hj
          refine ⟨lf, _, _, rfl, rfl, g2u, by rw [List.length_map]; exact szl (by omega), ws1.eraseIdx j, ws2 ++ [x], rfl, E7.upd nlf, Tape.put hT E7 (T7.less (by rw [le]; exact Nat.le_refl _)) nlf, by rw [upd_ne nll]; exact g1u, by rw [upd_same, List.map_append]; rfl, fun y hy => w1 y (List.mem_of_mem_eraseIdx hy), fun y hy => ?_, by rw [le]; omega, by rw [List.append_assoc]; exact ((erase_perm hx).append_left ws2).trans ln⟩
          rcases List.mem_append.mp hy with q | q
          · exact w2 y q
          · rw [List.mem_singleton.mp q]; exact w1 x mx
end
end L3

/-! list(reversed(t)) of a tuple -/
namespace L3
open PySem PySem.Spec PyProof.Rows L2 RT
theorem nolen_rt : typeLookup (.type "reversed") "__len__" = pure none := by rw [typeLookup_type, builtinLookup_eq_fast]; kernel_rfl
theorem hint_rt : typeLookup (.type "reversed") "__length_hint__" = pure (some (.builtin "reversed.__length_hint__")) := by rw [typeLookup_type, builtinLookup_eq_fast]; kernel_rfl
theorem walks_rt {prog : Program} {w : World} {A : Around} (hh : A.handled = none) (I t : Addr) (hne : t ≠ I) (items : Array Value) (hn : items.size ≤ sizeLine) :
    Walks prog w A I [I, t] [I] items.size (fun i v => items[items.size - 1 - i]? = some v) (fun i h => i ≤ items.size ∧ IsRt h I t ((items.size : Int) - 1 - (i : Int)) ∧ IsTup h t items) where
  sub := fun b hb => by simp at hb; simp [hb]
  frame := fun _ _ _ x hk => ⟨x.1, x.2.1.at fun o e => hk I (by simp) o e, by
    obtain ⟨o, ho, r⟩ := x.2.2
    exact ⟨o, hk t (by simp) o ho, r⟩⟩
  item := fun i s Q E hi x hQ => by
    have e : (items.size : Int) - 1 - (i : Int) = ((items.size - 1 - i : Nat) : Int) := by omega
    have hit := x.2.1
    rw [e] at hit
    have hx : items[items.size - 1 - i]? = some (items[items.size - 1 - i]'(by omega)) := Array.getElem?_eq_getElem (by omega)
    refine next_rt_item hit x.2.2 hx hn fun h' hit' hs' => ?_
    have e2 : ((items.size - 1 - i : Nat) : Int) - 1 = (items.size : Int) - 1 - ((i + 1 : Nat) : Int) := by omega
    rw [e2] at hit'
    refine hQ _ h' (s.toks + 1) hx ⟨hi, hit', ?_⟩ fun b o hb eo => hs'.extBut b o (fun h => hb (by simp [h])) eo
    obtain ⟨o, ho, r⟩ := x.2.2
    exact ⟨o, (hs'.2 t hne).trans ho, r⟩
  done := fun s Q E x hQ => by
    have e : (items.size : Int) - 1 - (items.size : Int) = -1 := by omega
    have hit := x.2.1
    rw [e] at hit
    exact next_rt_end hh hit fun h' he' => hQ h' s.toks fun b o hb eo => he' b o (fun h => hb (by simp [h])) eo
  self := fun _ _ _ _ x hQ => iter_rt x.2.1 hQ
theorem asInt_int (n : Int) (tk : Nat) : asInt? (Value.int n tk) = pure (some n) := rfl
theorem slot_rt_hint : Slot "reversed" "__length_hint__" "reversed.__length_hint__" :=
  .of (owner := "reversed") (n := "__length_hint__") (by rw [typeLookup_type, builtinLookup_eq_fast]; kernel_rfl) (by decide +kernel) (by decide +kernel) (by decide +kernel)
    (by first | exact .inl (by decide +kernel) | exact .inr (by decide +kernel)) (by rw [isSubtype_type]; kernel_rfl)
theorem entry_rt_hint : entryFor table "reversed.__length_hint__" = some Builtin.«reversed.__length_hint__» := entryFor_of_tree (by kernel_rfl)
theorem args_rt_hint (a : Value) : argsOk "reversed.__length_hint__" ⟨[a], []⟩ := by
  unfold argsOk; rw [signature?_of (id := "reversed.__length_hint__") (n := ['_', '_', 't', 'n', 'i', 'h', '_', 'h', 't', 'g', 'n', 'e', 'l', '_', '_']) (o := ['d', 'e', 's', 'r', 'e', 'v', 'e', 'r']) (by kernel_rfl) owner_rt]; kernel_rfl
section
variable {prog : Program} {w : World} {A : Around} {E : Value → Shared → Prop} {s : Shared}
theorem hint_rt_call {it t : Addr} {items : Array Value} {Q : Value → Shared → Prop} (hit : IsRt s.heap it t ((items.size : Int) - 1)) (ht : IsTup s.heap t items) (hn : items.size ≤ sizeLine)
    (q : ∀ tk tk', Q (.int (items.size : Int) tk) { s with toks := tk' }) : wpAny (model prog w) A (call (.builtin "reversed.__length_hint__") [.ref it]) Q E s := by
  obtain ⟨o, ho, hc, hd⟩ := id hit
  have hn' := hn
  rw [sizeLine_eq] at hn'
  refine wpAny_call_entry slot_rt_hint hit.typeIs entry_rt_hint ?_ (args_rt_hint _)
  unfold Builtin.«reversed.__length_hint__»
  refine wpAny_bind (wpAny_of_eq (a := Value.ref it) rfl ?_)
  try dsimp only
  refine wpAny_bind (wpAny_field ho hd (x := .ref t) rfl ?_)
  rw [if_neg (show ¬ ((Value.ref t == Value.none) = true) from Bool.false_ne_true)]
  try dsimp only
  refine wpAny_bind (len_tuple ht (by omega) ?_)
  refine wpAny_bind (wpAny_of_eq (a := some ((items.size : Nat) : Int)) rfl ?_)
  try dsimp only
  refine wpAny_bind (wpAny_field (s := { s with toks := s.toks + 1 + 1 }) ho hd (x := rawInt ((items.size : Int) - 1)) rfl ?_)
  show wpAny _ _ (if ((items.size : Nat) : Int) < (items.size : Int) - 1 + 1 then _ else _) _ _ _
  rw [if_neg (by omega)]
  unfold retInt
  refine wpAny_bind (wpAny_mkInt ?_)
  refine wpAny_pure ⟨_, rfl, ?_⟩
  rw [show (items.size : Int) - 1 + 1 = (items.size : Int) by omega]
  exact q _ _
theorem call_list_rt {it t : Addr} {items : Array Value} {Q : Value → Shared → Prop} (hh : A.handled = none) (hit : IsRt s.heap it t ((items.size : Int) - 1)) (ht : IsTup s.heap t items) (hne : t ≠ it) (hn : items.size ≤ sizeLine)
    (q : ∀ h' tk acc c, (∀ b o, b ≠ it → s.heap.get? b = some o → h'.get? b = some o) → h'.get? s.heap.objs.size = some { cls := .type "list", dict := none, data := .seq acc c, slots := #[] } → ItemsOf (fun i v => items[items.size - 1 - i]? = some v) acc items.size →
      Q (.ref s.heap.objs.size) { s with heap := h', toks := tk }) : wpAny (model prog w) A (call (.type "list") [.ref it]) Q E s := by
  have W := (walks_rt (prog := prog) (w := w) (A := A.in1.in1) hh it t hne items hn).toS
  obtain ⟨oi, hoi, _⟩ := id hit
  obtain ⟨ot, hot, _⟩ := id ht
  have zlt : it < s.heap.objs.size := Heap.lt_size hoi
  have tlt : t < s.heap.objs.size := Heap.lt_size hot
  refine callType_codes (Q₁ := fun obj s' => obj = .ref s.heap.objs.size ∧ s' = { s with heap := s.heap.push { cls := .type "list", data := .seq #[] } }) PySem.F.called_list (PySem.F.typeCall_list_1 _) PySem.F.entry_list_init (code_list_new _ ⟨rfl, rfl⟩) ?_
  rintro obj s' ⟨rfl, rfl⟩
  have at0 : (s.heap.push { cls := .type "list", data := .seq #[] }).get? s.heap.objs.size = some { cls := .type "list", data := .seq #[] } := Heap.get?_push_size _ rfl
  refine ⟨⟨_, at0, rfl⟩, PySem.F.args_list_init_2 _ _, ?_⟩
  show wpAny _ A.in1.in1 (do let old ← Builtin.List.listItems (.ref s.heap.objs.size); Builtin.List.listUpdate (.ref s.heap.objs.size) (fun _ => #[]); letGo old.toList.reverse; Builtin.List.listExtendWith (.ref s.heap.objs.size) (.ref it) .none) _ _ _
  refine wpAny_bind ?_
  unfold Builtin.List.listItems
  refine wpAny_bind (wpAny_seqItems at0 rfl (wpAny_pure ?_))
  show wpAny _ A.in1.in1 (updateSeq s.heap.objs.size (fun _ => #[]) >>= fun _ => letGo (#[] : Array Value).toList.reverse >>= fun _ => Builtin.List.listExtendWith (.ref s.heap.objs.size) (.ref it) .none) _ _ _
  refine wpAny_bind (wpAny_updateSeq at0 rfl (wpAny_bind (wpAny_letGo ?_)))
  have at1 := Heap.get?_update_self (Obj.mapSeq (fun _ => (#[] : Array Value))) at0 rfl
  have k1 : ∀ b o, s.heap.get? b = some o → ((s.heap.push { cls := .type "list", data := .seq #[] }).update s.heap.objs.size (Obj.mapSeq (fun _ => (#[] : Array Value)))).get? b = some o :=
    fun b o e => (Heap.get?_update_other _ _ (Nat.ne_of_gt (Heap.lt_size e))).trans (Heap.get?_push_of_some _ e)
  generalize (s.heap.push { cls := .type "list", data := .seq #[] }).update s.heap.objs.size (Obj.mapSeq (fun _ => (#[] : Array Value))) = g1 at at1 k1 ⊢
  have hit1 : IsRt g1 it t ((items.size : Int) - 1) := hit.at fun o e => k1 _ o e
  have ht1 : IsTup g1 t items := by
    obtain ⟨o, ho, r⟩ := ht
    exact ⟨o, k1 _ _ ho, r⟩
  have isz : ({ s with heap := g1 } : Shared).TypeIs (.ref it) "reversed" := IsRt.typeIs (s := { s with heap := g1 }) hit1
  have nsame : Builtin.List.listSameRef (.ref s.heap.objs.size) (.ref it) = false := by simp [Builtin.List.listSameRef, Nat.ne_of_gt zlt]
  have zz : (Value.type "reversed" == Value.type "list") = false := by decide
  have zt : (Value.type "reversed" == Value.type "tuple") = false := by decide
  unfold Builtin.List.listExtendWith
  refine wpAny_bind (wpAny_typeOf isz ?_)
  simp only [nsame, zz, zt, Bool.or_false, Bool.false_eq_true, if_false]
  refine wpAny_bind (iter_rt (s := { s with heap := g1 }) hit1 (wpAny_bind (wpAny_holding ?_)))
  unfold Builtin.List.listLengthHint
  refine wpAny_bind (wpAny_specialOf isz nolen_rt ?_)
  show wpAny _ A.in1.in1 (specialOf (Value.ref it) (Str.ofString "__length_hint__") >>= _) _ _ _
  refine wpAny_bind (wpAny_specialOf isz hint_rt ?_)
  generalize hid : ("reversed.__length_hint__" : String) = id0
  wp_delta
  rw [show splitId id0 = some ("reversed", "__length_hint__") from by subst hid; decide +kernel]
  subst hid
  refine wpAny_bind (wpAny_isInstance (b := true) isz (by rw [isSubtype_type]; kernel_rfl) ?_)
  rw [if_neg (by decide)]
  try dsimp only
  rw [if_neg (by decide +kernel)]
  refine wpAny_bind (wpAny_rule ?_)
  refine wpAny_bind (wpAny_of_eq (slot_rt_hint.bind _) ?_)
  try dsimp only
  refine wpAny_bind (wpAny_attempt (hint_rt_call (s := { s with heap := g1 }) hit1 ht1 hn fun tk tk' => ?_))
  try dsimp only
  have hS : ∀ (g2 : Heap) (c : Nat) (tk2 : Nat), (∀ b o, s.heap.get? b = some o → g2.get? b = some o) → g2.get? s.heap.objs.size = some { cls := .type "list", dict := none, data := .seq #[] c, slots := #[] } →
      codeAny (model prog w) A.in1 (.builtin "list.extend.loop" ⟨[.ref s.heap.objs.size, .ref it, .none], []⟩) (wants (fun r s₂ => r = Value.none ∧ Q (Value.ref s.heap.objs.size) s₂) E) { s with heap := g2, toks := tk2 } := by
    intro g2 c tk2 k2 at2
    have e0 : ((items.size : Nat) : Int) - 1 - ((0 : Nat) : Int) = (items.size : Int) - 1 := by omega
    refine codeAny_extend_loopS W hn _ ?_ .none items.size 0 { s with heap := g2, toks := tk2 } #[] c rfl (Nat.zero_le _) ⟨Nat.zero_le _, by rw [e0]; exact hit.at fun o e => k2 _ o e, by
      obtain ⟨o, ho, r⟩ := ht
      exact ⟨o, k2 _ _ ho, r⟩⟩ at2 (ItemsOf.nil _) fun s' acc' c' hm hS' hacc => ?_
    · simp only [List.mem_cons, List.not_mem_nil, or_false, not_or]
      exact ⟨Nat.ne_of_gt zlt, Nat.ne_of_gt tlt⟩
    · refine ⟨rfl, ?_⟩
      rw [Moved.eq_with hm]
      refine q s'.heap s'.toks acc' c' (fun b o hb e => hm.heap b o (fun hmem => ?_) (k2 _ _ e)) hS' hacc
      rcases List.mem_cons.mp hmem with e' | hmem
      · exact absurd (Heap.lt_size e) (by rw [e']; exact Nat.lt_irrefl _)
      · exact hb (List.mem_singleton.mp hmem)
  have hz0 : 0 ≤ (items.size : Int) := by omega
  have hz1 : (items.size : Int) < 2 ^ 63 := by
    rw [sizeLine_eq] at hn
    omega
  have hz2 : (items.size : Int).toNat ≤ sizeLine := by
    rw [Int.toNat_natCast]
    exact hn
  generalize ((items.size : Nat) : Int) = z at hz0 hz1 hz2 ⊢
  refine wpAny_bind (wpAny_of_eq (asInt_int z tk) ?_)
  try dsimp only
  rw [if_neg (by
    have : Builtin.List.listFitsIndex z = true := by
      unfold Builtin.List.listFitsIndex
      simp only [Bool.and_eq_true, decide_eq_true_eq]
      omega
    rw [this]; decide), if_neg (by omega), if_neg (by
    unfold Builtin.List.listTooLong
    simp only [decide_eq_true_eq]
    omega)]
  refine wpAny_pure ?_
  split
  · refine wpAny_bind (wpAny_rule (wpAny_bind ?_))
    show wpAny _ A.in1.in1 (updateSeq s.heap.objs.size (·.push .none) >>= fun _ => updateSeq s.heap.objs.size (·.pop)) _ _ _
    refine wpAny_bind (wpAny_updateSeq at1 rfl ?_)
    have at2 := Heap.get?_update_self (Obj.mapSeq (·.push Value.none)) at1 rfl
    refine wpAny_updateSeq (hz := by seq_fits) at2 rfl ?_
    have at3 := Heap.get?_update_self (Obj.mapSeq (·.pop)) at2 rfl
    refine wpAny_pure ⟨plainId_quiet F.plain_extend_loop _, ?_⟩
    refine hS _ _ tk' (fun b o e => ?_) at3
    have nb := Nat.ne_of_gt (Heap.lt_size e)
    exact (Heap.get?_update_other _ _ nb).trans ((Heap.get?_update_other _ _ nb).trans (k1 b o e))
  · refine wpAny_pure ⟨plainId_quiet F.plain_extend_loop _, ?_⟩
    exact hS g1 _ tk' k1 at1
end
/-- list(reversed(t)), t a tuple -/
def tListRevT (K : PySem.W.Frag) (te : TE) : TE := fun σ H Q => te σ H fun v H1 => ∃ (a : Addr) (xs : List V), v = .ref a ∧ SqT K H1 a xs ∧ ∀ q, H1 q = none → Q (.ref q) (upd H1 q (.lst xs.reverse))
theorem pe_listRevT {X : Cx} {e : Expr} {te : TE} {p p2 pos pos2 : Pos} (hc : X.calm = true) (hg : Gl X "list") (hm : X.mg "list" = none) (hg2 : Gl X "reversed") (hm2 : X.mg "reversed" = none) (he : PE X e te)
    (hs : starEach [e] X.env = (false, eval e X.env) :: starEach [] X.env := by rfl)
    (hs2 : starEach [.Call (.Name "reversed" p2) [e] [] pos2] X.env = (false, eval (.Call (.Name "reversed" p2) [e] [] pos2) X.env) :: starEach [] X.env := by rfl) :
    PE X (.Call (.Name "list" p) [.Call (.Name "reversed" p2) [e] [] pos2] [] pos) (tListRevT X.K te) := by
  refine ⟨fun pins s σ H Q I h => ?_⟩
  refine Call_ (ld_blt I hg hm (show bootBuiltins "list" = some (Value.type "list") by decide +kernel) (PyProof.Rows.callWith_type1 (args_cons (Call_ (ld_blt I hg2 hm2 PyProof.Rows.boot_reversed (PyProof.Rows.callWith_type1 (args_cons (thn (he.run pins s σ H _ I h) fun u s1 ⟨v, H1, I1, r1, q1⟩ => args_nil ?_) hs) hs rfl))) hs2) hs2 rfl))
  obtain ⟨a, xs, ev, hq, q⟩ := q1
  subst ev
  obtain rfl : u = Value.ref a := r1
  obtain ⟨its, rv, p', hz⟩ := I1.tuple hq
  have hl := rv.length
  have hn63 := line63
  have hn : its.toArray.size ≤ sizeLine := by rw [List.size_toArray, ← rv.length]; exact hz
  refine call_reversed_tup p' (fun A E Q k => len_tuple p' (by simp only [List.size_toArray] <;> omega) k) (args_nil ?_)
  have k0 : ∀ b o, s1.heap.get? b = some o → (s1.heap.push (rtObj a ((its.toArray.size : Int) - 1))).get? b = some o := fun b o e => Heap.get?_push_of_some _ e
  obtain ⟨ol, hol, _⟩ := id p'
  have hne : a ≠ s1.heap.objs.size := Nat.ne_of_lt (Heap.lt_size hol)
  refine call_list_rt (s := { s1 with heap := s1.heap.push (rtObj a ((its.toArray.size : Int) - 1)), toks := s1.toks + 1 + 1 }) (I1.ok.hd hc) ⟨_, Heap.get?_push_size _ rfl, rfl, rfl⟩ (by
    obtain ⟨o, ho, r⟩ := p'
    exact ⟨o, k0 _ _ ho, r⟩) hne hn fun h' tk acc c hk at' hi => ?_
  have kk : ∀ b o, s1.heap.get? b = some o → h'.get? b = some o := fun b o e => hk b o (Nat.ne_of_lt (Heap.lt_size e)) (k0 b o e)
  have le : s1.heap.objs.size ≤ (s1.heap.push (rtObj a ((its.toArray.size : Int) - 1))).objs.size := by
    have z : (s1.heap.push (rtObj a ((its.toArray.size : Int) - 1))).get? s1.heap.objs.size = some (rtObj a ((its.toArray.size : Int) - 1)) := Heap.get?_push_size _ rfl
    exact Nat.le_of_lt (Heap.lt_size z)
  exact ⟨.ref _, upd H1 _ (.lst xs.reverse), I1.laid (t' := tk) kk le (show ObjOk X.prog X.w _ h' _ (.lst xs.reverse) from ⟨by rw [List.length_reverse]; exact hz, acc.toList, c, vals_rev rv hi, by rw [Array.toArray_toList]; exact at'⟩), rfl, q _ (I1.hok.fresh le)⟩
end L3

/-! defs with a star parameter, known by their names -/
namespace L3
open PySem PySem.Spec PyProof.Rows L2 StX
structure KnR (P : Program) (w : World) (K : PySem.W.Frag) (mg : Str → Option Value) (base : Heap) (k : Nat) (x : Str) (sp : Sp) : Prop where
  ex : ∃ (f : Addr), FnR P w K mg base CX0 k f sp ∧ mg x = some (.ref f) ∧ PySem.W.keepIn K (.ref f) = true
def tCallR (sp : Sp) (t : TA) : TE := fun σ H Q => t σ H fun vs H1 => sp vs H1 Q E0
def tCallS (K : PySem.W.Frag) (sp : Sp) (te : TE) : TE := fun σ H Q => te σ H fun y H1 => ∃ a xs, y = V.ref a ∧ (SqT K H1 a xs ∨ SqL K H1 a xs) ∧ sp xs H1 Q E0
section
variable {X : Cx} {x : Str} {k : Nat} {sp : Sp} {e : Expr} {es : List Expr} {te : TE} {t : TA} {p sp_ pos : Pos}
theorem pe_ks (D : KnR X.prog X.w X.K X.mg X.base k x sp) (hr : Room k X.A) (ha : PA X (e :: es) t) (hg : Gl X x := by rfl) (hdb : (x == ("__debug__" : Str)) = false := by decide)
    (he : starEach (e :: es) X.env = (false, eval e X.env) :: starEach es X.env := by rfl) (hpl : (backTo pos (starEach es X.env)).any (·.1) = false := by rfl) :
    PE X (.Call (.Name x p) (e :: es) [] pos) (tCallR sp t) := by
  obtain ⟨f, F, hm, hk⟩ := D.ex
  refine ⟨fun pins s σ H Q I h => ?_⟩
  refine wpAny_Call_Name_kw (ld_glob I hg hm ?_ hdb)
  refine PySem.W.callWith_K (h₀ := X.base) I.ok.mod.kin hk (thn (ha.run pos pins s σ H _ I h) fun us s1 ⟨vs, H1, I1, r, q⟩ => ⟨I1.kIn, ?_⟩) he hpl
  exact wpAny_call (run_fnR F hr pass0 I1 r q)
theorem pe_ks0 (D : KnR X.prog X.w X.K X.mg X.base k x sp) (hr : Room k X.A) (hg : Gl X x := by rfl) (hdb : (x == ("__debug__" : Str)) = false := by decide) : PE X (.Call (.Name x p) [] [] pos) (tCallR sp tNil) := by
  obtain ⟨f, F, hm, hk⟩ := D.ex
  refine ⟨fun pins s σ H Q I h => ?_⟩
  refine wpAny_Call_Name_kw (ld_glob I hg hm ?_ hdb)
  exact PySem.W.callWith_K0 I.kIn hk (wpAny_call (run_fnR (us := []) F hr pass0 I .nil h))
theorem pe_ks1 (D : KnR X.prog X.w X.K X.mg X.base k x sp) (hr : Room k X.A) (he : PE X e te) (hg : Gl X x := by rfl) (hd : (x == ("__debug__" : Str)) = false := by decide)
    (hst : starEach [.Starred e sp_] X.env = [(true, eval e X.env)] := by rfl) :
    PE X (.Call (.Name x p) [.Starred e sp_] [] pos) (tCallS X.K sp te) := by
  obtain ⟨f, F, hm, hk⟩ := D.ex
  exact pe_callS1 F hr hk hg hm pass0 he hd hst
end
section
variable {P : Program} {w : World} {K : PySem.W.Frag} {mg : Str → Option Value} {base : Heap}
/-- what a def with a star parameter is promised, by what it is promised of the tuple -/
def spStar (n : Nat) (sp : Sp) : Sp := fun vs H Q E => ∃ ws rest, vs = ws ++ rest ∧ ws.length = n ∧ rest.length ≤ sizeLine ∧ ∀ p, H p = none → sp (ws ++ [V.ref p]) (upd H p (.tup rest)) Q E
theorem fn_starK {x qual pv : Str} {st : Stmt} {f : Addr} {fd : FuncData} {N ps : List Str} {k : Nat} {sp : Sp} (F : Fun K x qual st f fd) (S : FnScope N (ps ++ [pv]) (defScope st))
    (hb : ∀ (kV doc pm : Value) (an : Option Addr) (cdv ct : Value) (us rest : List Value), us.length = ps.length → bindArgs (PySem.W.fnOf x qual (defArgs st) (defBody st) (defScope st) .none kV doc pm an cdv ct) ⟨us ++ rest, []⟩ = (newTuple rest >>= fun t => pure (ps.zip us ++ [(pv, t)])))
    (hbody : ∀ (cdv : Value) (A : Around) (outer : List Env) (s : Shared) (H : Hp) (vs : List V) (Q : VK) (E : XK), Room k (A.deeper (envOfC qual (defScope st) s.heap.objs.size f cdv)) → sp vs H Q E →
      ∃ t, PSs (cxOf CX0 P w K mg base N qual (defScope st) f cdv A outer s H E).nox (defBody st) t ∧ t { nx := fun _ H' => Q .non H', rt := Q } (start N vs) H) : FnR P w K mg base CX0 (k + 1) f (spStar ps.length sp) := by
  obtain ⟨oc, od, kV, doc, pm, an, cdv, ct, osl, rfl, lk, hcd⟩ := F.ex
  exact fn_star lk hcd S (fun _ _ _ _ _ _ _ _ _ _ _ z => z) (hb kV doc pm an cdv ct) fun A outer s H vs Q E hr h => by
    obtain ⟨t, ht, q⟩ := hbody cdv A outer s H vs Q E hr h
    exact ⟨t, PSs.nox ht, q⟩
end
end L3

/-! enumerate(t), t a tuple -/
namespace L3
open PySem PySem.Spec PyProof.Rows L2
open Sem (wp)
/-- the pairs (i, t[i]), each new -/
def Iet (K : PySem.W.Frag) (a : Addr) : It :=
  ⟨fun i H => ∃ (xs : List V) (x : V), SqT K H a xs ∧ xs[i]? = some x, fun i H v H' => ∃ T x, v = .ref T ∧ H T = none ∧ H' = upd H T (.tup [.int (i : Nat), x]) ∧ ∀ xs, SqT K H a xs → xs[i]? = some x, fun i H => ∃ xs : List V, SqT K H a xs ∧ xs.length = i⟩
theorem turn_enumT {P : Program} {w : World} {K : PySem.W.Frag} {elts : List Expr} {kk : Nat} {tpos : Pos} (a e it : Addr) (na : a ≠ it) (nae : a ≠ e) :
    Turn P w K (.Tuple elts kk tpos) (Iet K a) [e, it] e (fun i h => (∃ old, IsEnum h e it ((i : Nat) : Int) old) ∧ h.IsTupleIter it a i ∧ e ≠ it) where
  mem := List.mem_cons_self ..
  obj := by
    rintro i h ⟨⟨old, he⟩, ⟨o, ho, hc, hd⟩, _⟩ b hb
    rcases List.mem_cons.mp hb with z | z
    · rw [z]; exact ⟨_, he, fun v q => nomatch q⟩
    · have z := List.mem_singleton.mp z
      rw [z]; exact ⟨o, ho, fun v q => by rw [hd] at q; cases q⟩
  keep := by
    rintro i h h' ⟨⟨old, he⟩, hi, hne⟩ k
    exact ⟨⟨old, k e (by simp) _ he⟩, hi.at fun o q => k it (by simp) o q, hne⟩
  item := by
    intro X hP hw hK hc i pins s σ H E I hf st hg
    subst hP hw hK
    obtain ⟨⟨old, he⟩, hit, hne⟩ := st
    obtain ⟨xs, x, hq, hx⟩ := hg
    obtain ⟨its, rv, p, hz⟩ := I.tuple hq
    obtain ⟨u, hu, ru⟩ := rv.get hx
    have ht : s.heap.IsTuple a its.toArray := p
    have hel : e < s.heap.objs.size := Heap.lt_size he
    have hil : it < s.heap.objs.size := by obtain ⟨_, q, _⟩ := hit; exact Heap.lt_size q
    have lt : i < its.toArray.size := by
      obtain ⟨q, _⟩ := List.getElem?_eq_some_iff.mp hu
      simpa using q
    refine wpAny_pyNext_enum_itemD (Draws.tuple (A := X.A.in1) (show X.A.in1.handled = none from I.ok.hd hc) it a na its.toArray) he ⟨hit, ht⟩ lt hne (by simp [hne, nae.symm]) fun y h' tk hy ho hs' hT hsz hk => ?_
    have ey : y = u := by
      have h2 : its[i]? = some y := by simpa using hy
      rw [hu] at h2
      exact (Option.some.inj h2).symm
    subst ey
    refine ⟨_, rfl, wpAny_letOwnedTupleGo_enum (s := { s with heap := h', toks := tk + 1 }) ho fun h'' he' sb => ?_⟩
    have hT2 : h''.get? s.heap.objs.size = some { cls := .type "tuple", data := .seq #[.int i tk, y] } := (sb.2 _ (Nat.ne_of_gt hel)).trans hT
    have new : ObjOk X.prog X.w (upd H s.heap.objs.size (.tup [.int (i : Nat), x])) h'' s.heap.objs.size (.tup [.int (i : Nat), x]) :=
      ⟨by show 2 ≤ sizeLine; decide, [.int i tk, y], .cons ⟨_, rfl⟩ (.cons ru .nil), ⟨_, hT2, rfl, _, rfl⟩⟩
    have I1 : Inv X pins σ (upd H s.heap.objs.size (.tup [.int (i : Nat), x])) { s with heap := h'', toks := tk + 1 } :=
      I.turnedNew (ch := [e, it]) (fun b ob hb q => (sb.2 b (fun z => hb (by simp [z]))).trans (hk b ob (fun z => hb (by simp [z])) (fun z => hb (by simp [z])) q)) hf (Nat.le_refl _) new
    refine ⟨.ref s.heap.objs.size, _, I1, rfl, ⟨_, x, rfl, I.hok.fresh (Nat.le_refl _), rfl, fun ys hy => by rw [I.tuple_inj hy hq]; exact hx⟩, ⟨⟨y, ?_⟩, hs'.1.at fun o q => (sb.2 it (Ne.symm hne)).trans q, hne⟩, fun b hb => ?_⟩
    · have e1 : ((i + 1 : Nat) : Int) = (i : Int) + 1 := by omega
      rw [e1]; exact he'
    · have hb' : b < s.heap.objs.size := by
        rcases List.mem_cons.mp hb with z | z
        · rw [z]; exact hel
        · rw [List.mem_singleton.mp z]; exact hil
      rw [upd_ne (Nat.ne_of_lt hb')]
      exact (hf b hb).1
  done := by
    intro X hP hw hK hc i pins s σ H E I hf st hg
    subst hP hw hK
    obtain ⟨⟨old, he⟩, hit, hne⟩ := st
    obtain ⟨xs, hq, hx⟩ := hg
    obtain ⟨its, rv, p, hz⟩ := I.tuple hq
    have ht : s.heap.IsTuple a its.toArray := p
    obtain ⟨f0, f1, f2, f3, f4, f5⟩ := hf it (by simp)
    have hl := rv.length
    have ei : i = its.toArray.size := by simp; omega
    refine wpAny_pyNext_enum_endD (Draws.tuple (A := X.A.in1) (show X.A.in1.handled = none from I.ok.hd hc) it a na its.toArray) he ⟨ei ▸ hit, ht⟩ fun h' eb => ?_
    exact ⟨rfl, I.turned (t' := s.toks) (fun b o hb q => eb b o hb q) f0 f1 f3 f4 f5⟩
  self := fun A i s Q E st h => let ⟨⟨_, he⟩, _⟩ := st; wpAny_pyIter_enum he h
/-- what enumerate(v) makes: an iterator of v and the pair-maker above it -/
def twoNew (h : Heap) (o : Obj) : Heap := (h.push o).push { cls := .type "enumerate", data := .fields #[.none, .bool false, .ref h.objs.size, rawInt 0, .none, .none] }
theorem meets_enum1 {v : Value} {o : Obj} {G : Heap → Prop} (B : Begins v o G) : Meets (Builtin.«enumerate.__new__» ⟨[.type "enumerate", v], []⟩) (fun _ R s => G s.heap ∧ R (.ok (.ret (.ref (s.heap.push o).objs.size))) { s with heap := twoNew s.heap o }) :=
  .of_wp fun prog w A R s h => by
    obtain ⟨hp, g, d, tk, os⟩ := s
    obtain ⟨h1, h⟩ := h
    have hsub := sub_enumerate
    have q1 : ∀ {A' : Around} {E : Value → Shared → Prop} {Q : Value → Shared → Prop}, Q (.ref hp.objs.size) ⟨hp.push o, g, d, tk, os⟩ → wpAny (model prog w) A' (pyIter v) Q E ⟨hp, g, d, tk, os⟩ := fun q => B.iter prog w _ _ ⟨hp, g, d, tk, os⟩ _ h1 q
    wp_walk using q1
    refine wpAny_stack_any fun st => wpAny_pure ?_
    split
    · rename_i c _ _ _ _ _
      cases (c == Value.type "enumerate") <;> (wp_walk using q1; exact ⟨_, rfl, h⟩)
    · wp_walk using q1
      exact ⟨_, rfl, h⟩
theorem call_enum1 {prog : Program} {w : World} {A : Around} {E : Value → Shared → Prop} {s : Shared} {v : Value} {o : Obj} {G : Heap → Prop} {Q : Value → Shared → Prop} (B : Begins v o G) (h1 : G s.heap)
    (h : ∀ h', IsEnum h' (s.heap.objs.size + 1) s.heap.objs.size 0 .none → h'.get? s.heap.objs.size = some o → (∀ b q, s.heap.get? b = some q → h'.get? b = some q) → Q (.ref (s.heap.objs.size + 1)) { s with heap := h' }) :
    wpAny (model prog w) A (call (.type "enumerate") [v]) Q E s := by
  have hz : (s.heap.push o).objs.size = s.heap.objs.size + 1 := Heap.size_push ..
  refine callType_new F.called_enumerate (by decide) (F.typeCall_enumerate_1 _) (F.newCall_enumerate_1 _) (fun obj => F.args_object_init_2 obj _) F.entry_enumerate_new (meets_enum1 B) ⟨h1, ?_⟩
  show _ ∧ _
  rw [hz]
  have he : IsEnum (twoNew s.heap o) (s.heap.objs.size + 1) s.heap.objs.size 0 .none := by
    rw [← hz]
    exact Heap.get?_push_size _ rfl
  exact ⟨⟨_, he, rfl⟩, h _ he (Heap.get?_push_of_some _ (Heap.get?_push_size _ B.free)) fun b q x => Heap.get?_push_of_some _ (Heap.get?_push_of_some _ x)⟩
def iEnumT (K : PySem.W.Frag) (ta : TA) : TI := fun σ H R => ta σ H fun vs H1 => ∃ a xs, vs = [.ref a] ∧ SqT K H1 a xs ∧ R (Iet K a) H1
theorem pi_enumT {X : Cx} {e : Expr} {ta : TA} {p pos tpos : Pos} {elts : List Expr} {kk : Nat} (hg : Gl X "enumerate") (hm : X.mg "enumerate" = none) (ha : PA X [e] ta) (hs : starEach [e] X.env = [(false, eval e X.env)] := by rfl) :
    PI X (.Tuple elts kk tpos) (.Call (.Name "enumerate" p) [e] [] pos) (iEnumT X.K ta) := by
  refine ⟨fun pins s σ H R I h => ?_⟩
  refine Call_ (ld_blt I hg hm boot_enumerate (PyProof.Rows.callWith_type1 (thn (ha.run pos pins s σ H _ I h) fun us s1 ⟨vs, H1, I1, r1, q1⟩ => ?_) hs rfl))
  obtain ⟨a, xs, rfl, hq, q⟩ := q1
  obtain ⟨u, rfl, ru⟩ := vals1 r1
  cases ru
  obtain ⟨its, rv, p', hz⟩ := I1.tuple hq
  have ht : s1.heap.IsTuple a its.toArray := p'
  have al : a < s1.heap.objs.size := by
    obtain ⟨_, z, _⟩ := ht
    exact Heap.lt_size z
  refine call_enum1 (begins_tuple a its.toArray) ht fun h' he hit hk => wpAny_pyIter_enum he ?_
  have I2 : Inv X pins σ H1 { s1 with heap := h' } := I1.kept (t' := s1.toks) hk
  refine ⟨s1.heap.objs.size + 1, [s1.heap.objs.size + 1, s1.heap.objs.size], _, _, H1, rfl, I2, turn_enumT a (s1.heap.objs.size + 1) s1.heap.objs.size (Nat.ne_of_lt al) (Nat.ne_of_lt (Nat.lt_succ_of_lt al)), ⟨⟨.none, he⟩, ⟨_, hit, rfl, rfl⟩, Nat.succ_ne_self _⟩, fun b hb => ?_, q⟩
  have hle : s1.heap.objs.size ≤ b := by
    rcases List.mem_cons.mp hb with z | z
    · rw [z]; exact Nat.le_add_right _ _
    · rw [List.mem_singleton.mp z]; exact Nat.le_refl _
  exact I1.fpOk hle (I1.hok.fresh hle)
end L3

/-! f(*t), f a local name that holds a def; the walk of enumerate(t) -/
namespace L3
open PySem PySem.Spec PyProof.Rows L2 StX
/-- the def at f keeps the promise sp -/
structure Does (P : Program) (w : World) (K : PySem.W.Frag) (mg : Str → Option Value) (base : Heap) (k : Nat) (f : Addr) (sp : Sp) : Prop where
  fn : FnR P w K mg base CX0 k f sp
  kp : PySem.W.keepIn K (.ref f) = true
def tCallLS (P : Program) (w : World) (K : PySem.W.Frag) (mg : Str → Option Value) (base : Heap) (k i : Nat) (te : TE) : TE := fun σ H Q => ∃ f sp, σ[i]? = some (some (.ref f)) ∧ Does P w K mg base k f sp ∧ te σ H fun y H1 => ∃ a xs, y = V.ref a ∧ (SqT K H1 a xs ∨ SqL K H1 a xs) ∧ sp xs H1 Q E0
theorem pe_callLS {X : Cx} {k i : Nat} {x : Str} {p pos sp_ : Pos} {e : Expr} {te : TE} (hr : Room k X.A) (hN : X.N[i]? = some x) (hv : Vis X.env.scope x) (he : PE X e te)
    (hdb : (x == ("__debug__" : Str)) = false := by decide) (hcd : (x == ("__classdict__" : Str)) = false := by decide) (hst : starEach [.Starred e sp_] X.env = [(true, eval e X.env)] := by rfl) :
    PE X (.Call (.Name x p) [.Starred e sp_] [] pos) (tCallLS X.prog X.w X.K X.mg X.base k i te) := by
  refine ⟨fun pins s σ H Q I h => ?_⟩
  obtain ⟨f, sp, hs, D, ht⟩ := h
  refine wpAny_Call_Name_kw (thn ((pe_var (pos := p) hN hv hdb hcd).run pins s σ H (fun v H1 => v = .ref f ∧ H1 = H) I ⟨.ref f, hs, rfl, rfl⟩) fun u s1 ⟨v, H1, I1, r1, q1⟩ => ?_)
  obtain ⟨rfl, rfl⟩ := q1
  cases r1
  refine PySem.W.callWith_S (h₀ := X.base) I.ok.mod.kin D.kp (thn (he.run pins s1 σ _ _ I1 ht) fun v s2 ⟨y, H2, I2, ry, a, xs, ey, hxs, q⟩ => ?_) hst
  subst ey
  obtain rfl : v = Value.ref a := ry
  exact star_any I2 hxs fun us s3 I3 rv => ⟨I3.kIn, wpAny_call (run_fnR D.fn hr pass0 I3 rv q)⟩
theorem walk_enumT {K : PySem.W.Frag} {a : Addr} {xs : List V} : Walk (Iet K a) xs.length (fun H => SqT K H a xs) (YPair (fun i => some (.int (i : Nat))) (fun i => xs[i]?)) := by
  refine ⟨fun i _ hi q => ⟨xs, xs[i], q, by simp [hi]⟩, fun _ q => ⟨xs, q, rfl⟩, fun i H v H' _ q y => ?_⟩
  obtain ⟨T, x, h1, h2, h3, h4⟩ := y
  exact ⟨T, .int (i : Nat), x, h1, h2, h3, rfl, h4 xs q⟩
end L3

/-! f(x, ..), f a local name that holds a def -/
namespace L3
open PySem PySem.Spec PyProof.Rows L2 StX
def tCallD (P : Program) (w : World) (K : PySem.W.Frag) (mg : Str → Option Value) (base : Heap) (k i : Nat) (ta : TA) : TE := fun σ H Q => ∃ f sp, σ[i]? = some (some (.ref f)) ∧ Does P w K mg base k f sp ∧ ta σ H fun vs H1 => sp vs H1 Q E0
theorem pe_callD {X : Cx} {k i : Nat} {x : Str} {p pos : Pos} {e : Expr} {es : List Expr} {ta : TA} (hr : Room k X.A) (hN : X.N[i]? = some x) (hv : Vis X.env.scope x) (ha : PA X (e :: es) ta)
    (hdb : (x == ("__debug__" : Str)) = false := by decide) (hcd : (x == ("__classdict__" : Str)) = false := by decide)
    (he : starEach (e :: es) X.env = (false, eval e X.env) :: starEach es X.env := by rfl) (hpl : (backTo pos (starEach es X.env)).any (·.1) = false := by rfl) :
    PE X (.Call (.Name x p) (e :: es) [] pos) (tCallD X.prog X.w X.K X.mg X.base k i ta) := by
  refine ⟨fun pins s σ H Q I h => ?_⟩
  obtain ⟨f, sp, hs, D, ht⟩ := h
  refine wpAny_Call_Name_kw (thn ((pe_var (pos := p) hN hv hdb hcd).run pins s σ H (fun v H1 => v = .ref f ∧ H1 = H) I ⟨.ref f, hs, rfl, rfl⟩) fun u s1 ⟨v, H1, I1, r1, q1⟩ => ?_)
  obtain ⟨rfl, rfl⟩ := q1
  cases r1
  refine PySem.W.callWith_K (h₀ := X.base) I.ok.mod.kin D.kp (thn (ha.run pos pins s1 σ _ _ I1 ht) fun us s2 ⟨vs, H2, I2, r2, q2⟩ => ⟨I2.kIn, ?_⟩) he hpl
  exact wpAny_call (run_fnR D.fn hr pass0 I2 r2 q2)
/-- over a list or a tuple -/
def iAny (K : PySem.W.Frag) (tl : TE) : TI := fun σ H R => tl σ H fun x H1 => ∃ a, x = .ref a ∧ ((∃ xs, SqL K H1 a xs) ∧ R (Itl K a) H1 ∨ (∃ xs, SqT K H1 a xs) ∧ R (Itt K a) H1)
theorem pi_any {X : Cx} {tg l : Expr} {tl : TE} (hl : PE X l tl) : PI X tg l (iAny X.K tl) := by
  refine ⟨fun pins s σ H R I h => ?_⟩
  refine thn (hl.run pins s σ H _ I h) fun v s1 ⟨x, H1, I1, r1, q1⟩ => ?_
  obtain ⟨a, e, q⟩ := q1
  subst e
  cases r1
  rcases q with ⟨⟨xs, hq⟩, q⟩ | ⟨⟨xs, hq⟩, q⟩
  · obtain ⟨its, rv, p, hz⟩ := I1.list hq
    refine wpAny_pyIter_list p.isList ?_
    refine ⟨s1.heap.objs.size, [s1.heap.objs.size], _, _, H1, rfl, I1.kept (t' := s1.toks) fun b o e => Heap.get?_push_of_some _ e, turn_list a _, ⟨_, Heap.get?_push_size _ rfl, rfl, rfl⟩, fun b hb => ?_, q⟩
    have e : b = s1.heap.objs.size := by simpa using hb
    subst e
    exact I1.fpOk (Nat.le_refl _) (I1.hok.fresh (Nat.le_refl _))
  · obtain ⟨its, rv, p, hz⟩ := I1.tuple hq
    refine wpAny_pyIter_tuple (show s1.heap.IsTuple a its.toArray from p) ?_
    refine ⟨s1.heap.objs.size, [s1.heap.objs.size], _, _, H1, rfl, I1.kept (t' := s1.toks) fun b o e => Heap.get?_push_of_some _ e, turn_tuple a _, ⟨_, Heap.get?_push_size _ rfl, rfl, rfl⟩, fun b hb => ?_, q⟩
    have e : b = s1.heap.objs.size := by simpa using hb
    subst e
    exact I1.fpOk (Nat.le_refl _) (I1.hok.fresh (Nat.le_refl _))
def rLenK (K : PySem.W.Frag) : List V → Hp → VK → Prop := fun xs H Q => ∃ x n, xs = [x] ∧ LenV K x H n ∧ Q (.int n) H
end L3

/-! a tuple of anything beside the empty one -/
namespace L3
open PySem PySem.Spec PyProof.Rows L2
open PySem.SeqAt
def rNeNil : R2 := fun x y H Q => ∃ (a b : Addr) (xs : List V), x = .ref a ∧ y = .ref b ∧ H a = some (.tup xs) ∧ H b = some (.tup []) ∧ Q (.bl (!xs.isEmpty)) H
theorem op_neNil {X : Cx} (hu : X.A.units + 64 < cLine) : OpR X (compareOp .NotEq) rNeNil := by
  intro pins s σ H x y v u Q I rx ry h
  obtain ⟨a, b, xs, rfl, rfl, ha, hb, q⟩ := h
  obtain rfl : v = Value.ref a := rx
  obtain rfl : u = Value.ref b := ry
  obtain ⟨its, rv, ⟨o, ho, hc, n, hd⟩, _⟩ := I.tuple (SqT.of ha)
  obtain ⟨its2, rv2, ⟨o2, ho2, hc2, n2, hd2⟩, _⟩ := I.tuple (SqT.of hb)
  cases rv2
  have hl := rv.length
  refine RcNeAt.tuples (e := fun _ => true) ⟨o, ho, hc, n, hd⟩ ⟨o2, ho2, hc2, n2, hd2⟩ (by omega) (fun j h1 h2 => absurd h2 (by simp)) _ _ _ _ ?_
  refine ⟨.bl (!xs.isEmpty), H, I, ?_, q⟩
  cases rv with
  | nil => rfl
  | cons _ _ =>
    show Value.bool _ = Value.bool _
    simp
end L3

/-! slices of tuples, put together; list(t) -/
namespace L3
open PySem L2
theorem catA_ok {K : PySem.W.Frag} {H : Hp} {Q : VK} {a b : Addr} {xs ys : List V} (ha : H a = some (.tup xs)) (hb : H b = some (.tup ys)) (hz : xs.length + ys.length ≤ 900000) (k : ∀ H' q, Same H H' → H' q = some (.tup (xs ++ ys)) → Q (.ref q) H') : rCatA K (.ref a) (.ref b) H Q := by
  refine ⟨a, b, xs, ys, rfl, rfl, SqT.of ha, SqT.of hb, Nat.le_of_lt (szl (by omega)), fun e => ?_, fun _ e => ?_, fun _ _ p hp => k _ p (same_new hp) upd_same⟩
  · subst e
    exact k H b (Same.refl H) hb
  · subst e
    exact k H a (Same.refl H) (by rw [List.append_nil]; exact ha)
theorem slA_ok {K : PySem.W.Frag} {H : Hp} {Q : VK} {a : Addr} {xs : List V} {lo hi : Option Int} (ha : H a = some (.tup xs)) (k : ∀ H' q, Same H H' → H' q = some (.tup (cutV xs lo hi)) → Q (.ref q) H') : rSlA K (.ref a) lo hi H Q := by
  refine ⟨a, xs, rfl, SqT.of ha, fun e => k H a (Same.refl H) ?_, fun _ p hp => k _ p (same_new hp) upd_same⟩
  have : cutV xs lo hi = xs := by
    unfold cutV
    rw [e.1, e.2, List.drop_zero, Nat.sub_zero, List.take_length]
  rw [this]
  exact ha
theorem cut_front (l : List V) (x : V) (r : List V) : cutV (l ++ x :: r) none (some (l.length : Int)) = l := by
  unfold cutV
  rw [HT.sIx_none, HT.sIx_nat, List.length_append, List.length_cons, Nat.min_eq_left (by omega), List.drop_zero, Nat.sub_zero, List.take_left']
  rfl
theorem cut_back (l : List V) (x : V) (r : List V) : cutV (l ++ x :: r) (some ((l.length : Int) + 1)) none = r := by
  unfold cutV
  rw [show (l.length : Int) + 1 = ((l.length + 1 : Nat) : Int) by omega, HT.sIx_none, HT.sIx_nat, List.length_append, List.length_cons, Nat.min_eq_left (by omega)]
  have e : (l ++ x :: r).drop (l.length + 1) = r := by
    rw [← List.drop_drop, List.drop_left]
    rfl
  rw [e, List.take_of_length_le (by omega)]
theorem daAll_split {t : Addr} {H : Hp} : ∀ {ds : List PyData} {vs : List V} (i : Nat), i < vs.length → DaAll t H vs ds → ∃ l x r dl dx dr, vs = l ++ x :: r ∧ ds = dl ++ dx :: dr ∧ l.length = i ∧ DaAll t H l dl ∧ Da t H x dx ∧ DaAll t H r dr
  | [], _, i, hi, h => by cases h; cases hi
  | d :: ds, _, 0, hi, h => by
    cases h with
    | @cons v vs _ _ h1 h2 => exact ⟨[], v, vs, [], d, ds, rfl, rfl, rfl, .nil, h1, h2⟩
  | d :: ds, _, i + 1, hi, h => by
    cases h with
    | @cons v vs _ _ h1 h2 =>
      obtain ⟨l, x, r, dl, dx, dr, e1, e2, e3, g1, g2, g3⟩ := daAll_split i (by simpa using hi) h2
      exact ⟨v :: l, x, r, d :: dl, dx, dr, by rw [e1]; rfl, by rw [e2]; rfl, by rw [List.length_cons, e3], .cons h1 g1, g2, g3⟩
theorem depthAll_app : ∀ (a b : List PyData), PyData.depthAll (a ++ b) = max (PyData.depthAll a) (PyData.depthAll b)
  | [], b => by simp [PyData.depthAll]
  | d :: a, b => by simp only [List.cons_append, PyData.depthAll, depthAll_app a b]; omega
theorem call_listN {X : Cx} : CallR X (.type "list") (fun xs H Q => ∃ p ys, xs = [.ref p] ∧ SqT X.K H p ys ∧ ∀ l, H l = none → l ≠ sysModules → Q (.ref l) (upd H l (.lst ys))) := by
  intro pins s σ H xs us Q I r ⟨p, ys, e, hq, q⟩
  subst e
  obtain ⟨u, rfl, rx⟩ := vals1 r
  cases rx
  obtain ⟨its, rv, pl, hz⟩ := I.tuple hq
  have hn := rv.length
  obtain ⟨o, ho, hc, n, hd⟩ := pl
  refine call_list_seq p (.inr rfl) ho hc hd (fun h' c' kp e => ?_) (by simp only [List.size_toArray] <;> omega)
  exact ⟨.ref _, _, I.laid (t' := s.toks) kp (Nat.le_refl _) (show ObjOk X.prog X.w _ h' _ (.lst ys) from ⟨hz, its, c', rv, e⟩), rfl, q _ (I.hok.fresh (Nat.le_refl _)) (Nat.ne_of_gt I.big)⟩
end L3

namespace L3
open PySem L2
/-! what is a term, told of any value -/
/-- a tuple of n members -/
def rowD (n : Nat) : PyData → Bool
  | .tuple ds => decide (ds.length = n)
  | _ => false
/-- a tuple of such tuples, not empty -/
def rowsD (n : Nat) : PyData → Bool
  | .tuple ds => !ds.isEmpty && ds.all (rowD n)
  | _ => false
theorem da_at {t : Addr} {H : Hp} : ∀ {xs : List V} {ds : List PyData} {i : Nat} {y : V}, DaAll t H xs ds → xs[i]? = some y → ∃ d, ds[i]? = some d ∧ Da t H y d
  | [], _, _, _, .nil, h => by cases h
  | _ :: _, _ :: _, 0, _, .cons a _, h => ⟨_, rfl, by cases h; exact a⟩
  | _ :: _, _ :: _, i + 1, _, .cons _ r, h => da_at (i := i) r h
section
variable {P : Program} {w : World} {K : PySem.W.Frag} {mg : Str → Option Value} {base : Heap} {bA : Addr} {es : Array DictEntry} {nb : Nat}
abbrev s_are_rows : Stmt := topS 24
abbrev N_are_rows : List Str := ["value", "length", "row"]
theorem sc_are_rows : FnScope N_are_rows ["value", "length"] (defScope s_are_rows) := ⟨rfl, rfl, rfl, by decide +kernel, rfl, by decide +kernel, by decide +kernel⟩
def spRows : Sp := fun vs H Q _ => ∃ (t : Addr) (v : V) (d : PyData) (n : Nat), vs = [v, .int (n : Int)] ∧ Da t H v d ∧ (∀ ds, d = .tuple ds → ds.length ≤ 100000) ∧ ∀ H', Same H H' → Q (.bl (rowsD n d)) H'
theorem ok_rows {f : Addr} {fd : FuncData} (F : Fun K "are_rows" "are_rows" s_are_rows f fd) (B : Bl mg) (B9 : Bl9 mg) : FnOk P w K mg base CX0 1 f fd ["value", "length"] spRows := by
  refine F.ok sc_are_rows (fun vs H Q E h => ?_) (fun cdv A outer s H vs Q E hr h => ?_)
  · obtain ⟨t, v, d, n, rfl, _⟩ := h
    rfl
  · obtain ⟨t, v, d, n, rfl, hd, hz, k⟩ := h
    have hu64 := hr.units
    refine ⟨_, (pss_cons (ps_if (PW.pt (pw_or (pt_not (pt_val (pe_callB call_isi (by rfl) B9.isinstance PyProof.Rows.boot_isinstance (pa_cons (pv 0) (pa_cons (pe_bltn (v := .ty "tuple") (by rfl) B9.tuple (by decide +kernel) rfl) pa_nil))))) (pw_or1 (pt_cmpR op_eq (pe_callB call_len (by rfl) B.len PySem.boot_len (pa_cons (pv 0) pa_nil)) pe_int (nomark _)))))
  (pss_one (ps_ret pe_bl))
  pss_nil)
  (pss_one (ps_ret (pe_callB (cr_all rfl) (by rfl) B9.all (by decide +kernel) (pa_cons (pe_lc (own := [("row", 2)]) rfl sc_are_rows.nd (pi_tup (pv 0)) (blkOk_by (N := N_are_rows) (sc := (defScope s_are_rows)) (own := [("row", 2)]) (by decide +kernel)) (fun _ _ _ _ _ => (pg_name (i := 2) sc_are_rows.nd rfl (Or.inl rfl))) (fun _ _ _ _ _ => pts_nil) (fun _ _ _ _ _ => (pe_and (pe_callB (show CallR _ (.builtin "isinstance") (rIsi K) from call_isi) (by rfl) B9.isinstance PyProof.Rows.boot_isinstance (pa_cons (pv 2) (pa_cons (pe_bltn (v := .ty "tuple") (by rfl) B9.tuple (by decide +kernel) rfl) pa_nil))) (pe_one (pe_cmpR op_eq (pe_callB (show CallR _ (.builtin "len") (rLenK K) from call_len) (by rfl) B.len PySem.boot_len (pa_cons (pv 2) pa_nil)) (pv 1) (nomark _)))))) pa_nil))))), ?_⟩
    refine ⟨_, rfl, v, .ty "tuple", .type (tyName d), .type "tuple", isTup d, rfl, .ty "tuple", hd.ty, kit_tup _, _, rfl, ?_⟩
    cases ht : isTup d with
    | false =>
      have e : rowsD n d = false := by cases d <;> first | rfl | cases ht
      rw [e] at k
      exact iT rfl (iT rfl (k H (Same.refl _)))
    | true =>
      obtain ⟨ds, rfl⟩ : ∃ ds, d = .tuple ds := by
        cases d with
        | tuple ds => exact ⟨ds, rfl⟩
        | _ => cases ht
      have hz := hz ds rfl
      cases id hd with
      | @tup ad xs _ ga da =>
        have le := da.len
        refine iF rfl ?_
        refine ⟨_, rfl, .ref ad, xs.length, rfl, .inr ⟨_, SqT.of ga, rfl⟩, ?_⟩
        refine ⟨rfl, _, rfl, ?_⟩
        by_cases nz : ds = []
        · subst nz
          have x0 : xs.length = 0 := le
          refine iT (decide_eq_true (by rw [x0]; rfl)) ?_
          have e : rowsD n (.tuple []) = false := rfl
          rw [e] at k
          exact k H (Same.refl _)
        have nz' : ds.length ≠ 0 := fun z => nz (List.length_eq_zero_iff.mp z)
        refine iF (decide_eq_false fun z => by injection z with z; omega) ?_
        refine ⟨_, rfl, ad, rfl, ⟨_, SqT.of ga⟩, fun D hD => lc_it walk_tup (fun i H' => Same H H' ∧ H' D = some (.lst (((ds.take i).map (rowD n)).map V.bl))) ⟨same_new hD, upd_same⟩ (fun i H' _ h => SqT.of (h.1 _ _ ga)) ?_ ?_⟩
        · rintro i y H1 H2 hi ⟨s1, g1⟩ ⟨rfl, ey⟩
          refine ⟨rfl, ?_⟩
          obtain ⟨d, ed, dd⟩ := da_at da ey
          have dd2 := dd.kp (kp_same s1)
          have fin : ∀ c : Bool, c = rowD n d → ∃ acc, H2 D = some (.lst acc) ∧ acc.length < sizeLine ∧ Same H (upd H2 D (.lst (acc ++ [V.bl c]))) ∧ upd H2 D (.lst (acc ++ [V.bl c])) D = some (.lst (((ds.take (i + 1)).map (rowD n)).map V.bl)) := fun c ec => by
            refine ⟨_, g1, szl (by rw [List.length_map, List.length_map, List.length_take]; omega), fun b o e => ?_, ?_⟩
            · rw [upd_ne (ne_of_none e hD)]
              exact s1 _ _ e
            · rw [upd_same, List.take_add_one, ed, List.map_append, List.map_append, ec]
              rfl
          refine ⟨_, rfl, y, .ty "tuple", .type (tyName d), .type "tuple", isTup d, rfl, .ty "tuple", dd2.ty, kit_tup _, ?_⟩
          cases hd2 : isTup d with
          | false =>
            refine ⟨_, rfl, iF rfl (fin false ?_)⟩
            cases d <;> first | rfl | cases hd2
          | true =>
            obtain ⟨es2, rfl⟩ : ∃ es2, d = .tuple es2 := by
              cases d with
              | tuple es2 => exact ⟨es2, rfl⟩
              | _ => cases hd2
            cases id dd2 with
            | @tup ay ys _ gy dy =>
              have ly := dy.len
              refine ⟨_, rfl, iT rfl ?_⟩
              refine ⟨_, rfl, .ref ay, ys.length, rfl, .inr ⟨_, SqT.of gy, rfl⟩, _, rfl, rfl, ?_⟩
              refine fin _ ?_
              show decide (V.int (ys.length : Int) = V.int (n : Int)) = decide (es2.length = n)
              rw [ly]
              by_cases c : es2.length = n
              · rw [decide_eq_true c, decide_eq_true (by rw [c])]
              · rw [decide_eq_false c, decide_eq_false (fun z => c (by injection z with z; omega))]
        · rintro H1 ⟨s1, g1⟩
          rw [le, List.take_length] at g1
          refine ⟨D, _, rfl, SqL.of g1, ?_⟩
          have e : rowsD n (.tuple ds) = (ds.map (rowD n)).all id := by
            unfold rowsD
            rw [List.all_map]
            cases ds with
            | nil => exact absurd rfl nz
            | cons a r => rfl
          rw [← e]
          exact k H1 s1
end
end L3

namespace L3
open PySem L2
def strOf : PyData → Option Str
  | .str x => some x
  | _ => none
/-- different names -/
def diffD (ds : List PyData) : Bool := ds.all isNameD && decide ((ds.filterMap strOf).Nodup)
/-- the members of a tuple -/
def mems : PyData → List PyData
  | .tuple ds => ds
  | _ => []
def nth (k : Nat) (d : PyData) : PyData := (mems d).getD k .none
def armD (d : PyData) : Bool := isNameD (nth 0 d) && (match nth 1 d with | .tuple ds => diffD ds | _ => false)
/-- the parts of a value whose first member is the word w, r the others -/
def partsW (w : Str) (r : List PyData) : Option (List PyData) :=
  if w = "name" then (match r with | [x] => if isNameD x then some [] else none | _ => none)
  else if w = "whole" then (match r with | [x] => if isWholeD x then some [] else none | _ => none)
  else if w = "text" then (match r with | [x] => if isTextD x then some [] else none | _ => none)
  else if w = "use" then (match r with | [a, b] => some [a, b] | _ => none)
  else if w = "given" then (match r with | [x, a] => if isNameD x then some [a] else none | _ => none)
  else if w = "let" then (match r with | [rows, a] => if rowsD 2 rows && diffD ((mems rows).map (nth 0)) then some ((mems rows).map (nth 1) ++ [a]) else none | _ => none)
  else if w = "match" then (match r with | [a, arms] => if rowsD 3 arms && (mems arms).all armD then some (a :: (mems arms).map (nth 2)) else none | _ => none)
  else if w = "hole" then (match r with | [] => some [] | _ => none)
  else none
def partsD : PyData → Option (List PyData)
  | .tuple (.str w :: r) => partsW w r
  | _ => none
mutual
/-- no text in it is long, no tuple wide -/
def shD : PyData → Bool
  | .str x => decide (x.length ≤ 1000)
  | .tuple ds => decide (ds.length ≤ 1000) && shL ds
  | _ => true
def shL : List PyData → Bool
  | [] => true
  | d :: r => shD d && shL r
end
theorem shL_mem : ∀ {ds : List PyData} {d : PyData}, shL ds = true → d ∈ ds → shD d = true
  | e :: ds, d, h, hd => by
    simp only [shL, Bool.and_eq_true] at h
    rcases List.mem_cons.mp hd with rfl | hd
    · exact h.1
    · exact shL_mem h.2 hd
theorem shD_str {d : PyData} (h : shD d = true) : ∀ x, d = .str x → x.length ≤ 1000 := fun x e => by
  subst e
  simpa only [shD, decide_eq_true_eq] using h
theorem len_two {α : Type} {r : List α} (h : r.length = 2) : ∃ a b, r = [a, b] := by
  match r, h with
  | [a, b], _ => exact ⟨a, b, rfl⟩
def spForm (wd : Str) : Sp := fun vs H Q _ => ∃ (t : Addr) (v : V) (r : List PyData) (H0 : Hp), vs = [v] ∧ Same H0 H ∧ Da t H0 v (.tuple (.str wd :: r)) ∧ shL r = true ∧ r.length < 1000 ∧ (partsW wd r = none → ∀ H', Same H H' → Q .non H') ∧
  (∀ ps, partsW wd r = some ps → ∀ H' l us, Same H H' → H l = none → H' l = some (.lst us) → DaAll t H0 us ps → Q (.ref l) H')
theorem daAll_nil {t : Addr} {H : Hp} {xs : List V} (h : DaAll t H xs []) : xs = [] := by
  cases h
  rfl
theorem daAll_cons {t : Addr} {H : Hp} {xs : List V} {d : PyData} {ds : List PyData} (h : DaAll t H xs (d :: ds)) : ∃ x r, xs = x :: r ∧ Da t H x d ∧ DaAll t H r ds := by
  cases h with
  | cons a b => exact ⟨_, _, rfl, a, b⟩
section
variable {P : Program} {w : World} {K : PySem.W.Frag} {mg : Str → Option Value} {base : Heap} {bA : Addr} {es : Array DictEntry} {nb : Nat}
abbrev s_parts_in_name : Stmt := topS 13
abbrev N_parts_in_name : List Str := ["value"]
theorem sc_parts_in_name : FnScope N_parts_in_name ["value"] (defScope s_parts_in_name) := ⟨rfl, rfl, rfl, by decide +kernel, rfl, by decide +kernel, by decide +kernel⟩
theorem ok_fname {f : Addr} {fd : FuncData} (F : Fun K "parts_in_name" "parts_in_name" s_parts_in_name f fd) (B : Bl mg) (D_is_name : Kn P w K mg base 2 "is_name" ["value"] spName) : FnOk P w K mg base CX0 3 f fd ["value"] (spForm "name") := by
  refine F.ok sc_parts_in_name (fun vs H Q E h => ?_) (fun cdv A outer s H vs Q E hr h => ?_)
  · obtain ⟨t, v, r, H0, rfl, _⟩ := h
    rfl
  · obtain ⟨t, v, r, H0, rfl, s0, hd, hs, hz, kN, kS⟩ := h
    have hr_is_name : Room 2 _ := hr
    refine ⟨_, (pss_cons (ps_if (PW.pt (pw_and (pt_cmpR op_eq (pe_callB call_len (by rfl) B.len PySem.boot_len (pa_cons (pv 0) pa_nil)) pe_int (nomark _)) (pw_and1 (pt_val (pe_kn D_is_name hr_is_name (pa_cons (pe_ix ix_tup (pv 0) pe_int (fun _ _ => rfl)) pa_nil))))))
  (pss_one (ps_ret (pe_lst pa_nil)))
  pss_nil)
  (pss_one (ps_ret pe_non))), ?_⟩
    cases id hd with
    | @tup ad xs _ ga da =>
      have ga := s0 _ _ ga
      obtain ⟨x0, r0, rfl, d0, da⟩ := daAll_cons da
      have le := da.len
      refine ⟨_, rfl, .ref ad, (x0 :: r0).length, rfl, .inr ⟨_, SqT.of ga, rfl⟩, ?_⟩
      refine ⟨rfl, _, rfl, ?_⟩
      by_cases c : r.length = 1
      · obtain ⟨e, rfl⟩ := List.length_eq_one_iff.mp c
        obtain ⟨x1, r1, rfl, d1, da⟩ := daAll_cons da
        obtain rfl := daAll_nil da
        refine iT rfl ?_
        refine ⟨_, rfl, ad, _, 1, _, rfl, rfl, SqT.of ga, rfl, t, x1, e, rfl, d1.kp (kp_same s0), shD_str (shL_mem hs List.mem_cons_self), ?_⟩
        refine ⟨_, rfl, ?_⟩
        cases hn : isNameD e with
        | true =>
          refine iT rfl ?_
          refine ⟨slz rfl, fun l hl => ?_⟩
          refine kS [] ?_ _ l _ (same_new hl) hl upd_same .nil
          show (if isNameD e then some [] else none) = some []
          rw [hn]
          rfl
        | false =>
          refine iF rfl ?_
          refine kN ?_ _ (Same.refl _)
          show (if isNameD e then some [] else none) = none
          rw [hn]
          rfl
      · refine iF (decide_eq_false fun z => c (by injection z with z; rw [List.length_cons] at z; omega)) ?_
        refine iF rfl ?_
        refine kN ?_ _ (Same.refl _)
        match r, c with
        | [], _ => rfl
        | [_], c => exact absurd rfl c
        | _ :: _ :: _, _ => rfl
abbrev s_parts_in_whole : Stmt := topS 14
abbrev N_parts_in_whole : List Str := ["value"]
theorem sc_parts_in_whole : FnScope N_parts_in_whole ["value"] (defScope s_parts_in_whole) := ⟨rfl, rfl, rfl, by decide +kernel, rfl, by decide +kernel, by decide +kernel⟩
theorem ok_fwhole {f : Addr} {fd : FuncData} (F : Fun K "parts_in_whole" "parts_in_whole" s_parts_in_whole f fd) (B : Bl mg) (D_is_whole : Kn P w K mg base 2 "is_whole" ["value"] spWhole) : FnOk P w K mg base CX0 3 f fd ["value"] (spForm "whole") := by
  refine F.ok sc_parts_in_whole (fun vs H Q E h => ?_) (fun cdv A outer s H vs Q E hr h => ?_)
  · obtain ⟨t, v, r, H0, rfl, _⟩ := h
    rfl
  · obtain ⟨t, v, r, H0, rfl, s0, hd, hs, hz, kN, kS⟩ := h
    have hr_is_whole : Room 2 _ := hr
    refine ⟨_, (pss_cons (ps_if (PW.pt (pw_and (pt_cmpR op_eq (pe_callB call_len (by rfl) B.len PySem.boot_len (pa_cons (pv 0) pa_nil)) pe_int (nomark _)) (pw_and1 (pt_val (pe_kn D_is_whole hr_is_whole (pa_cons (pe_ix ix_tup (pv 0) pe_int (fun _ _ => rfl)) pa_nil))))))
  (pss_one (ps_ret (pe_lst pa_nil)))
  pss_nil)
  (pss_one (ps_ret pe_non))), ?_⟩
    cases id hd with
    | @tup ad xs _ ga da =>
      have ga := s0 _ _ ga
      obtain ⟨x0, r0, rfl, d0, da⟩ := daAll_cons da
      have le := da.len
      refine ⟨_, rfl, .ref ad, (x0 :: r0).length, rfl, .inr ⟨_, SqT.of ga, rfl⟩, ?_⟩
      refine ⟨rfl, _, rfl, ?_⟩
      by_cases c : r.length = 1
      · obtain ⟨e, rfl⟩ := List.length_eq_one_iff.mp c
        obtain ⟨x1, r1, rfl, d1, da⟩ := daAll_cons da
        obtain rfl := daAll_nil da
        refine iT rfl ?_
        refine ⟨_, rfl, ad, _, 1, _, rfl, rfl, SqT.of ga, rfl, t, x1, e, rfl, d1.kp (kp_same s0), ?_⟩
        refine ⟨_, rfl, ?_⟩
        cases hn : isWholeD e with
        | true =>
          refine iT rfl ?_
          refine ⟨slz rfl, fun l hl => ?_⟩
          refine kS [] ?_ _ l _ (same_new hl) hl upd_same .nil
          show (if isWholeD e then some [] else none) = some []
          rw [hn]
          rfl
        | false =>
          refine iF rfl ?_
          refine kN ?_ _ (Same.refl _)
          show (if isWholeD e then some [] else none) = none
          rw [hn]
          rfl
      · refine iF (decide_eq_false fun z => c (by injection z with z; rw [List.length_cons] at z; omega)) ?_
        refine iF rfl ?_
        refine kN ?_ _ (Same.refl _)
        match r, c with
        | [], _ => rfl
        | [_], c => exact absurd rfl c
        | _ :: _ :: _, _ => rfl
abbrev s_parts_in_text : Stmt := topS 15
abbrev N_parts_in_text : List Str := ["value"]
theorem sc_parts_in_text : FnScope N_parts_in_text ["value"] (defScope s_parts_in_text) := ⟨rfl, rfl, rfl, by decide +kernel, rfl, by decide +kernel, by decide +kernel⟩
theorem ok_ftext {f : Addr} {fd : FuncData} (F : Fun K "parts_in_text" "parts_in_text" s_parts_in_text f fd) (B : Bl mg) (D_is_text : Kn P w K mg base 2 "is_text" ["value"] spText) : FnOk P w K mg base CX0 3 f fd ["value"] (spForm "text") := by
  refine F.ok sc_parts_in_text (fun vs H Q E h => ?_) (fun cdv A outer s H vs Q E hr h => ?_)
  · obtain ⟨t, v, r, H0, rfl, _⟩ := h
    rfl
  · obtain ⟨t, v, r, H0, rfl, s0, hd, hs, hz, kN, kS⟩ := h
    have hr_is_text : Room 2 _ := hr
    refine ⟨_, (pss_cons (ps_if (PW.pt (pw_and (pt_cmpR op_eq (pe_callB call_len (by rfl) B.len PySem.boot_len (pa_cons (pv 0) pa_nil)) pe_int (nomark _)) (pw_and1 (pt_val (pe_kn D_is_text hr_is_text (pa_cons (pe_ix ix_tup (pv 0) pe_int (fun _ _ => rfl)) pa_nil))))))
  (pss_one (ps_ret (pe_lst pa_nil)))
  pss_nil)
  (pss_one (ps_ret pe_non))), ?_⟩
    cases id hd with
    | @tup ad xs _ ga da =>
      have ga := s0 _ _ ga
      obtain ⟨x0, r0, rfl, d0, da⟩ := daAll_cons da
      have le := da.len
      refine ⟨_, rfl, .ref ad, (x0 :: r0).length, rfl, .inr ⟨_, SqT.of ga, rfl⟩, ?_⟩
      refine ⟨rfl, _, rfl, ?_⟩
      by_cases c : r.length = 1
      · obtain ⟨e, rfl⟩ := List.length_eq_one_iff.mp c
        obtain ⟨x1, r1, rfl, d1, da⟩ := daAll_cons da
        obtain rfl := daAll_nil da
        refine iT rfl ?_
        refine ⟨_, rfl, ad, _, 1, _, rfl, rfl, SqT.of ga, rfl, t, x1, e, rfl, d1.kp (kp_same s0), shD_str (shL_mem hs List.mem_cons_self), fun H1 s1 => ?_⟩
        refine ⟨_, rfl, ?_⟩
        cases hn : isTextD e with
        | true =>
          refine iT rfl ?_
          refine ⟨slz rfl, fun l hl => ?_⟩
          refine kS [] ?_ _ l _ (s1.trans (same_new hl)) (s1.free hl) upd_same .nil
          show (if isTextD e then some [] else none) = some []
          rw [hn]
          rfl
        | false =>
          refine iF rfl ?_
          refine kN ?_ _ s1
          show (if isTextD e then some [] else none) = none
          rw [hn]
          rfl
      · refine iF (decide_eq_false fun z => c (by injection z with z; rw [List.length_cons] at z; omega)) ?_
        refine iF rfl ?_
        refine kN ?_ _ (Same.refl _)
        match r, c with
        | [], _ => rfl
        | [_], c => exact absurd rfl c
        | _ :: _ :: _, _ => rfl
abbrev s_parts_in_use : Stmt := topS 16
abbrev N_parts_in_use : List Str := ["value"]
theorem sc_parts_in_use : FnScope N_parts_in_use ["value"] (defScope s_parts_in_use) := ⟨rfl, rfl, rfl, by decide +kernel, rfl, by decide +kernel, by decide +kernel⟩
theorem ok_fuse {f : Addr} {fd : FuncData} (F : Fun K "parts_in_use" "parts_in_use" s_parts_in_use f fd) (B : Bl mg) : FnOk P w K mg base CX0 3 f fd ["value"] (spForm "use") := by
  refine F.ok sc_parts_in_use (fun vs H Q E h => ?_) (fun cdv A outer s H vs Q E hr h => ?_)
  · obtain ⟨t, v, r, H0, rfl, _⟩ := h
    rfl
  · obtain ⟨t, v, r, H0, rfl, s0, hd, hs, hz, kN, kS⟩ := h
    refine ⟨_, (pss_cons (ps_if (pt_cmpR op_eq (pe_callB call_len (by rfl) B.len PySem.boot_len (pa_cons (pv 0) pa_nil)) pe_int (nomark _))
  (pss_one (ps_ret (pe_lst (pa_cons (pe_ix ix_tup (pv 0) pe_int (fun _ _ => rfl)) (pa_cons (pe_ix ix_tup (pv 0) pe_int (fun _ _ => rfl)) pa_nil)))))
  pss_nil)
  (pss_one (ps_ret pe_non))), ?_⟩
    cases id hd with
    | @tup ad xs _ ga da =>
      have ga := s0 _ _ ga
      obtain ⟨x0, r0, rfl, d0, da⟩ := daAll_cons da
      have le := da.len
      refine ⟨_, rfl, .ref ad, (x0 :: r0).length, rfl, .inr ⟨_, SqT.of ga, rfl⟩, ?_⟩
      refine ⟨rfl, _, rfl, ?_⟩
      by_cases c : r.length = 2
      · obtain ⟨e1, e2, rfl⟩ := len_two c
        obtain ⟨x1, r1, rfl, d1, da⟩ := daAll_cons da
        obtain ⟨x2, r2, rfl, d2, da⟩ := daAll_cons da
        obtain rfl := daAll_nil da
        refine iT rfl ?_
        refine ⟨_, rfl, ad, _, 1, _, rfl, rfl, SqT.of ga, rfl, _, rfl, ad, _, 2, _, rfl, rfl, SqT.of ga, rfl, slz rfl, fun l hl => ?_⟩
        have s1 := same_new (o := .lst [x1, x2]) hl
        exact kS [e1, e2] rfl _ l _ s1 hl upd_same (.cons d1 (.cons d2 .nil))
      · refine iF (decide_eq_false fun z => c (by injection z with z; rw [List.length_cons] at z; omega)) ?_
        refine kN ?_ _ (Same.refl _)
        match r, c with
        | [], _ => rfl
        | [_], _ => rfl
        | [_, _], c => exact absurd rfl c
        | _ :: _ :: _ :: _, _ => rfl
abbrev s_parts_in_given : Stmt := topS 17
abbrev N_parts_in_given : List Str := ["value"]
theorem sc_parts_in_given : FnScope N_parts_in_given ["value"] (defScope s_parts_in_given) := ⟨rfl, rfl, rfl, by decide +kernel, rfl, by decide +kernel, by decide +kernel⟩
theorem ok_fgiven {f : Addr} {fd : FuncData} (F : Fun K "parts_in_given" "parts_in_given" s_parts_in_given f fd) (B : Bl mg) (D_is_name : Kn P w K mg base 2 "is_name" ["value"] spName) : FnOk P w K mg base CX0 3 f fd ["value"] (spForm "given") := by
  refine F.ok sc_parts_in_given (fun vs H Q E h => ?_) (fun cdv A outer s H vs Q E hr h => ?_)
  · obtain ⟨t, v, r, H0, rfl, _⟩ := h
    rfl
  · obtain ⟨t, v, r, H0, rfl, s0, hd, hs, hz, kN, kS⟩ := h
    have hr_is_name : Room 2 _ := hr
    refine ⟨_, (pss_cons (ps_if (PW.pt (pw_and (pt_cmpR op_eq (pe_callB call_len (by rfl) B.len PySem.boot_len (pa_cons (pv 0) pa_nil)) pe_int (nomark _)) (pw_and1 (pt_val (pe_kn D_is_name hr_is_name (pa_cons (pe_ix ix_tup (pv 0) pe_int (fun _ _ => rfl)) pa_nil))))))
  (pss_one (ps_ret (pe_lst (pa_cons (pe_ix ix_tup (pv 0) pe_int (fun _ _ => rfl)) pa_nil))))
  pss_nil)
  (pss_one (ps_ret pe_non))), ?_⟩
    cases id hd with
    | @tup ad xs _ ga da =>
      have ga := s0 _ _ ga
      obtain ⟨x0, r0, rfl, d0, da⟩ := daAll_cons da
      have le := da.len
      refine ⟨_, rfl, .ref ad, (x0 :: r0).length, rfl, .inr ⟨_, SqT.of ga, rfl⟩, ?_⟩
      refine ⟨rfl, _, rfl, ?_⟩
      by_cases c : r.length = 2
      · obtain ⟨e1, e2, rfl⟩ := len_two c
        obtain ⟨x1, r1, rfl, d1, da⟩ := daAll_cons da
        obtain ⟨x2, r2, rfl, d2, da⟩ := daAll_cons da
        obtain rfl := daAll_nil da
        refine iT rfl ?_
        refine ⟨_, rfl, ad, _, 1, _, rfl, rfl, SqT.of ga, rfl, t, x1, e1, rfl, d1.kp (kp_same s0), shD_str (shL_mem hs List.mem_cons_self), ?_⟩
        refine ⟨_, rfl, ?_⟩
        cases hn : isNameD e1 with
        | true =>
          refine iT rfl ?_
          refine ⟨_, rfl, ad, _, 2, _, rfl, rfl, SqT.of ga, rfl, slz rfl, fun l hl => ?_⟩
          have s1 := same_new (o := .lst [x2]) hl
          refine kS [e2] ?_ _ l _ s1 hl upd_same (.cons d2 .nil)
          show (if isNameD e1 then some [e2] else none) = some [e2]
          rw [hn]
          rfl
        | false =>
          refine iF rfl ?_
          refine kN ?_ _ (Same.refl _)
          show (if isNameD e1 then some [e2] else none) = none
          rw [hn]
          rfl
      · refine iF (decide_eq_false fun z => c (by injection z with z; rw [List.length_cons] at z; omega)) ?_
        refine iF rfl ?_
        refine kN ?_ _ (Same.refl _)
        match r, c with
        | [], _ => rfl
        | [_], _ => rfl
        | [_, _], c => exact absurd rfl c
        | _ :: _ :: _ :: _, _ => rfl
abbrev s_parts_in_hole : Stmt := topS 20
abbrev N_parts_in_hole : List Str := ["value"]
theorem sc_parts_in_hole : FnScope N_parts_in_hole ["value"] (defScope s_parts_in_hole) := ⟨rfl, rfl, rfl, by decide +kernel, rfl, by decide +kernel, by decide +kernel⟩
theorem ok_fhole {f : Addr} {fd : FuncData} (F : Fun K "parts_in_hole" "parts_in_hole" s_parts_in_hole f fd) (B : Bl mg) : FnOk P w K mg base CX0 3 f fd ["value"] (spForm "hole") := by
  refine F.ok sc_parts_in_hole (fun vs H Q E h => ?_) (fun cdv A outer s H vs Q E hr h => ?_)
  · obtain ⟨t, v, r, H0, rfl, _⟩ := h
    rfl
  · obtain ⟨t, v, r, H0, rfl, s0, hd, hs, hz, kN, kS⟩ := h
    refine ⟨_, (pss_cons (ps_if (pt_cmpR op_eq (pe_callB call_len (by rfl) B.len PySem.boot_len (pa_cons (pv 0) pa_nil)) pe_int (nomark _))
  (pss_one (ps_ret (pe_lst pa_nil)))
  pss_nil)
  (pss_one (ps_ret pe_non))), ?_⟩
    cases id hd with
    | @tup ad xs _ ga da =>
      have ga := s0 _ _ ga
      obtain ⟨x0, r0, rfl, d0, da⟩ := daAll_cons da
      have le := da.len
      refine ⟨_, rfl, .ref ad, (x0 :: r0).length, rfl, .inr ⟨_, SqT.of ga, rfl⟩, ?_⟩
      refine ⟨rfl, _, rfl, ?_⟩
      by_cases c : r.length = 0
      · obtain rfl := List.length_eq_zero_iff.mp c
        obtain rfl := daAll_nil da
        refine iT rfl ?_
        refine ⟨slz rfl, fun l hl => ?_⟩
        exact kS [] rfl _ l _ (same_new hl) hl upd_same .nil
      · refine iF (decide_eq_false fun z => c (by injection z with z; rw [List.length_cons] at z; omega)) ?_
        refine kN ?_ _ (Same.refl _)
        match r, c with
        | [], c => exact absurd rfl c
        | _ :: _, _ => rfl
end
end L3

namespace L3
open PySem L2
/-- what are_different_names is asked of: a list or a tuple of any values -/
def spDif (K : PySem.W.Frag) : Sp := fun vs H Q _ => ∃ (t a : Addr) (xs : List V) (ds : List PyData), vs = [.ref a] ∧ (SqL K H a xs ∨ SqT K H a xs) ∧ DaAll t H xs ds ∧ shL ds = true ∧ ds.length ≤ 1000 ∧ ∀ H', Same H H' → Q (.bl (diffD ds)) H'
theorem shD_tup {ds : List PyData} (h : shD (.tuple ds) = true) : ds.length ≤ 1000 ∧ shL ds = true := by
  simpa only [shD, Bool.and_eq_true, decide_eq_true_eq] using h
theorem shL_map {f : PyData → PyData} : ∀ {ds : List PyData}, (∀ d ∈ ds, shD (f d) = true) → shL (ds.map f) = true
  | [], _ => by simp [shL]
  | d :: r, h => by
    rw [List.map_cons]
    simp only [shL, h d List.mem_cons_self, shL_map (fun y hy => h y (List.mem_cons_of_mem _ hy)), Bool.and_true]
theorem shD_nth {d : PyData} {k : Nat} (h : shD d = true) : shD (nth k d) = true := by
  unfold nth
  cases d with
  | tuple ds =>
    show shD (ds.getD k .none) = true
    rw [List.getD_eq_getElem?_getD]
    cases e : ds[k]? with
    | none => simp [shD]
    | some x => exact shL_mem (shD_tup h).2 (List.mem_of_getElem? e)
  | _ => simp [mems, shD]
theorem rows_tup {n : Nat} {d : PyData} (h : rowsD n d = true) : ∃ ds, d = .tuple ds ∧ ds ≠ [] ∧ ∀ e ∈ ds, ∃ es, e = .tuple es ∧ es.length = n := by
  cases d with
  | tuple ds =>
    have h : (!ds.isEmpty && ds.all (rowD n)) = true := h
    rw [Bool.and_eq_true] at h
    refine ⟨ds, rfl, fun z => (by rw [z] at h; cases h.1), fun e he => ?_⟩
    have := List.all_eq_true.mp h.2 e he
    cases e with
    | tuple es => exact ⟨es, rfl, of_decide_eq_true this⟩
    | _ => cases this
  | _ => cases h
theorem da_row {t : Addr} {H : Hp} {v : V} {es : List PyData} (h : Da t H v (.tuple es)) : ∃ a xs, v = .ref a ∧ H a = some (.tup xs) ∧ DaAll t H xs es := by
  cases h with
  | @tup a xs _ g d => exact ⟨a, xs, rfl, g, d⟩
section
variable {P : Program} {w : World} {K : PySem.W.Frag} {mg : Str → Option Value} {base : Heap} {bA : Addr} {es : Array DictEntry} {nb : Nat}
abbrev s_parts_in_let : Stmt := topS 18
abbrev N_parts_in_let : List Str := ["value", "row"]
theorem sc_parts_in_let : FnScope N_parts_in_let ["value"] (defScope s_parts_in_let) := ⟨rfl, rfl, rfl, by decide +kernel, rfl, by decide +kernel, by decide +kernel⟩
theorem ok_flet {f : Addr} {fd : FuncData} (F : Fun K "parts_in_let" "parts_in_let" s_parts_in_let f fd) (B : Bl mg) (D_are_rows : Kn P w K mg base 1 "are_rows" ["value", "length"] spRows) (D_are_different_names : Kn P w K mg base 3 "are_different_names" ["row"] (spDif K)) : FnOk P w K mg base CX0 4 f fd ["value"] (spForm "let") := by
  refine F.ok sc_parts_in_let (fun vs H Q E h => ?_) (fun cdv A outer s H vs Q E hr h => ?_)
  · obtain ⟨t, v, r, H0, rfl, _⟩ := h
    rfl
  · obtain ⟨t, v, r, H0, rfl, s0, hd, hs, hz, kN, kS⟩ := h
    have hr_are_rows : Room 1 _ := hr.mono (by decide)
    have hr_are_different_names : Room 3 _ := hr
    refine ⟨_, (pss_cons (ps_if (PW.pt (pw_or (pt_cmpR op_ne (pe_callB call_len (by rfl) B.len PySem.boot_len (pa_cons (pv 0) pa_nil)) pe_int (nomark _)) (pw_or1 (pt_not (pt_val (pe_kn D_are_rows hr_are_rows (pa_cons (pe_ix ix_tup (pv 0) pe_int (fun _ _ => rfl)) (pa_cons pe_int pa_nil))))))))
  (pss_one (ps_ret pe_non))
  pss_nil)
  (pss_cons (ps_if (pt_not (pt_val (pe_kn D_are_different_names hr_are_different_names (pa_cons (pe_lc (own := [("row", 1)]) rfl sc_parts_in_let.nd (pi_tup (pe_ix ix_tup (pv 0) pe_int (fun _ _ => rfl))) (blkOk_by (N := N_parts_in_let) (sc := (defScope s_parts_in_let)) (own := [("row", 1)]) (by decide +kernel)) (fun _ _ _ _ _ => (pg_name (i := 1) sc_parts_in_let.nd rfl (Or.inl rfl))) (fun _ _ _ _ _ => pts_nil) (fun _ _ _ _ _ => (pe_ix (show IxR _ (rIxT K) from ix_tup) (pv 1) pe_int (fun _ _ => rfl)))) pa_nil))))
  (pss_one (ps_ret pe_non))
  pss_nil)
  (pss_one (ps_ret (pe_op op_cat (pe_lc (own := [("row", 1)]) rfl sc_parts_in_let.nd (pi_tup (pe_ix ix_tup (pv 0) pe_int (fun _ _ => rfl))) (blkOk_by (N := N_parts_in_let) (sc := (defScope s_parts_in_let)) (own := [("row", 1)]) (by decide +kernel)) (fun _ _ _ _ _ => (pg_name (i := 1) sc_parts_in_let.nd rfl (Or.inl rfl))) (fun _ _ _ _ _ => pts_nil) (fun _ _ _ _ _ => (pe_ix (show IxR _ (rIxT K) from ix_tup) (pv 1) pe_int (fun _ _ => rfl)))) (pe_lst (pa_cons (pe_ix ix_tup (pv 0) pe_int (fun _ _ => rfl)) pa_nil))))))), ?_⟩
    cases id hd with
    | @tup ad xs _ ga da =>
      have ga := s0 _ _ ga
      obtain ⟨x0, r0, rfl, d0, da⟩ := daAll_cons da
      have le := da.len
      refine ⟨_, rfl, .ref ad, (x0 :: r0).length, rfl, .inr ⟨_, SqT.of ga, rfl⟩, ?_⟩
      refine ⟨rfl, _, rfl, ?_⟩
      by_cases c : r.length = 2
      case neg =>
        refine iT ?_ ?_
        · rw [Bool.not_eq_true']
          exact decide_eq_false fun z => c (by injection z with z; rw [List.length_cons] at z; omega)
        refine kN ?_ _ (Same.refl _)
        match r, c with
        | [], _ => rfl
        | [_], _ => rfl
        | [_, _], c => exact absurd rfl c
        | _ :: _ :: _ :: _, _ => rfl
      obtain ⟨e1, e2, rfl⟩ := len_two c
      obtain ⟨x1, r1, rfl, d1, da⟩ := daAll_cons da
      obtain ⟨x2, r2, rfl, d2, da⟩ := daAll_cons da
      obtain rfl := daAll_nil da
      have sh1 := shL_mem hs (d := e1) List.mem_cons_self
      refine iF rfl ?_
      refine ⟨_, rfl, ad, _, 1, _, rfl, rfl, SqT.of ga, rfl, ?_⟩
      refine ⟨t, x1, e1, 2, rfl, d1.kp (kp_same s0), fun ds e => by rw [e] at sh1; have := (shD_tup sh1).1; omega, fun H1 s1 => ?_⟩
      refine ⟨_, rfl, ?_⟩
      have pW : partsW "let" [e1, e2] = if rowsD 2 e1 && diffD ((mems e1).map (nth 0)) then some ((mems e1).map (nth 1) ++ [e2]) else none := rfl
      cases hrw : rowsD 2 e1 with
      | false =>
        refine iT rfl ?_
        refine kN ?_ _ s1
        rw [pW, hrw]
        rfl
      | true =>
      refine iF rfl ?_
      obtain ⟨ds, rfl, dne, drow⟩ := rows_tup hrw
      obtain ⟨a1, ys, rfl, g1, dys⟩ := da_row d1
      have g1 := s0 _ _ g1
      obtain ⟨hl, hsl⟩ := shD_tup sh1
      have ly := dys.len
      have ga1 := s1 _ _ ga
      have g11 := s1 _ _ g1
      -- the k-th member of every row
      have row : ∀ (i : Nat) (y : V), ys[i]? = some y → ∃ e z0 z1 w0 w1 ar, ds[i]? = some e ∧ nth 0 e = w0 ∧ nth 1 e = w1 ∧ y = .ref ar ∧ H ar = some (.tup [z0, z1]) ∧ Da t H0 z0 w0 ∧ Da t H0 z1 w1 := fun i y ey => by
        obtain ⟨e, he, de⟩ := da_at dys ey
        obtain ⟨es, rfl, les⟩ := drow e (List.mem_of_getElem? he)
        obtain ⟨w0, w1, rfl⟩ := len_two les
        obtain ⟨ar, zs, rfl, gr, dz⟩ := da_row de
        obtain ⟨z0, q0, rfl, dz0, dz⟩ := daAll_cons dz
        obtain ⟨z1, q1, rfl, dz1, dz⟩ := daAll_cons dz
        obtain rfl := daAll_nil dz
        exact ⟨_, z0, z1, w0, w1, ar, he, rfl, rfl, rfl, s0 _ _ gr, dz0, dz1⟩
      refine ⟨_, rfl, ad, _, 1, _, rfl, rfl, SqT.of ga1, rfl, a1, rfl, ⟨_, SqT.of g11⟩, fun D hD => lc_it walk_tup (fun i H' => Same H1 H' ∧ ∃ us, H' D = some (.lst us) ∧ DaAll t H0 us ((ds.take i).map (nth 0))) ⟨same_new hD, [], upd_same, .nil⟩ (fun i H' _ h => SqT.of (h.1 _ _ g11)) ?_ ?_⟩
      · rintro i y H2 H3 hi ⟨s2, us, g2, k2⟩ ⟨rfl, ey⟩
        obtain ⟨e, z0, z1, w0, w1, ar, he, n0, n1, rfl, gr, dz0, dz1⟩ := row i y ey
        refine ⟨rfl, ?_⟩
        have lu : us.length ≤ 1000 := by
          rw [k2.len, List.length_map, List.length_take]
          omega
        refine ⟨_, rfl, ar, _, 0, _, rfl, rfl, SqT.of (s2 _ _ (s1 _ _ gr)), rfl, us, g2, szl (by omega), fun b o e => ?_, us ++ [z0], upd_same, ?_⟩
        · rw [upd_ne (ne_of_none e hD)]
          exact s2 _ _ e
        · rw [List.take_add_one, he, List.map_append]
          exact k2.app (.cons (by rw [n0]; exact dz0) .nil)
      rintro H2 ⟨s2, us, g2, k2⟩
      rw [ly, List.take_length] at k2
      have S2 := s1.trans s2
      refine ⟨t, D, us, ds.map (nth 0), rfl, .inl (SqL.of g2), k2.kp (kp_same (s0.trans S2)), shL_map fun d hd => shD_nth (shL_mem hsl hd), by rw [List.length_map]; exact hl, fun H3 s3 => ?_⟩
      refine ⟨_, rfl, ?_⟩
      have S3 := S2.trans s3
      cases hdf : diffD (ds.map (nth 0)) with
      | false =>
        refine iT rfl ?_
        refine kN ?_ _ S3
        rw [pW, show mems (.tuple ds) = ds from rfl, hdf, Bool.and_false]
        rfl
      | true =>
      refine iF rfl ?_
      have ga3 := S3 _ _ ga
      have g13 := S3 _ _ g1
      refine ⟨_, rfl, ad, _, 1, _, rfl, rfl, SqT.of ga3, rfl, a1, rfl, ⟨_, SqT.of g13⟩, fun D2 hD2 => lc_it walk_tup (fun i H' => Same H3 H' ∧ ∃ us, H' D2 = some (.lst us) ∧ DaAll t H0 us ((ds.take i).map (nth 1))) ⟨same_new hD2, [], upd_same, .nil⟩ (fun i H' _ h => SqT.of (h.1 _ _ g13)) ?_ ?_⟩
      · rintro i y H4 H5 hi ⟨s4, us, g4, k4⟩ ⟨rfl, ey⟩
        obtain ⟨e, z0, z1, w0, w1, ar, he, n0, n1, rfl, gr, dz0, dz1⟩ := row i y ey
        refine ⟨rfl, ?_⟩
        have lu : us.length ≤ 1000 := by
          rw [k4.len, List.length_map, List.length_take]
          omega
        refine ⟨_, rfl, ar, _, 1, _, rfl, rfl, SqT.of (s4 _ _ (S3 _ _ gr)), rfl, us, g4, szl (by omega), fun b o e => ?_, us ++ [z1], upd_same, ?_⟩
        · rw [upd_ne (ne_of_none e hD2)]
          exact s4 _ _ e
        · rw [List.take_add_one, he, List.map_append]
          exact k4.app (.cons (by rw [n1]; exact dz1) .nil)
      rintro H4 ⟨s4, us4, g4, k4⟩
      rw [ly, List.take_length] at k4
      have S4 := S3.trans s4
      refine ⟨_, rfl, ad, _, 2, _, rfl, rfl, SqT.of (S4 _ _ ga), rfl, slz rfl, fun l hl2 => ?_⟩
      have s5 := same_new (o := .lst [x2]) hl2
      have lu4 : us4.length ≤ 1000 := by
        rw [k4.len, List.length_map]
        exact hl
      refine ⟨D2, l, us4, [x2], rfl, rfl, s5 _ _ g4, upd_same, by rw [sizeLine_eq]; show us4.length + 1 ≤ _; omega, fun p hp => ?_⟩
      have s6 := same_new (o := .lst (us4 ++ [x2])) hp
      have S6 := S4.trans (s5.trans s6)
      refine kS ((mems (.tuple ds)).map (nth 1) ++ [e2]) ?_ _ p _ S6 ((S4.trans s5).free hp) upd_same (k4.app (.cons d2 .nil))
      rw [pW, show mems (.tuple ds) = ds from rfl, hdf, hrw]
      rfl
end
end L3

namespace L3
open PySem L2
theorem len_three {α : Type} {r : List α} (h : r.length = 3) : ∃ a b c, r = [a, b, c] := by
  match r, h with
  | [a, b, c], _ => exact ⟨a, b, c, rfl⟩
section
variable {P : Program} {w : World} {K : PySem.W.Frag} {mg : Str → Option Value} {base : Heap} {bA : Addr} {es : Array DictEntry} {nb : Nat}
abbrev s_parts_in_match : Stmt := topS 19
abbrev N_parts_in_match : List Str := ["value", "arm"]
theorem sc_parts_in_match : FnScope N_parts_in_match ["value"] (defScope s_parts_in_match) := ⟨rfl, rfl, rfl, by decide +kernel, rfl, by decide +kernel, by decide +kernel⟩
theorem ok_fmatch {f : Addr} {fd : FuncData} (F : Fun K "parts_in_match" "parts_in_match" s_parts_in_match f fd) (B : Bl mg) (B9 : Bl9 mg) (D_is_name : Kn P w K mg base 2 "is_name" ["value"] spName) (D_are_rows : Kn P w K mg base 1 "are_rows" ["value", "length"] spRows) (D_are_different_names : Kn P w K mg base 3 "are_different_names" ["row"] (spDif K)) : FnOk P w K mg base CX0 4 f fd ["value"] (spForm "match") := by
  refine F.ok sc_parts_in_match (fun vs H Q E h => ?_) (fun cdv A outer s H vs Q E hr h => ?_)
  · obtain ⟨t, v, r, H0, rfl, _⟩ := h
    rfl
  · obtain ⟨t, v, r, H0, rfl, s0, hd, hs, hz, kN, kS⟩ := h
    have hr_are_rows : Room 1 _ := hr.mono (by decide)
    have hr_is_name : Room 2 _ := hr.mono (by decide)
    have hr_are_different_names : Room 3 _ := hr
    refine ⟨_, (pss_cons (ps_if (PW.pt (pw_or (pt_cmpR op_ne (pe_callB call_len (by rfl) B.len PySem.boot_len (pa_cons (pv 0) pa_nil)) pe_int (nomark _)) (pw_or1 (pt_not (pt_val (pe_kn D_are_rows hr_are_rows (pa_cons (pe_ix ix_tup (pv 0) pe_int (fun _ _ => rfl)) (pa_cons pe_int pa_nil))))))))
  (pss_one (ps_ret pe_non))
  pss_nil)
  (pss_cons (ps_for PassesOwn.never rfl (pi_tup (pe_ix ix_tup (pv 0) pe_int (fun _ _ => rfl))) (pg_name (i := 1) sc_parts_in_match.nd rfl (Or.inl rfl))
  (pss_one (ps_if (PW.pt (pw_or (pt_not (pt_val (pe_kn D_is_name hr_is_name (pa_cons (pe_ix ix_tup (pv 1) pe_int (fun _ _ => rfl)) pa_nil)))) (pw_or (pt_not (pt_val (pe_callB call_isi (by rfl) B9.isinstance PyProof.Rows.boot_isinstance (pa_cons (pe_ix ix_tup (pv 1) pe_int (fun _ _ => rfl)) (pa_cons (pe_bltn (v := .ty "tuple") (by rfl) B9.tuple (by decide +kernel) rfl) pa_nil))))) (pw_or1 (pt_not (pt_val (pe_kn D_are_different_names hr_are_different_names (pa_cons (pe_ix ix_tup (pv 1) pe_int (fun _ _ => rfl)) pa_nil))))))))
  (pss_one (ps_ret pe_non))
  pss_nil)))
  (pss_one (ps_ret (pe_op op_cat (pe_lst (pa_cons (pe_ix ix_tup (pv 0) pe_int (fun _ _ => rfl)) pa_nil)) (pe_lc (own := [("arm", 1)]) rfl sc_parts_in_match.nd (pi_tup (pe_ix ix_tup (pv 0) pe_int (fun _ _ => rfl))) (blkOk_by (N := N_parts_in_match) (sc := (defScope s_parts_in_match)) (own := [("arm", 1)]) (by decide +kernel)) (fun _ _ _ _ _ => (pg_name (i := 1) sc_parts_in_match.nd rfl (Or.inl rfl))) (fun _ _ _ _ _ => pts_nil) (fun _ _ _ _ _ => (pe_ix (show IxR _ (rIxT K) from ix_tup) (pv 1) pe_int (fun _ _ => rfl))))))))), ?_⟩
    cases id hd with
    | @tup ad xs _ ga da =>
      have ga := s0 _ _ ga
      obtain ⟨x0, r0, rfl, d0, da⟩ := daAll_cons da
      have le := da.len
      refine ⟨_, rfl, .ref ad, (x0 :: r0).length, rfl, .inr ⟨_, SqT.of ga, rfl⟩, ?_⟩
      refine ⟨rfl, _, rfl, ?_⟩
      by_cases c : r.length = 2
      case neg =>
        refine iT ?_ ?_
        · rw [Bool.not_eq_true']
          exact decide_eq_false fun z => c (by injection z with z; rw [List.length_cons] at z; omega)
        refine kN ?_ _ (Same.refl _)
        match r, c with
        | [], _ => rfl
        | [_], _ => rfl
        | [_, _], c => exact absurd rfl c
        | _ :: _ :: _ :: _, _ => rfl
      obtain ⟨e1, e2, rfl⟩ := len_two c
      obtain ⟨x1, r1, rfl, d1, da⟩ := daAll_cons da
      obtain ⟨x2, r2, rfl, d2, da⟩ := daAll_cons da
      obtain rfl := daAll_nil da
      have sh2 := shL_mem hs (d := e2) (by simp)
      refine iF rfl ?_
      refine ⟨_, rfl, ad, _, 2, _, rfl, rfl, SqT.of ga, rfl, ?_⟩
      refine ⟨t, x2, e2, 3, rfl, d2.kp (kp_same s0), fun ds e => by rw [e] at sh2; have := (shD_tup sh2).1; omega, fun H1 s1 => ?_⟩
      refine ⟨_, rfl, ?_⟩
      have pW : partsW "match" [e1, e2] = if rowsD 3 e2 && (mems e2).all armD then some (e1 :: (mems e2).map (nth 2)) else none := rfl
      cases hrw : rowsD 3 e2 with
      | false =>
        refine iT rfl ?_
        refine kN ?_ _ s1
        rw [pW, hrw]
        rfl
      | true =>
      refine iF rfl ?_
      obtain ⟨ds, rfl, dne, drow⟩ := rows_tup hrw
      obtain ⟨a1, ys, rfl, g1, dys⟩ := da_row d2
      have g1 := s0 _ _ g1
      obtain ⟨hl, hsl⟩ := shD_tup sh2
      have ly := dys.len
      have ga1 := s1 _ _ ga
      have g11 := s1 _ _ g1
      have row : ∀ (i : Nat) (y : V), ys[i]? = some y → ∃ w0 w1 w2 z0 z1 z2 ar, ds[i]? = some (.tuple [w0, w1, w2]) ∧ y = .ref ar ∧ H ar = some (.tup [z0, z1, z2]) ∧ Da t H0 z0 w0 ∧ Da t H0 z1 w1 ∧ Da t H0 z2 w2 ∧ shL [w0, w1, w2] = true := fun i y ey => by
        obtain ⟨e, he, de⟩ := da_at dys ey
        obtain ⟨es, rfl, les⟩ := drow e (List.mem_of_getElem? he)
        obtain ⟨w0, w1, w2, rfl⟩ := len_three les
        have she := (shD_tup (shL_mem hsl (List.mem_of_getElem? he))).2
        obtain ⟨ar, zs, rfl, gr, dz⟩ := da_row de
        obtain ⟨z0, q0, rfl, dz0, dz⟩ := daAll_cons dz
        obtain ⟨z1, q1, rfl, dz1, dz⟩ := daAll_cons dz
        obtain ⟨z2, q2, rfl, dz2, dz⟩ := daAll_cons dz
        obtain rfl := daAll_nil dz
        exact ⟨_, _, _, z0, z1, z2, ar, he, rfl, s0 _ _ gr, dz0, dz1, dz2, she⟩
      have bad : ∀ (i : Nat) (e : PyData), ds[i]? = some e → armD e = false → partsW "match" [e1, .tuple ds] = none := fun i e he ha => by
        rw [pW, show mems (.tuple ds) = ds from rfl]
        have : ds.all armD = false := List.all_eq_false.mpr ⟨e, List.mem_of_getElem? he, by rw [ha]; decide⟩
        rw [this, Bool.and_false]
        rfl
      refine ⟨_, rfl, ad, _, 2, _, rfl, rfl, SqT.of ga1, rfl, a1, rfl, ⟨_, SqT.of g11⟩, for_it walk_tup (fun i σ H' => Same H1 H' ∧ (∀ (j : Nat) (e : PyData), j < i → ds[j]? = some e → armD e = true) ∧ ∃ v1, σ = [some (.ref ad), v1]) ⟨Same.refl _, fun j e hj => absurd hj (Nat.not_lt_zero _), _, rfl⟩ (fun i σ H' _ h => SqT.of (h.1 _ _ g11)) ?_ ?_⟩
      · rintro i y σ H2 H3 hi ⟨s2, hok, v1, rfl⟩ ⟨rfl, ey⟩
        obtain ⟨w0, w1, w2, z0, z1, z2, ar, he, rfl, gr, dz0, dz1, dz2, she⟩ := row i y ey
        have S3 := s1.trans s2
        have gr3 := S3 _ _ gr
        have aN : isNameD w0 = false → armD (.tuple [w0, w1, w2]) = false := fun z => by
          show (isNameD w0 && _) = false
          rw [z]
          rfl
        refine ⟨_, rfl, ar, _, 0, _, rfl, rfl, SqT.of gr3, rfl, t, z0, w0, rfl, dz0.kp (kp_same (s0.trans S3)), shD_str (shL_mem she List.mem_cons_self), ?_⟩
        refine ⟨_, rfl, ?_⟩
        cases hn : isNameD w0 with
        | false =>
          refine iT rfl (iT rfl ?_)
          exact kN (bad i _ he (aN hn)) _ S3
        | true =>
        refine iF rfl ?_
        refine ⟨_, rfl, ar, _, 1, _, rfl, rfl, SqT.of gr3, rfl, z1, .ty "tuple", .type (tyName w1), .type "tuple", isTup w1, rfl, .ty "tuple", (dz1.kp (kp_same (s0.trans S3))).ty, kit_tup _, ?_⟩
        refine ⟨_, rfl, ?_⟩
        cases ht : isTup w1 with
        | false =>
          refine iT rfl (iT rfl ?_)
          refine kN (bad i _ he ?_) _ S3
          cases w1 <;> first | exact Bool.and_false _ | cases ht
        | true =>
        obtain ⟨ns, rfl⟩ : ∃ ns, w1 = .tuple ns := by
          cases w1 with
          | tuple ns => exact ⟨ns, rfl⟩
          | _ => cases ht
        obtain ⟨an, xn, rfl, gn, dn⟩ := da_row dz1
        have shn := shD_tup (shL_mem she (d := .tuple ns) (by simp))
        refine iF rfl ?_
        refine ⟨_, rfl, ar, _, 1, _, rfl, rfl, SqT.of gr3, rfl, t, an, xn, ns, rfl, .inr (SqT.of (S3 _ _ (s0 _ _ gn))), dn.kp (kp_same (s0.trans S3)), shn.2, shn.1, fun H4 s4 => ?_⟩
        refine ⟨_, rfl, ?_⟩
        have aD2 : armD (.tuple [w0, .tuple ns, w2]) = (isNameD w0 && diffD ns) := rfl
        cases hdf : diffD ns with
        | false =>
          refine iT rfl ?_
          exact kN (bad i _ he (by rw [aD2, hdf, Bool.and_false])) _ (S3.trans s4)
        | true =>
        refine iF rfl ?_
        refine ⟨s2.trans s4, fun j e hj ej => ?_, _, rfl⟩
        by_cases cj : j < i
        · exact hok j e cj ej
        · obtain rfl : j = i := by omega
          rw [he] at ej
          rw [← Option.some.inj ej, aD2, hn, hdf]
          rfl
      rintro σ H2 ⟨s2, hok, v1, rfl⟩
      have S2 := s1.trans s2
      have all : ds.all armD = true := List.all_eq_true.mpr fun e he => by
        obtain ⟨j, hj⟩ := List.getElem?_of_mem he
        exact hok j e (by rw [ly]; exact (List.getElem?_eq_some_iff.mp hj).1) hj
      refine ⟨_, rfl, ad, _, 1, _, rfl, rfl, SqT.of (S2 _ _ ga), rfl, slz rfl, fun l hl2 => ?_⟩
      have s3 := same_new (o := .lst [x1]) hl2
      have gl3 : (upd H2 l (.lst [x1])) l = some (.lst [x1]) := upd_same
      generalize upd H2 l (.lst [x1]) = H3 at s3 gl3 ⊢
      have S3 := S2.trans s3
      have g13 := S3 _ _ g1
      refine ⟨_, rfl, ad, _, 2, _, rfl, rfl, SqT.of (S3 _ _ ga), rfl, a1, rfl, ⟨_, SqT.of g13⟩, fun D2 hD2 => lc_it walk_tup (fun i H' => Same H3 H' ∧ ∃ us, H' D2 = some (.lst us) ∧ DaAll t H0 us ((ds.take i).map (nth 2))) ⟨same_new hD2, [], upd_same, .nil⟩ (fun i H' _ h => SqT.of (h.1 _ _ g13)) ?_ ?_⟩
      · rintro i y H4 H5 hi ⟨s4, us, g4, k4⟩ ⟨rfl, ey⟩
        obtain ⟨w0, w1, w2, z0, z1, z2, ar, he, rfl, gr, dz0, dz1, dz2, she⟩ := row i y ey
        refine ⟨rfl, ?_⟩
        have lu : us.length ≤ 1000 := by
          rw [k4.len, List.length_map, List.length_take]
          omega
        refine ⟨_, rfl, ar, _, 2, _, rfl, rfl, SqT.of (s4 _ _ (S3 _ _ gr)), rfl, us, g4, szl (by omega), fun b o e => ?_, us ++ [z2], upd_same, ?_⟩
        · rw [upd_ne (ne_of_none e hD2)]
          exact s4 _ _ e
        · rw [List.take_add_one, he, List.map_append]
          exact k4.app (.cons dz2 .nil)
      rintro H4 ⟨s4, us4, g4, k4⟩
      rw [ly, List.take_length] at k4
      have S4 := S3.trans s4
      have lu4 : us4.length ≤ 1000 := by
        rw [k4.len, List.length_map]
        exact hl
      refine ⟨l, D2, [x1], us4, rfl, rfl, s4 _ _ gl3, g4, by rw [sizeLine_eq]; show 1 + us4.length ≤ _; omega, fun p hp => ?_⟩
      have s6 := same_new (o := .lst ([x1] ++ us4)) hp
      refine kS (e1 :: (mems (.tuple ds)).map (nth 2)) ?_ _ p _ (S4.trans s6) (S4.free hp) upd_same (.cons d1 k4)
      rw [pW, show mems (.tuple ds) = ds from rfl, all, hrw]
      rfl
end
end L3

namespace L3
open PySem L2
def formL : List Str := ["name", "whole", "text", "use", "given", "let", "match", "hole"]
def FW (P : Program) (w : World) (K : PySem.W.Frag) (mg : Str → Option Value) (base : Heap) (fA : Addr) (x : Str) (sp : Sp) : Prop := ∃ f, KDct K w fA x (.ref f) ∧ Does P w K mg base 4 f sp
structure Fm (P : Program) (w : World) (K : PySem.W.Frag) (mg : Str → Option Value) (base : Heap) (fA : Addr) (esF : Array DictEntry) (nbF : Nat) : Prop where
  FORMS : ∃ u, mg "FORMS" = some u ∧ RelV (.ref fA) u
  kf : KDict K w fA esF nbF
  has : ∀ z : Str, ∃ r, PySem.W.nsIn K fA z = some r ∧ r.isSome = decide (z ∈ formL)
  does : ∀ x ∈ formL, FW P w K mg base fA x (spForm x)
theorem partsW_not {x : Str} {r : List PyData} (h : x ∉ formL) : partsW x r = none := by
  have n : ∀ y ∈ formL, x ≠ y := fun y hy e => h (e ▸ hy)
  unfold partsW
  rw [if_neg (n "name" (by decide)), if_neg (n "whole" (by decide)), if_neg (n "text" (by decide)), if_neg (n "use" (by decide)), if_neg (n "given" (by decide)), if_neg (n "let" (by decide)), if_neg (n "match" (by decide)), if_neg (n "hole" (by decide))]
/-- parts_in of any value -/
def spParts : Sp := fun vs H Q _ => ∃ (t : Addr) (v : V) (d : PyData) (H0 : Hp), vs = [v] ∧ Same H0 H ∧ Da t H0 v d ∧ shD d = true ∧ (partsD d = none → ∀ H', Same H H' → Q .non H') ∧
  (∀ ps, partsD d = some ps → ∀ H' l us, Same H H' → H l = none → H' l = some (.lst us) → DaAll t H0 us ps → Q (.ref l) H')
section
variable {P : Program} {w : World} {K : PySem.W.Frag} {mg : Str → Option Value} {base : Heap} {fA : Addr} {esF : Array DictEntry} {nbF : Nat}
abbrev s_parts_in : Stmt := topS 12
abbrev N_parts_in : List Str := ["value", "word", "form"]
theorem sc_parts_in : FnScope N_parts_in ["value"] (defScope s_parts_in) := ⟨rfl, rfl, rfl, by decide +kernel, rfl, by decide +kernel, by decide +kernel⟩
theorem ok_parts {f : Addr} {fd : FuncData} (F : Fun K "parts_in" "parts_in" s_parts_in f fd) (B : Bl mg) (B9 : Bl9 mg) (M : Fm P w K mg base fA esF nbF) : FnOk P w K mg base CX0 5 f fd ["value"] spParts := by
  refine F.ok sc_parts_in (fun vs H Q E h => ?_) (fun cdv A outer s H vs Q E hr h => ?_)
  · obtain ⟨t, v, d, H0, rfl, _⟩ := h
    rfl
  · obtain ⟨t, v, d, H0, rfl, s0, hd, hs, kN, kS⟩ := h
    have hr_act : Room 4 _ := hr
    refine ⟨_, (pss_cons (ps_if (PW.pt (pw_or (pt_not (pt_val (pe_callB call_isi (by rfl) B9.isinstance PyProof.Rows.boot_isinstance (pa_cons (pv 0) (pa_cons (pe_bltn (v := .ty "tuple") (by rfl) B9.tuple (by decide +kernel) rfl) pa_nil))))) (pw_or1 (pt_cmpR op_eq (pe_callB call_len (by rfl) B.len PySem.boot_len (pa_cons (pv 0) pa_nil)) pe_int (nomark _)))))
  (pss_one (ps_ret pe_non))
  pss_nil)
  (pss_cons (ps_set (i := 1) sc_parts_in.nd rfl (Or.inl rfl) (pe_ix ix_tup (pv 0) pe_int (fun _ _ => rfl)))
  (pss_cons (ps_if (PW.pt (pw_or (pt_not (pt_val (pe_callB call_isi (by rfl) B9.isinstance PyProof.Rows.boot_isinstance (pa_cons (pv 1) (pa_cons (pe_bltn (v := .ty "str") (by rfl) B9.str_ (by decide +kernel) rfl) pa_nil))))) (pw_or1 (pt_cmpR (op_notIn_kd M.kf) (pv 1) (pe_gc (by rfl) M.FORMS) (by rfl)))))
  (pss_one (ps_ret pe_non))
  pss_nil)
  (pss_cons (ps_set (i := 2) sc_parts_in.nd rfl (Or.inl rfl) (pe_ix ix_kdict (pe_gc (by rfl) M.FORMS) (pv 1) (fun _ _ => rfl)))
  (pss_one (ps_ret (pe_callD (i := 2) hr_act (by rfl) (by first | exact Or.inl rfl | exact Or.inr (Or.inl rfl)) (pa_cons (pv 0) pa_nil)))))))), ?_⟩
    refine ⟨_, rfl, v, .ty "tuple", .type (tyName d), .type "tuple", isTup d, rfl, .ty "tuple", (hd.kp (kp_same s0)).ty, kit_tup _, _, rfl, ?_⟩
    cases ht : isTup d with
    | false =>
      have e : partsD d = none := by cases d <;> first | rfl | cases ht
      exact iT rfl (iT rfl (kN e _ (Same.refl _)))
    | true =>
    obtain ⟨ds, rfl⟩ : ∃ ds, d = .tuple ds := by
      cases d with
      | tuple ds => exact ⟨ds, rfl⟩
      | _ => cases ht
    refine iF rfl ?_
    obtain ⟨ad, xs, rfl, ga, da⟩ := da_row hd
    have ga := s0 _ _ ga
    have le := da.len
    refine ⟨_, rfl, .ref ad, _, rfl, .inr ⟨_, SqT.of ga, rfl⟩, ?_⟩
    refine ⟨rfl, _, rfl, ?_⟩
    cases ds with
    | nil =>
      obtain rfl := daAll_nil da
      refine iT rfl ?_
      exact kN rfl _ (Same.refl _)
    | cons e0 r =>
    obtain ⟨x0, xr, rfl, d0, da⟩ := daAll_cons da
    obtain ⟨hl, hsl⟩ := shD_tup hs
    refine iF (decide_eq_false fun z => by injection z with z; simp at z; omega) ?_
    refine ⟨_, rfl, ad, _, 0, _, rfl, rfl, SqT.of ga, at_of (show (0 : Int) = ((0 : Nat) : Int) from rfl) rfl, ?_⟩
    refine ⟨_, rfl, x0, .ty "str", .type (tyName e0), .type "str", isStr e0, rfl, .ty "str", (d0.kp (kp_same s0)).ty, kit_str e0, _, rfl, ?_⟩
    cases hst : isStr e0 with
    | false =>
      have e : partsD (.tuple (e0 :: r)) = none := by cases e0 <;> first | rfl | cases hst
      exact iT rfl (iT rfl (kN e _ (Same.refl _)))
    | true =>
    obtain ⟨x, rfl⟩ : ∃ x, e0 = .str x := by
      cases e0 with
      | str x => exact ⟨x, rfl⟩
      | _ => cases hst
    cases d0
    refine iF rfl ?_
    obtain ⟨q, er, hr2⟩ := M.has x
    refine ⟨_, rfl, x, q, rfl, rfl, er, ?_⟩
    rw [hr2]
    by_cases hw : x ∈ formL
    · rw [decide_eq_true hw]
      refine ⟨_, rfl, iF rfl ?_⟩
      obtain ⟨g, hk, hD⟩ := M.does x hw
      refine ⟨_, rfl, fA, x, _, rfl, rfl, hk, ?_⟩
      refine ⟨g, _, rfl, hD, _, rfl, t, .ref ad, r, H0, rfl, s0, hd, ?_, ?_, kN, kS⟩
      · simp only [shL, Bool.and_eq_true] at hsl
        exact hsl.2
      · rw [List.length_cons] at hl
        omega
    · rw [decide_eq_false hw]
      refine ⟨_, rfl, iT rfl ?_⟩
      exact kN (partsW_not hw) _ (Same.refl _)
end
end L3

/-! values: what stands within, how many parts, how deep -/
namespace L3
open PySem L2
--PURE
/-- what stands within a value; none for what is none -/
def innerD : PyData → Option (List PyData)
  | .tuple [m, n, .tuple ds] => if isS "made" m && isNameD n then some ds else none
  | .tuple [a, b] => if (isS "whole" a && isWholeD b) || (isS "text" a && isTextD b) then some [] else none
  | .tuple [a] => if isS "function" a then some [] else none
  | _ => none
mutual
/-- parts and depth -/
def meas : PyData → Option (Nat × Nat)
  | .tuple ds => measT ds
  | _ => none
def measT : List PyData → Option (Nat × Nat)
  | [a] => if isS "function" a then some (1, 1) else none
  | [a, b] => if (isS "whole" a && isWholeD b) || (isS "text" a && isTextD b) then some (1, 1) else none
  | [m, n, e] => if isS "made" m && isNameD n then (measE e).map fun p => (1 + p.1, 1 + p.2) else none
  | _ => none
def measE : PyData → Option (Nat × Nat)
  | .tuple ds => measL ds
  | _ => none
/-- parts together, the deepest -/
def measL : List PyData → Option (Nat × Nat)
  | [] => some (0, 0)
  | d :: ds => match meas d, measL ds with
    | some p, some q => some (p.1 + q.1, max p.2 q.2)
    | _, _ => none
end
theorem meas_inner : ∀ (d : PyData), meas d = (innerD d).bind fun ds => (measL ds).map fun p => (1 + p.1, 1 + p.2)
  | .tuple [m, n, .tuple ds] => by
    simp only [meas, measT, measE, innerD]
    split <;> rfl
  | .tuple [a, b] => by
    simp only [meas, measT, innerD]
    split <;> simp [measL]
  | .tuple [a] => by
    simp only [meas, measT, innerD]
    split <;> simp [measL]
  | .tuple [m, n, .none] | .tuple [m, n, .bool _] | .tuple [m, n, .int _] | .tuple [m, n, .str _] | .tuple [m, n, .list _] | .tuple [m, n, .dict _] => by
    simp only [meas, measT, measE, innerD, Option.map_none, ite_self, Option.bind_none]
  | .tuple [] => by simp only [meas, measT, innerD, Option.bind_none]
  | .tuple (_ :: _ :: _ :: _ :: _) => by simp only [meas, measT, innerD, Option.bind_none]
  | .none => by simp only [meas, innerD, Option.bind_none]
  | .bool _ => by simp only [meas, innerD, Option.bind_none]
  | .int _ => by simp only [meas, innerD, Option.bind_none]
  | .str _ => by simp only [meas, innerD, Option.bind_none]
  | .list _ => by simp only [meas, innerD, Option.bind_none]
  | .dict _ => by simp only [meas, innerD, Option.bind_none]
theorem meas_low {d : PyData} {p : Nat × Nat} (h : meas d = some p) : 1 ≤ p.1 ∧ 1 ≤ p.2 := by
  rw [meas_inner] at h
  cases hi : innerD d with
  | none => rw [hi] at h; cases h
  | some ds =>
    rw [hi] at h
    have h : (measL ds).map (fun p => (1 + p.1, 1 + p.2)) = some p := h
    cases hm : measL ds with
    | none => rw [hm] at h; cases h
    | some q =>
      rw [hm] at h
      have h := Option.some.inj h
      rw [← h]
      exact ⟨by show 1 ≤ 1 + _; omega, by show 1 ≤ 1 + _; omega⟩
/-- all are values, none reaches below 101; how many parts -/
def sumM : List (PyData × Nat) → Option Nat
  | [] => some 0
  | (d, n) :: ps => match meas d, sumM ps with
    | some p, some s => if n + p.2 ≤ 101 then some (p.1 + s) else none
    | _, _ => none
theorem sumM_app : ∀ (a b : List (PyData × Nat)), sumM (a ++ b) = (sumM a).bind fun s => (sumM b).map fun r => s + r
  | [], b => by simp [sumM]
  | (d, n) :: a, b => by
    rw [List.cons_append]
    simp only [sumM, sumM_app a b]
    cases meas d with
    | none => rfl
    | some p =>
      cases sumM a with
      | none => rfl
      | some s =>
        cases sumM b with
        | none => simp
        | some r =>
          simp
          split
          · simp; omega
          · simp
/-- whether the stack comes to a good end -/
def chk (ps : List (PyData × Nat)) (many : Nat) : Bool := match sumM ps with
  | some s => decide (many + s ≤ 1000)
  | none => false
theorem sumM_inner {n : Nat} : ∀ (ds : List PyData), sumM (ds.map fun d => (d, n + 1)) = match measL ds with
    | some p => if p.2 = 0 ∨ n + 1 + p.2 ≤ 101 then some p.1 else none
    | none => none
  | [] => by simp [sumM, measL]
  | d :: ds => by
    simp only [List.map_cons, sumM, measL, sumM_inner ds]
    cases hm : meas d with
    | none => rfl
    | some p =>
      have hl := meas_low hm
      cases hq : measL ds with
      | none => rfl
      | some q =>
        simp only []
        by_cases h2 : q.2 = 0 ∨ n + 1 + q.2 ≤ 101
        · rw [if_pos h2]
          simp only []
          by_cases h1 : n + 1 + p.2 ≤ 101
          · rw [if_pos h1, if_pos (.inr (by rcases h2 with h2 | h2 <;> omega))]
          · rw [if_neg h1, if_neg (by omega)]
        · rw [if_neg h2, if_neg (by omega)]
theorem sumM_one (d : PyData) (n : Nat) : sumM [(d, n)] = match meas d with
    | some p => if n + p.2 ≤ 101 then some p.1 else none
    | none => none := by
  simp only [sumM]
  cases meas d with
  | none => rfl
  | some p => simp
/-- what the law wants of is_value -/
def due (d : PyData) : Bool := match meas d with
  | some p => decide (p.1 ≤ 1000) && decide (p.2 ≤ 100)
  | none => false
theorem chk_first (d : PyData) : chk [(d, 1)] 0 = due d := by
  unfold chk due
  rw [sumM_one]
  cases meas d with
  | none => rfl
  | some p =>
    simp only []
    by_cases h : 1 + p.2 ≤ 101
    · rw [if_pos h, decide_eq_true (by omega : p.2 ≤ 100), Bool.and_true]
      simp
    · rw [if_neg h, decide_eq_false (by omega : ¬ p.2 ≤ 100), Bool.and_false]
theorem chk_last {ps : List (PyData × Nat)} {d : PyData} {n many : Nat} : chk (ps ++ [(d, n)]) many = match innerD d with
    | none => false
    | some ds => decide (many + 1 ≤ 1000) && decide (n ≤ 100) && chk (ps ++ ds.map fun e => (e, n + 1)) (many + 1) := by
  unfold chk
  rw [sumM_app, sumM_one, meas_inner]
  cases hi : innerD d with
  | none => cases sumM ps <;> rfl
  | some ds =>
    simp only [Option.bind_some]
    rw [sumM_app, sumM_inner]
    cases hm : measL ds with
    | none => cases sumM ps <;> simp
    | some q =>
      simp only [Option.map_some]
      cases hs : sumM ps with
      | none => simp
      | some s =>
        simp only [Option.bind_some]
        by_cases h1 : n + (1 + q.2) ≤ 101
        · rw [if_pos h1, if_pos (.inr (by omega))]
          simp only [Option.map_some]
          rw [Bool.eq_iff_iff]
          simp only [Bool.and_eq_true, decide_eq_true_eq]
          omega
        · rw [if_neg h1]
          simp only [Option.map_none]
          by_cases h2 : q.2 = 0 ∨ n + 1 + q.2 ≤ 101
          · rw [if_pos h2, decide_eq_false (by omega : ¬ n ≤ 100)]
            simp
          · rw [if_neg h2]
            simp
theorem measL_app : ∀ (a b : List PyData), measL (a ++ b) = (measL a).bind fun p => (measL b).map fun q => (p.1 + q.1, max p.2 q.2)
  | [], b => by simp [measL]
  | d :: a, b => by
    rw [List.cons_append]
    simp only [measL, measL_app a b]
    cases meas d with
    | none => rfl
    | some p =>
      cases measL a with
      | none => rfl
      | some s =>
        cases measL b with
        | none => simp
        | some r => simp; omega
theorem parts_step {ds0 : List PyData} {e : PyData} {q : Nat × Nat} (h : measL (ds0 ++ [e]) = some q) : ∃ es q', innerD e = some es ∧ measL (ds0 ++ es) = some q' ∧ q.1 = q'.1 + 1 := by
  rw [measL_app] at h
  cases h0 : measL ds0 with
  | none => rw [h0] at h; cases h
  | some p =>
    rw [h0] at h
    simp only [Option.bind_some, measL] at h
    rw [meas_inner] at h
    cases hi : innerD e with
    | none => rw [hi] at h; cases h
    | some es =>
      rw [hi] at h
      simp only [Option.bind_some] at h
      cases hm : measL es with
      | none => rw [hm] at h; cases h
      | some r =>
        rw [hm] at h
        simp only [Option.map_some] at h
        have h := Option.some.inj h
        refine ⟨es, (p.1 + r.1, max p.2 r.2), rfl, ?_, ?_⟩
        · rw [measL_app, h0, hm]
          rfl
        · rw [← h]
          show p.1 + (1 + r.1 + 0) = p.1 + r.1 + 1
          omega
mutual
def psz : PyData → Nat
  | .tuple ds => 1 + pszL ds
  | _ => 1
def pszL : List PyData → Nat
  | [] => 0
  | d :: ds => psz d + pszL ds
end
theorem psz_pos (d : PyData) : 1 ≤ psz d := by
  cases d <;> simp only [psz] <;> omega
theorem pszL_app : ∀ (a b : List PyData), pszL (a ++ b) = pszL a + pszL b
  | [], b => by simp [pszL]
  | d :: a, b => by simp only [List.cons_append, pszL, pszL_app a b]; omega
theorem pszL_len : ∀ (a : List PyData), a.length ≤ pszL a
  | [] => Nat.le_refl _
  | d :: a => by
    have := psz_pos d
    have := pszL_len a
    simp only [List.length_cons, pszL]
    omega
theorem inner_less {d : PyData} {ds : List PyData} (h : innerD d = some ds) : pszL ds < psz d := by
  unfold innerD at h
  split at h
  · split at h
    · have h := Option.some.inj h
      subst h
      simp only [psz, pszL]
      omega
    · cases h
  · split at h
    · have h := Option.some.inj h
      subst h
      simp only [psz, pszL]
      omega
    · cases h
  · split at h
    · have h := Option.some.inj h
      subst h
      simp only [psz, pszL]
      omega
    · cases h
  · cases h
end L3

namespace L3
open PySem L2
theorem psz_nth (k : Nat) (d : PyData) : psz (nth k d) ≤ psz d := by
  unfold nth
  cases d with
  | tuple ds =>
    show psz (ds.getD k .none) ≤ _
    rw [List.getD_eq_getElem?_getD]
    cases e : ds[k]? with
    | none => simp only [Option.getD_none, psz]; omega
    | some x =>
      have h := List.mem_of_getElem? e
      have : psz x ≤ pszL ds := by
        clear e
        induction ds with
        | nil => cases h
        | cons y r ih =>
          simp only [pszL]
          rcases List.mem_cons.mp h with rfl | h
          · omega
          · have := ih h
            omega
      simp only [Option.getD_some, psz]
      omega
  | _ => simp [mems, psz]
theorem pszL_nth (k : Nat) : ∀ ds : List PyData, pszL (ds.map (nth k)) ≤ pszL ds
  | [] => Nat.le_refl _
  | d :: r => by
    have h1 := psz_nth k d
    have h2 := pszL_nth k r
    simp only [List.map_cons, pszL]
    omega
theorem psz_mems (d : PyData) : pszL (mems d) < psz d := by
  cases d <;> simp [mems, psz, pszL] <;> omega
theorem partsW_lt {w : Str} {r ps : List PyData} (h : partsW w r = some ps) : pszL ps ≤ pszL r := by
  unfold partsW at h
  split at h
  · split at h
    · split at h
      · cases h; simp [pszL]
      · cases h
    · cases h
  split at h
  · split at h
    · split at h
      · cases h; simp [pszL]
      · cases h
    · cases h
  split at h
  · split at h
    · split at h
      · cases h; simp [pszL]
      · cases h
    · cases h
  split at h
  · split at h
    · cases h; exact Nat.le_refl _
    · cases h
  split at h
  · split at h
    · split at h
      · cases h; simp only [pszL]; omega
      · cases h
    · cases h
  split at h
  · split at h
    · rename_i rows a
      split at h
      · cases h
        have h1 := pszL_nth 1 (mems rows)
        have h2 := psz_mems rows
        rw [pszL_app]
        simp only [pszL]
        omega
      · cases h
    · cases h
  split at h
  · split at h
    · rename_i a arms
      split at h
      · cases h
        have h1 := pszL_nth 2 (mems arms)
        have h2 := psz_mems arms
        simp only [pszL]
        omega
      · cases h
    · cases h
  split at h
  · split at h
    · cases h; exact Nat.le_refl _
    · cases h
  · cases h
theorem partsD_lt {d : PyData} {ps : List PyData} (h : partsD d = some ps) : pszL ps < psz d := by
  unfold partsD at h
  split at h
  · rename_i w r
    have := partsW_lt h
    simp only [psz, pszL]
    omega
  · cases h
theorem psz_in {ds : List PyData} {d : PyData} (h : d ∈ ds) : psz d ≤ pszL ds := by
  induction ds with
  | nil => cases h
  | cons y r ih =>
    simp only [pszL]
    rcases List.mem_cons.mp h with rfl | h
    · omega
    · have := ih h
      omega
/-- whether any value is a term -/
def isTermD (d : PyData) : Bool := match h : partsD d with
  | none => false
  | some ps => ps.attach.all fun p => isTermD p.1
termination_by psz d
decreasing_by
  have h1 := partsD_lt h
  have h2 := psz_in p.2
  omega
theorem isTerm_no {d : PyData} (h : partsD d = none) : isTermD d = false := by
  rw [isTermD]
  split
  · rfl
  · rename_i ps e
    rw [h] at e
    cases e
theorem isTerm_yes {d : PyData} {ps : List PyData} (h : partsD d = some ps) : isTermD d = ps.all isTermD := by
  rw [isTermD]
  split
  · rename_i e
    rw [h] at e
    cases e
  · rename_i qs e
    rw [h] at e
    cases e
    rw [Bool.eq_iff_iff]
    simp only [List.all_eq_true]
    exact ⟨fun z x hx => z ⟨x, hx⟩ (List.mem_attach _ _), fun z x _ => z x.1 x.2⟩
theorem partsW_sh {w : Str} {r ps : List PyData} (hr : shL r = true) (h : partsW w r = some ps) : shL ps = true := by
  have key : ∀ p ∈ ps, shD p = true := by
    unfold partsW at h
    split at h
    · split at h
      · split at h
        · cases h; exact fun _ q => nomatch q
        · cases h
      · cases h
    split at h
    · split at h
      · split at h
        · cases h; exact fun _ q => nomatch q
        · cases h
      · cases h
    split at h
    · split at h
      · split at h
        · cases h; exact fun _ q => nomatch q
        · cases h
      · cases h
    split at h
    · split at h
      · cases h; exact fun p hp => shL_mem hr hp
      · cases h
    split at h
    · split at h
      · split at h
        · cases h; exact fun p hp => shL_mem hr (by rw [List.mem_singleton.mp hp]; simp)
        · cases h
      · cases h
    split at h
    · split at h
      · rename_i rows a
        split at h
        · cases h
          intro p hp
          rcases List.mem_append.mp hp with hp | hp
          · obtain ⟨q, hq, rfl⟩ := List.mem_map.mp hp
            refine shD_nth ?_
            have := shL_mem hr (d := rows) List.mem_cons_self
            cases rows with
            | tuple ds => exact shL_mem (shD_tup this).2 hq
            | _ => cases hq
          · rw [List.mem_singleton.mp hp]
            exact shL_mem hr (by simp)
        · cases h
      · cases h
    split at h
    · split at h
      · rename_i a arms
        split at h
        · cases h
          intro p hp
          rcases List.mem_cons.mp hp with rfl | hp
          · exact shL_mem hr List.mem_cons_self
          · obtain ⟨q, hq, rfl⟩ := List.mem_map.mp hp
            refine shD_nth ?_
            have := shL_mem hr (d := arms) (by simp)
            cases arms with
            | tuple ds => exact shL_mem (shD_tup this).2 hq
            | _ => cases hq
        · cases h
      · cases h
    split at h
    · split at h
      · cases h; exact fun _ q => nomatch q
      · cases h
    · cases h
  clear h
  induction ps with
  | nil => simp [shL]
  | cons p r ih =>
    simp only [shL, key p List.mem_cons_self, ih (fun q hq => key q (List.mem_cons_of_mem _ hq)), Bool.and_true]
theorem partsD_sh {d : PyData} {ps : List PyData} (hd : shD d = true) (h : partsD d = some ps) : shL ps = true := by
  unfold partsD at h
  split at h
  · rename_i w r
    have := (shD_tup hd).2
    simp only [shL, Bool.and_eq_true] at this
    exact partsW_sh this.2 h
  · cases h
end L3

namespace L3
open PySem L2
theorem shL_app : ∀ (a b : List PyData), shL (a ++ b) = (shL a && shL b)
  | [], b => by simp [shL]
  | d :: a, b => by simp only [List.cons_append, shL, shL_app a b, Bool.and_assoc]
theorem daAll_last {t : Addr} {H : Hp} {d : PyData} : ∀ {ds : List PyData} {vs : List V}, DaAll t H vs (ds ++ [d]) → ∃ vs0 v, vs = vs0 ++ [v] ∧ DaAll t H vs0 ds ∧ Da t H v d
  | [], _, h => by
    cases h with
    | cons h1 h2 =>
      cases h2
      exact ⟨[], _, rfl, .nil, h1⟩
  | e :: ds, _, h => by
    cases h with
    | cons h1 h2 =>
      obtain ⟨vs0, v, rfl, g1, g2⟩ := daAll_last (ds := ds) h2
      exact ⟨_, v, rfl, .cons h1 g1, g2⟩
section
variable {P : Program} {w : World} {K : PySem.W.Frag} {mg : Str → Option Value} {base : Heap}
abbrev s_is_term : Stmt := topS 11
abbrev N_is_term : List Str := ["value", "waiting", "parts"]
theorem sc_is_term : FnScope N_is_term ["value"] (defScope s_is_term) := ⟨rfl, rfl, rfl, by decide +kernel, rfl, by decide +kernel, by decide +kernel⟩
def spTerm : Sp := fun vs H Q _ => ∃ (t : Addr) (v : V) (d : PyData), vs = [v] ∧ Da t H v d ∧ shD d = true ∧ psz d ≤ 900000 ∧ ∀ H', Same H H' → Q (.bl (isTermD d)) H'
theorem ok_term {f : Addr} {fd : FuncData} (F : Fun K "is_term" "is_term" s_is_term f fd) (B : Bl mg) (D_parts_in : Kn P w K mg base 5 "parts_in" ["value"] spParts) : FnOk P w K mg base CX0 6 f fd ["value"] spTerm := by
  refine F.ok sc_is_term (fun vs H Q E h => ?_) (fun cdv A outer s H vs Q E hr h => ?_)
  · obtain ⟨t, v, d, rfl, _⟩ := h
    rfl
  · obtain ⟨t, v, d, rfl, hd, hs, hsz, k⟩ := h
    have hr_parts_in : Room 5 _ := hr
    refine ⟨_, (pss_cons (ps_set (i := 1) sc_is_term.nd rfl (Or.inl rfl) (pe_lst (pa_cons (pv 0) pa_nil)))
  (pss_cons (ps_while PassesOwn.never (pt_truth (pv 1) (by intro _; rfl))
  (pss_cons (ps_set (i := 2) sc_is_term.nd rfl (Or.inl rfl) (pe_kn D_parts_in hr_parts_in (pa_cons (pe_bm0 PySem.F.plainAttrs_list PySem.F.slot_list_pop PySem.F.type_list_pop mt_pop (pv 1)) pa_nil)))
  (pss_cons (ps_if (pt_cmpR op_isN (pv 2) pe_non (nomark _))
  (pss_one (ps_ret pe_bl))
  pss_nil)
  (pss_one (ps_expr (pe_bm PySem.F.plainAttrs_list PySem.F.slot_list_extend PySem.F.type_list_extend mt_extend (pv 1) (pa_cons (pv 2) pa_nil)))))))
  (pss_one (ps_ret pe_bl)))), ?_⟩
    refine ⟨_, rfl, slz rfl, fun lw hlw => ?_⟩
    have s1 : Same H (upd H lw (.lst [v])) := same_new hlw
    have g1 : (upd H lw (.lst [v])) lw = some (.lst [v]) := upd_same
    generalize upd H lw (.lst [v]) = H1 at s1 g1 ⊢
    refine ⟨fun m σ H' => ∃ (ds : List PyData) (vs : List V) (v3 : Option V), σ = [some v, some (.ref lw), v3] ∧ Same H H' ∧ H' lw = some (.lst vs) ∧ DaAll t H vs ds ∧ shL ds = true ∧ m = pszL ds ∧ pszL ds ≤ 900000 ∧ ds.all isTermD = isTermD d, ⟨pszL [d], [d], [v], none, rfl, s1, g1, .cons hd .nil, by simp only [shL, hs]; rfl, rfl, by simpa [pszL] using hsz, by simp⟩, ?_⟩
    rintro m σ H2 ⟨ds, vs, v3, rfl, s2, g2, da, ho, rfl, hz, hk⟩
    refine ⟨_, rfl, _, .inl ⟨vs, SqL.of g2, rfl⟩, ?_⟩
    rcases List.eq_nil_or_concat ds with rfl | ⟨ds0, d1, rfl⟩
    · cases da
      refine iteF ?_
      have e : isTermD d = true := by rw [← hk]; rfl
      rw [e] at k
      exact k H2 s2
    · rw [List.concat_eq_append] at *
      obtain ⟨vs0, v1, rfl, da0, dv⟩ := daAll_last da
      have hne : (!(vs0 ++ [v1]).isEmpty) = true := by cases vs0 <;> rfl
      refine iT hne ?_
      refine ⟨fun σ' H' => ∃ (ds : List PyData) (vs : List V) (v3 : Option V), σ' = [some v, some (.ref lw), v3] ∧ Same H H' ∧ H' lw = some (.lst vs) ∧ DaAll t H vs ds ∧ shL ds = true ∧ pszL ds < pszL (ds0 ++ [d1]) ∧ pszL ds ≤ 900000 ∧ ds.all isTermD = isTermD d, ?_, ?_⟩
      · rintro σ' H' ⟨ds, vs, v3, e1, e2, e3, e4, e5, e6, e7, e8⟩
        exact ⟨pszL ds, e6, ds, vs, v3, e1, e2, e3, e4, e5, rfl, e7, e8⟩
      · have lz : pszL (ds0 ++ [d1]) = pszL ds0 + psz d1 := by rw [pszL_app]; simp [pszL]
        rw [shL_app, Bool.and_eq_true] at ho
        obtain ⟨ho0, ho1⟩ := ho
        have ho1 : shD d1 = true := shL_mem ho1 (List.mem_singleton.mpr rfl)
        rw [List.all_append] at hk
        have hk : (ds0.all isTermD && isTermD d1) = isTermD d := by rw [← hk]; simp
        have S3 : Same H (upd H2 lw (.lst vs0)) := fun b o z => by
          rw [upd_ne (ne_of_none z hlw)]
          exact s2 _ _ z
        refine ⟨_, rfl, .inl ⟨rfl, _, SqL.of g2⟩, lw, vs0 ++ [v1], v1, rfl, rfl, g2, by simp, ?_⟩
        rw [List.dropLast_concat]
        have g3 : (upd H2 lw (.lst vs0)) lw = some (.lst vs0) := upd_same
        generalize upd H2 lw (.lst vs0) = H3 at S3 g3 ⊢
        refine ⟨t, v1, d1, H, rfl, S3, dv, ho1, fun e H4 s4 => ?_, fun ps e H4 l us s4 hl gl du => ?_⟩
        · refine ⟨_, rfl, ?_⟩
          have e2 : isTermD d = false := by rw [← hk, isTerm_no e, Bool.and_false]
          rw [e2] at k
          exact ⟨rfl, _, rfl, iT rfl (k H4 (S3.trans s4))⟩
        · refine ⟨_, rfl, rfl, _, rfl, iF rfl ?_⟩
          have lt := partsD_lt e
          have S4 := S3.trans s4
          have g4 := s4 _ _ g3
          have lu := du.len
          have l1 := pszL_len ps
          have l0 := pszL_len ds0
          refine ⟨_, rfl, .inl ⟨rfl, _, SqL.of g4⟩, _, rfl, lw, l, vs0, us, rfl, rfl, g4, gl, by rw [sizeLine_eq, da0.len, lu]; omega, ?_⟩
          refine ⟨ds0 ++ ps, vs0 ++ us, _, rfl, fun b o zz => ?_, upd_same, da0.app du, ?_, by rw [lz, pszL_app]; omega, by rw [pszL_app]; omega, ?_⟩
          · rw [upd_ne (ne_of_none zz hlw)]
            exact S4 _ _ zz
          · rw [shL_app, ho0, partsD_sh ho1 e]
            rfl
          · rw [List.all_append, ← hk, isTerm_yes e]
end
end L3

/-! a known function called by keywords alone -/
namespace L3
open PySem L2
structure KnK (P : Program) (w : World) (K : PySem.W.Frag) (mg : Str → Option Value) (base : Heap) (k : Nat) (x : Str) (ps : List Str) (sp : Sp) : Prop where
  ex : ∃ (f : Addr) (fd : FuncData), FnOk P w K mg base CX0 k f fd ps sp ∧ mg x = some (.ref f) ∧ PySem.W.keepIn K (.ref f) = true ∧ KBinds K fd ps ps (fun us ws => us ++ ws) (fun vs zs => vs ++ zs)
section
variable {X : Cx} {x : Str} {k : Nat} {ps : List Str} {sp : Sp} {kws : List Keyword} {tk : TA} {p pos : Pos}
theorem pe_knK (D : KnK X.prog X.w X.K X.mg X.base k x ps sp) (hr : Room k X.A) (hkw : PK X kws tk) (hg : Gl X x := by rfl) (hdb : (x == ("__debug__" : Str)) = false := by decide)
    (hall : (backToKw pos (keywordEach kws X.env)).all (·.1.isSome) = true := by rfl) (hks : (backToKw pos (keywordEach kws X.env)).filterMap (·.1) = ps := by rfl)
    (hpl : ((backTo pos (starEach [] X.env)).any (·.1) || (backToKw pos (keywordEach kws X.env)).any (·.1.isNone)) = false := by rfl) :
    PE X (.Call (.Name x p) [] kws pos) (fun σ H Q => tk σ H fun zs H2 => sp zs H2 Q E0) := by
  obtain ⟨f, fd, F, hm, hk, hb⟩ := D.ex
  refine ⟨fun pins s σ H Q I h => wpAny_Call_Name_kw (ld_glob I hg hm ?_ hdb)⟩
  refine PySem.W.callWith_KW0 (h₀ := X.base) I.ok.mod.kin hk hall (thn (hkw.run pos pins s σ H _ I h) fun ws s2 ⟨zs, H2, I2, rz, q2⟩ => ⟨I2.kIn, ?_⟩) hpl
  rw [hks]
  exact run_fnk (us := []) (vs := []) F hr hb pass0 I2 .nil rz q2
/-- a function of one parameter -/
theorem kbinds1 {K : PySem.W.Frag} {fd : FuncData} {x : Str} (h : ∀ (s : Shared) (v : Value), BindsTo s fd ⟨[v], []⟩ [(x, v)]) (h2 : ∀ (s : Shared) (v : Value), BindsTo s fd ⟨[], [(x, v)]⟩ [(x, v)]) : KBinds K fd [x] [x] (fun us ws => us ++ ws) (fun vs zs => vs ++ zs) where
  to := fun s us ws _ hl => by
    match us, ws, hl with
    | [], [w], _ => exact h2 s w
    | [u], [], _ => exact h s u
  rel := fun r rz => by
    induction r with
    | nil => exact rz
    | cons a b ih => exact .cons a ih
end
end L3

/-! own exceptions as values, over any built-in one: stores within __init__ -/
namespace L3
open PySem PySem.Spec PyProof.Rows L2
/-- an own class over a built-in exception, as the written part has it -/
structure Xc (K : PySem.W.Frag) (C : Addr) (bmB : List Value) (nw : String) : Prop where
  ini : PySem.W.excInitIn K C bmB nw = true
  ov : PySem.W.excOver K C bmB = true
  sa : PySem.W.findIn K (.ref C) "__setattr__" = some (some (.builtin "object.__setattr__"))
  kC : PySem.W.keepIn K (.ref C) = true
  dct : PySem.W.hasDictIn K C = true
theorem Xc.cls {K : PySem.W.Frag} {C : Addr} {bmB : List Value} {nw : String} (T : Xc K C bmB nw) : ∃ cd, PySem.W.clsIn K C = some cd ∧ cd.hasDict = true := by
  obtain ⟨cd, h1, h2⟩ := PySem.W.any_some T.dct
  exact ⟨cd, h1, h2⟩
section
variable {X : Cx} {pins : List (Addr × Obj)} {σ : L2.St} {H : Hp} {s : Shared} {a C dx : Addr} {f : Str} {y : V} {u : Value} {fs : List (Str × V)} {bmB : List Value} {B nw : String} {Q : Unit → Shared → Prop} {E : Value → Shared → Prop} {A : Around}
open Builtin Builtin.ObjectAttr in
theorem set_first (SF : StoreFacts B bmB "object.__setattr__" "object") (T : Xc X.K C bmB nw) (I : Inv X pins σ H s) (e : H a = some (exo a C none)) (ht : PySem.W.takerIn X.K C f = some none) (ry : RelV y u)
    (h : ∀ dx s', H dx = none → dx ≠ a → Inv X pins σ (upd (upd H dx (exd dx [(f, y)])) a (exo a C (some dx))) s' → Q () s') : wpAny (model X.prog X.w) A (setAttr (.ref a) f u) Q E s := by
  obtain ⟨cd, hcl, hdd⟩ := T.cls
  obtain ⟨t1, ho⟩ := exo_at I.hok e
  have X0 := I.kIn
  obtain ⟨hp, g, d, t, os⟩ := s
  have J : PySem.W.InstAt hp a { cls := .ref C, dict := none, data := .fields #[.ref t1, .none, .none, .none, .bool false, .none] } C none := ⟨ho, rfl, rfl, trivial⟩
  refine PySem.W.set_plain X0 J T.sa ?_
  refine PySem.W.osa_openX SF X0 J T.ov ht fun b => ?_
  have Lc : PySem.W.Looks (model X.prog X.w) hp (classData C) cd := PySem.W.looks_clsIn X0 hcl
  obtain ⟨nm, bs, mro, ns, qn, hd, sn, sb, ab, col, dl⟩ := cd
  dsimp only at hdd
  subst hdd
  have nx : a ≠ hp.objs.size := Nat.ne_of_lt (Heap.lt_size ho)
  show wpAny _ _ (storeInOwnDict (.ref a) (.ref C) (.str f _) f u b) _ _ _
  unfold storeInOwnDict ownDictForStores
  repeat (first | with_reducible refine PySem.HandSPX.store_in_new ?_ ?_ | with_reducible refine wpAny_loadPart_at ho ?_ | with_reducible refine Lc.at ?_ | wp_step)
  · exact ⟨_, #[], _, (Heap.get?_update_ne _ _ _ _ nx.symm).trans (Heap.get?_push_at rfl rfl), rfl, fun q hq => absurd hq (by simp), fun _ => rfl⟩
  · intro h1 tk1 n1 sb1
    have gx : h1.get? a = some { cls := .ref C, dict := some hp.objs.size, data := .fields #[.ref t1, .none, .none, .none, .bool false, .none] } := (sb1.2 a nx).trans (Heap.get?_update_self _ (Heap.get?_push_of_some _ ho) rfl)
    have kp : ∀ b o, b ≠ a → hp.get? b = some o → h1.get? b = some o := fun b o nb q => (sb1.2 b (Nat.ne_of_lt (Heap.lt_size q))).trans ((Heap.get?_update_ne _ _ _ _ nb).trans (Heap.get?_push_of_some _ q))
    have fr : H hp.objs.size = none := I.hok.fresh (Nat.le_refl _)
    have lt : ∀ {b o}, hp.get? b = some o → b ≠ hp.objs.size := fun q => Nat.ne_of_lt (Heap.lt_size q)
    have no : ∀ {b}, H b = none → b ≠ a := fun n z => by rw [z, e] at n; cases n
    -- what stands at b is not the exception, nor new
    have past : ∀ {b o}, H b = some o → o ≠ exo a C none → (upd (upd H hp.objs.size (exd hp.objs.size [(f, y)])) a (exo a C (some hp.objs.size))) b = some o := fun {b o} q n => by
      rw [upd_ne (at_ne e q n.symm), upd_ne (ne_of_none q fr)]
      exact q
    have un : Un X.fs [] H (upd (upd H hp.objs.size (exd hp.objs.size [(f, y)])) a (exo a C (some hp.objs.size))) hp h1 :=
      ⟨fun b o q n _ _ => kp b o (no n) q, fun b o q n _ _ => ⟨o.slots, kp b o (no n) q⟩, fun b o q n _ => by rw [upd_ne (no n), upd_ne (lt q)]; exact n,
       fun b o q _ => (Classical.em (b = a)).elim (fun z => ⟨_, z ▸ gx⟩) fun z => ⟨o, kp b o z q⟩, fun b xs q => past q exo_tup.symm, fun b o v q => past q exo_frz.symm, fun b ps q => ⟨#[], by rw [past q exo_tbl.symm]; simp⟩⟩
    refine h _ _ fr nx.symm (I.un (t' := tk1) un fun b o q => ?_)
    by_cases za : b = a
    · cases za
      rw [upd_same] at q
      cases q
      exact exo_ok gx
    · rw [upd_ne za] at q
      by_cases zd : b = hp.objs.size
      · cases zd
        rw [upd_same] at q
        cases q
        exact exd_ok n1 (relO_put (fs := []) ry fun _ => trivial)
      · rw [upd_ne zd] at q
        refine (I.hok b o q).stay (fun c v hc z => kp c v ?_ z) (fun c hc => past hc exo_own.symm) (fun c xs hc => past hc exo_tup.symm)
        rcases hc with rfl | hc
        · exact za
        · exact at_ne e hc exo_own
open Builtin Builtin.ObjectAttr in
theorem set_more (SF : StoreFacts B bmB "object.__setattr__" "object") (T : Xc X.K C bmB nw) (I : Inv X pins σ H s) (e : H a = some (exo a C (some dx))) (ed : H dx = some (exd dx fs)) (hl : fs.length ≤ 900) (ht : PySem.W.takerIn X.K C f = some none) (ry : RelV y u)
    (h : ∀ s', Inv X pins σ (upd H dx (exd dx ((f, y) :: fs))) s' → Q () s') : wpAny (model X.prog X.w) A (setAttr (.ref a) f u) Q E s := by
  obtain ⟨cd, hcl, hdd⟩ := T.cls
  obtain ⟨t1, ho⟩ := exo_at I.hok e
  obtain ⟨m0, ns0, rel⟩ := exd_at I.hok ed
  have wi := within_of rel
  have X0 := I.kIn
  obtain ⟨hp, g, d, t, os⟩ := s
  obtain ⟨o2, _, _, ho2, _, _⟩ := ns0.count wi
  have J : PySem.W.InstAt hp a { cls := .ref C, dict := some dx, data := .fields #[.ref t1, .none, .none, .none, .bool false, .none] } C (some o2) := ⟨ho, rfl, rfl, ho2⟩
  refine PySem.W.set_plain X0 J T.sa ?_
  refine PySem.W.osa_openX SF X0 J T.ov ht fun b => ?_
  have Lc : PySem.W.Looks (model X.prog X.w) hp (classData C) cd := PySem.W.looks_clsIn X0 hcl
  obtain ⟨nm, bs, mro, ns, qn, hd, sn, sb, ab, col, dl⟩ := cd
  dsimp only at hdd
  subst hdd
  show wpAny _ _ (storeInOwnDict (.ref a) (.ref C) (.str f _) f u b) _ _ _
  unfold storeInOwnDict ownDictForStores
  repeat (first | with_reducible refine PySem.OEX.store_in_old ns0 wi (by rw [List.length_map]; omega) ?_ | with_reducible refine wpAny_loadPart_at ho ?_ | with_reducible refine Lc.at ?_ | wp_step)
  intro h1 tk1 n1 sb1
  refine h _ (I.write (t' := tk1) (x := dx) (e := dx) (o := exd dx ((f, y) :: fs)) (by rw [ed]; trivial) (.inl rfl) (fun b o nb q => (sb1.2 b nb).trans q) ?_ (exd_ok n1 (relO_put ry rel)))
  obtain ⟨o, _, _, q, _⟩ := n1
  exact ⟨o, q⟩
end
/-- self.f = e within __init__ -/
def tSetX (K : PySem.W.Frag) (bmB : List Value) (nw : String) (f : Str) (to te : TE) : TS := fun D σ H => te σ H fun y H1 => to σ H1 fun x H2 => ∃ a C : Addr, x = .ref a ∧ Xc K C bmB nw ∧ PySem.W.takerIn K C f = some none ∧
  ((H2 a = some (exo a C none) ∧ ∀ dx, H2 dx = none → dx ≠ a → D.nx σ (upd (upd H2 dx (exd dx [(f, y)])) a (exo a C (some dx)))) ∨
    ∃ (dx : Addr) (fs : List (Str × V)), H2 a = some (exo a C (some dx)) ∧ H2 dx = some (exd dx fs) ∧ fs.length ≤ 900 ∧ D.nx σ (upd H2 dx (exd dx ((f, y) :: fs))))
/-- C(..), C's own __init__ keeping sp: the exception itself -/
def tNewX (C : Addr) (sp : Sp) (ta : TA) : TE := fun σ H Q => ta σ H fun vs H1 => vs.length ≤ 1000 ∧ ∀ a, H1 a = none → sp (.ref a :: vs) (upd H1 a (exo a C none)) (fun v H2 => v = .non ∧ Q (.ref a) H2) E0
section
variable {X : Cx} {o e : Expr} {es : List Expr} {to te : TE} {ta : TA} {f : Str} {p p' pos : Pos} {bmB : List Value} {B nw ini : String} {C : Addr}
theorem ps_setX (SF : StoreFacts B bmB "object.__setattr__" "object") (ho : PE X o to) (he : PE X e te) (hs : swapsWith e (some (.Attribute o f p')) pos.line X.env = pure false := by rfl) : PS X (.Assign [.Attribute o f p'] e pos) (tSetX X.K bmB nw f to te) := by
  refine ⟨fun pins s σ H D I h => plainObj_wpAny_Assign_Attribute (thn (he.run pins s σ H _ I h) fun v s1 ⟨y, H1, I1, r1, q1⟩ => thn (ho.run pins s1 σ H1 _ I1 q1) fun u s2 ⟨x, H2, I2, r2, a, C, ex, T, ht, q⟩ => ?_) hs⟩
  subst ex
  obtain rfl : u = Value.ref a := r2
  rcases q with ⟨ea, q⟩ | ⟨dx, fs, ea, ed, hl, q⟩
  · exact set_first SF T I2 ea ht r1 fun dx s3 n ne J => ⟨σ, _, J, q dx n ne⟩
  · exact set_more SF T I2 ea ed hl ht r1 fun s3 J => ⟨σ, _, J, q⟩
/-- an own class with an own __init__ -/
structure Xi (P : Program) (w : World) (K : PySem.W.Frag) (mg : Str → Option Value) (base : Heap) (k : Nat) (C : Addr) (ps : List Str) (sp : Sp) : Prop where
  ex : ∃ (fI : Addr) (fd : FuncData), FnOk P w K mg base CX0 k fI fd ps sp ∧ PySem.W.findIn K (.ref C) "__init__" = some (some (.ref fI)) ∧ PySem.W.typeIn K (.ref fI) = some (.type "function") ∧ Binds K fd ps []
theorem pe_newX {x : Str} {k : Nat} {ps : List Str} {sp : Sp} (FB : ExcBaseFacts B nw ini bmB) (T : Xc X.K C bmB nw) (D : Xi X.prog X.w X.K X.mg X.base k C ps sp) (hr : Room (k + 1) X.A) (hm : X.mg x = some (.ref C)) (ha : PA X (e :: es) ta) (hg : Gl X x := by rfl)
    (hdb : (x == ("__debug__" : Str)) = false := by decide) (he : starEach (e :: es) X.env = (false, eval e X.env) :: starEach es X.env := by rfl) (hpl : (backTo pos (starEach es X.env)).any (·.1) = false := by rfl) :
    PE X (.Call (.Name x p) (e :: es) [] pos) (tNewX C sp ta) := by
  obtain ⟨fI, fd, F1, iC, tI, hb⟩ := D.ex
  refine ⟨fun pins s σ H Q I h => wpAny_Call_Name_kw (ld_glob I hg hm ?_ hdb)⟩
  refine PySem.W.callWith_K (h₀ := X.base) I.ok.mod.kin T.kC (thn (ha.run pos pins s σ H _ I h) fun us s1 ⟨vs, H1, I1, r1, hz, q1⟩ => ⟨I1.kIn, ?_⟩) he hpl
  show wpAny _ _ (call (.ref C) us) _ _ _
  obtain ⟨nm, N, qn, bs, bm, hd, sn, sb, ab, col, dd, k0, k1, k2, k3, k5, hC, hT⟩ := PySem.W.excInit_of I1.kIn T.ini
  obtain ⟨hp, g, dr, tk, os⟩ := s1
  have lz : us.length ≤ sizeLine := by rw [← r1.length, sizeLine_eq]; omega
  have fr : H1 (hp.objs.size + 1) = none := I1.hok.fresh (Nat.le_succ _)
  have J : Inv X pins σ (upd H1 (hp.objs.size + 1) (exo (hp.objs.size + 1) C none)) ⟨(hp.push (PySem.W.kdv_tup us)).push (PySem.HandSPX.excO C hp.objs.size), g, dr, tk, os⟩ :=
    I1.laid (t' := tk) (fun b o q => Heap.get?_push_of_some _ (Heap.get?_push_of_some _ q)) (Nat.le_succ _) (exo_ok (by heap_get))
  have q2 := q1 _ fr
  have rv : Vals (V.ref (hp.objs.size + 1) :: vs) (Value.ref (hp.objs.size + 1) :: us) := .cons rfl r1
  have ln : (Value.ref (hp.objs.size + 1) :: us ++ []).length = ps.length := by
    rw [List.append_nil, ← rv.length]
    exact F1.len _ _ _ _ q2
  have bi := hb ⟨(hp.push (PySem.W.kdv_tup us)).push (PySem.HandSPX.excO C hp.objs.size), g, dr, tk, os⟩ _ J.kIn ln
  rw [List.append_nil] at bi
  refine wpAny_call (PySem.HandSPX.call_own FB hT hC (PySem.W.looks_findIn I1.kIn iC) (fun self => PySem.W.bind_fn I1.kIn self tI) lz (codeAny_mono (F1.run _ X.stack _ _ ⟨Value.ref (hp.objs.size + 1) :: us, []⟩ (Value.ref (hp.objs.size + 1) :: us) _ _ E0 (hr.make C us []) (J.env0.make C us []) bi rv q2) fun r s' z => ?_))
  cases r with
  | error er => exact z.elim
  | ok fl =>
    cases fl with
    | ret u =>
      obtain ⟨v, H2, I2, r2, ev, q3⟩ := J.after z
      subst ev
      exact ⟨r2, .ref (hp.objs.size + 1), H2, I2, rfl, q3⟩
    | next => exact z.elim
    | brk => exact z.elim
    | cont => exact z.elim
/-- what the class must say so that its exceptions are read and asked -/
structure Xr (K : PySem.W.Frag) (C : Addr) : Prop where
  ga : PySem.W.findIn K (.ref C) "__getattribute__" = some (some (.builtin "BaseException.__getattribute__"))
  gg : PySem.W.findIn K (.ref C) "__getattr__" = some none
  sb : PySem.W.subIn K (.ref C) (.type "BaseException") = some true
  dct : PySem.W.hasDictIn K C = true
  cl : PySem.W.findIn K (.ref C) "__class__" = some (some (.builtin "object.__class__"))
  gs : PySem.W.specialIn K (.builtin "object.__class__") "__get__" = some (some (.builtin "getset_descriptor.__get__"))
  tk : PySem.W.takesIn K (.builtin "object.__class__") = some true
  ob : PySem.W.mroIn K C (.type "object") = some true
/-- e.f -/
def tFld (K : PySem.W.Frag) (f : Str) (te : TE) : TE := fun σ H Q => te σ H fun x H1 => ∃ (a C d : Addr) (fs : List (Str × V)) (v : V), x = .ref a ∧ Xr K C ∧ PySem.W.findIn K (.ref C) f = some none ∧ H1 a = some (exo a C (some d)) ∧ H1 d = some (exd d fs) ∧ fs.lookup f = some v ∧ Q v H1
theorem pe_fld (he : PE X e te) (hb : attributeBase e f X.env (eval e X.env) = eval e X.env := by rfl) : PE X (.Attribute e f pos) (tFld X.K f te) := by
  refine ⟨fun pins s σ H Q I h => attr_of hb (thn (he.run pins s σ H _ I h) fun u s1 ⟨x, H1, I1, rx, a, C, d, fs, v, ex, T, no, ea, ed, l, q⟩ => ?_)⟩
  subst ex
  obtain rfl : u = Value.ref a := rx
  obtain ⟨t1, ho⟩ := exo_at I1.hok ea
  obtain ⟨mA, ns, rl⟩ := exd_at I1.hok ed
  obtain ⟨od, hd, lk⟩ := lookIn_ns ns
  obtain ⟨z, hz, rz⟩ := RelO.some_of (v := v) (o := mA f) (by rw [← l]; exact rl f)
  have J : PySem.W.InstAt s1.heap a _ C (some od) := ⟨ho, rfl, rfl, hd⟩
  exact PySem.HandSPX.exc_get I1.kIn J T.ga T.gg T.sb (PySem.W.findObj_own T.dct no rfl (by rw [lk, hz])) (handed_of rz) ⟨v, H1, I1.tok _, rz, q⟩
/-- isinstance(e, c) -/
def rIsX (K : PySem.W.Frag) : List V → Hp → VK → Prop := fun xs H Q => ∃ (a C : Addr) (d : Option Addr) (c : V) (cv : Value) (b : Bool), xs = [.ref a, c] ∧ Xr K C ∧ H a = some (exo a C d) ∧ (∀ x, d = some x → ∃ fs, H x = some (exd x fs)) ∧ (∀ u, RelV c u → u = cv) ∧ PySem.W.kitOne K (.ref C) cv = some b ∧ Q (.bl b) H
theorem call_isX : CallR X (.builtin "isinstance") (rIsX X.K) := by
  intro pins s σ H xs us Q I r ⟨a, C, d, c, cv, b, exs, T, ea, hd, hc, e, q⟩
  subst exs
  cases r with
  | cons ra rr =>
    cases rr with
    | cons rc rr =>
      cases rr
      cases ra
      cases hc _ rc
      obtain ⟨t1, ho⟩ := exo_at I.hok ea
      obtain ⟨od, J⟩ : ∃ od, PySem.W.InstAt s.heap a { cls := .ref C, dict := d, data := .fields #[.ref t1, .none, .none, .none, .bool false, .none] } C od := by
        cases d with
        | none => exact ⟨none, ho, rfl, rfl, trivial⟩
        | some x =>
          obtain ⟨fs, hx⟩ := hd x rfl
          obtain ⟨mA, ns, _⟩ := exd_at I.hok hx
          obtain ⟨od, ho2, _⟩ := lookIn_ns ns
          exact ⟨some od, ho, rfl, rfl, ho2⟩
      have cl : (PySem.W.clsIn X.K C).isSome = true := by
        obtain ⟨cd, h1, _⟩ := PySem.W.any_some T.dct
        rw [h1]
        rfl
      exact PySem.W.kia_one (PySem.W.kitx_exc cl T.ga T.gg T.sb T.cl T.gs T.tk T.ob) I.kIn J e (fun z => nomatch z) fun tk => ⟨.bl b, H, I.kept (t' := tk) fun _ _ z => z, rfl, q⟩
end
end L3

/-! own exceptions made by keywords; those without an own __init__ -/
namespace L3
open PySem PySem.Spec PyProof.Rows L2 PySem.Calls
section
variable {prog : Program} {w : World} {A : Around} {E : Value → Shared → Prop} {R : Result → Shared → Prop} {h : Heap} {g : Array GenState} {d : Drawn} {t : Nat} {os : OsState} {kw : List (Str × Value)}
variable {nm q : Str} {C N fI : Addr} {bs bm bmB : List Value} {hdct : Bool} {sn : List Str} {sub : List Value} {ab : Bool} {col : Option Bool} {dd : Option Addr} {k0 k1 k2 k3 k5 : Option Value} {B nw ini : String}
theorem kw_new (F : ExcBaseFacts B nw ini bmB) (hT : ∀ X : String, bm.contains (.type X) = bmB.contains (.type X)) (hC : h.get? C = some (excClassObj nm q C N bs bm hdct sn sub ab col dd k0 k1 k2 k3 k5 nw))
    (k : R (.ok (.ret (.ref (h.objs.size + 1)))) ⟨(h.push (PySem.W.kdv_tup [])).push (PySem.HandSPX.excO C h.objs.size), g, d, t, os⟩) : codeAny (model prog w) A (.builtin nw ⟨[.ref C], kw⟩) R ⟨h, g, d, t, os⟩ := by
  have e0 := F.ends
  have e1 : (Value.ref C :: bm).contains (.type B) = true := by rw [List.contains_cons, hT B, F.hasB, Bool.or_true]
  have e2 : (Value.ref C :: bm).contains (.type "AttributeError") = false := by rw [List.contains_cons, hT "AttributeError", F.noAttr] <;> rfl
  have e3 : (Value.ref C :: bm).contains (.type "NameError") = false := by rw [List.contains_cons, hT "NameError", F.noName] <;> rfl
  refine codeAny_builtinAt F.entry ?_
  unfold Builtin.«BaseException.__new__»
  refine PySem.wpAt_bind ?_
  show PySem.wpAt _ _ _ (stack >>= _) _ _ _
  refine PySem.wpAt_bind (PySem.wpAt_stack fun p below => PySem.wpAt_of_wpAny ?_)
  wp_walk
  refine PySem.wpAt_of_wpAny ?_
  rw [F.owner]
  repeat (first
    | with_reducible refine wpAny_madeHere_exc F.canon hC ?_
    | with_reducible refine wpAny_loadPart_at hC ?_
    | (with_reducible refine wpAny_isSubtype_exc hC ?_; first | rw [e1] | rw [e2] | rw [e3])
    | wp_step)
  show R _ _
  rw [Heap.size_push]
  exact k
theorem kw_check (F : ExcBaseFacts B nw ini bmB) (hT : ∀ X : String, bm.contains (.type X) = bmB.contains (.type X)) {M : Model} {Q : Unit → Shared → Prop} (hC : h.get? C = some (excClassObj nm q C N bs bm hdct sn sub ab col dd k0 k1 k2 k3 k5 nw))
    (k : Q () ⟨h, g, d, t, os⟩) : wpAny M A (checkBuiltinCall nw ⟨[.ref C], kw⟩) Q E ⟨h, g, d, t, os⟩ := by
  have e1 : (Value.ref C :: bm).contains (.type B) = true := by rw [List.contains_cons, hT B, F.hasB, Bool.or_true]
  have e0 := F.noStar
  simp only [checkBuiltinCall, F.newSplit, F.newKind, F.newRow]
  repeat (first
    | refine wpAny_loadPart_at hC ?_
    | (refine wpAny_isSubtype_exc hC ?_; rw [e1])
    | refine wpAny_staticBase_exc hC ?_
    | refine wpAny_madeBy_exc hC ?_
    | simp only [bne_self_eq_false, Bool.false_eq_true, if_false]
    | wp_step)
  exact k
theorem kw_check2 {M : Model} {Q : Unit → Shared → Prop} (hC : h.get? C = some (excClassObj nm q C N bs bm hdct sn sub ab col dd k0 k1 k2 k3 k5 nw)) (k : Q () ⟨h, g, d, t, os⟩) : wpAny M A (checkBuiltinCall "type.__call__" ⟨[.ref C], kw⟩) Q E ⟨h, g, d, t, os⟩ := by
  have f3 := PySem.tc_sub
  have ty : (⟨h, g, d, t, os⟩ : Shared).TypeIs (.ref C) "type" := ⟨_, hC, rfl⟩
  simp only [checkBuiltinCall, PySem.tc_kind, PySem.tc_split]
  repeat (any_goals (first
    | assumption
    | with_reducible refine wpAny_loadPart_at hC ?_
    | with_reducible refine wpAny_onRaise ?_
    | with_reducible refine wpAny_map ?_
    | wp_step))
theorem kw_type (F : ExcBaseFacts B nw ini bmB) (hT : ∀ X : String, bm.contains (.type X) = bmB.contains (.type X)) {Q : Fin → Shared → Prop} (hC : h.get? C = some (excClassObj nm q C N bs bm hdct sn sub ab col dd k0 k1 k2 k3 k5 nw))
    (hi : PySem.W.Looks (model prog w) h (typeLookup (.ref C) "__init__") (some (.ref fI))) (hb : ∀ me, PySem.W.Looks (model prog w) h (bindSpecial (.ref fI) me) (.ref fI, [me]))
    (k : codeAny (model prog w) A (.call (.ref fI) ⟨[.ref (h.objs.size + 1)], kw⟩) (fun r s' => match r with | .ok (.ret v) => v = .none ∧ Q (.done (.ret (.ref (h.objs.size + 1)))) s' | .ok _ => False | .error e => E e s')
      ⟨(h.push (PySem.W.kdv_tup [])).push (PySem.HandSPX.excO C h.objs.size), g, d, t, os⟩) :
    wpAny (model prog w) A (Builtin.«type.__call__» ⟨[.ref C], kw⟩) Q E ⟨h, g, d, t, os⟩ := by
  repeat (first
    | with_reducible refine wpAny_loadPart_at hC ?_
    | with_reducible refine wpAny_madeBy_exc hC ?_
    | wp_step)
  refine codeAny_call_builtin_code (Code.quiet_builtin _ F.quiet) (kw_check F hT hC (kw_new F hT hC ?_))
  show wpAny _ _ _ _ _ _
  have kp : ∀ b o, h.get? b = some o → ((h.push (PySem.W.kdv_tup [])).push (PySem.HandSPX.excO C h.objs.size)).get? b = some o := fun b o z => Heap.get?_push_of_some _ (Heap.get?_push_of_some _ z)
  have gC := kp _ _ hC
  have ge : ((h.push (PySem.W.kdv_tup [])).push (PySem.HandSPX.excO C h.objs.size)).get? (h.objs.size + 1) = some (PySem.HandSPX.excO C h.objs.size) := by heap_get
  have e4 : (Value.ref C :: bm).contains (.ref C) = true := by simp
  unfold isInstance
  repeat (first
    | with_reducible refine wpAny_loadPart_at ge ?_
    | (with_reducible refine wpAny_isSubtype_exc gC ?_; rw [e4])
    | wp_step)
  show wpAny _ _ (typeLookup (.ref C) _) _ _ _
  refine (hi.keeps kp).at (wpAny_holding (wpAny_bind (((hb (.ref (h.objs.size + 1))).keeps kp).at (wpAny_bind (wpAny_call (codeAny_mono k fun r s' z => ?_))))))
  rcases r with e | (v | _ | _ | _) <;> first | exact z | exact z.elim | skip
  obtain ⟨rfl, z⟩ := z
  first
    | exact wpAny_pure (wpAny_pure z)
    | (wp_walk; exact z)
theorem kw_call (F : ExcBaseFacts B nw ini bmB) (hT : ∀ X : String, bm.contains (.type X) = bmB.contains (.type X)) (hC : h.get? C = some (excClassObj nm q C N bs bm hdct sn sub ab col dd k0 k1 k2 k3 k5 nw))
    (hi : PySem.W.Looks (model prog w) h (typeLookup (.ref C) "__init__") (some (.ref fI))) (hb : ∀ me, PySem.W.Looks (model prog w) h (bindSpecial (.ref fI) me) (.ref fI, [me]))
    (k : codeAny (model prog w) (A.under (.builtin "type.__call__" ⟨[.ref C], kw⟩)) (.call (.ref fI) ⟨[.ref (h.objs.size + 1)], kw⟩) (PySem.W.InitBack (h.objs.size + 1) R)
      ⟨(h.push (PySem.W.kdv_tup [])).push (PySem.HandSPX.excO C h.objs.size), g, d, t, os⟩) :
    codeAny (model prog w) A (.call (.ref C) ⟨[], kw⟩) R ⟨h, g, d, t, os⟩ := by
  have f1 := PySem.tc_lookup
  have f2 := PySem.tc_bind (.ref C)
  have ty : (⟨h, g, d, t, os⟩ : Shared).TypeIs (.ref C) "type" := ⟨_, hC, rfl⟩
  refine codeAny_of_tree ?_
  show wpAny _ _ (callAny (.ref C) _) _ _ _
  repeat (any_goals (first
    | assumption
    | with_reducible refine wpAny_loadPart_at hC ?_
    | wp_step))
  refine ⟨rfl, codeAny_call_builtin_at (Code.quiet_builtin _ (by decide +kernel)) entry_typeCall (kw_check2 hC (kw_type F hT hC hi hb (codeAny_mono k fun r s' z => ?_)))⟩
  rcases r with e | (v | _ | _ | _) <;> exact z
end
end L3

/-! rules: C(x=..), C() without an own __init__ -/
namespace L3
open PySem PySem.Spec PyProof.Rows L2
/-- an own class whose own __init__ is given keywords -/
structure Xk (P : Program) (w : World) (K : PySem.W.Frag) (mg : Str → Option Value) (base : Heap) (k : Nat) (C : Addr) (ps ks : List Str) (sp : Sp) (g : List Value → List Value → List Value) (gV : List V → List V → List V) : Prop where
  ex : ∃ (fI : Addr) (fd : FuncData), FnOk P w K mg base CX0 k fI fd ps sp ∧ PySem.W.findIn K (.ref C) "__init__" = some (some (.ref fI)) ∧ PySem.W.typeIn K (.ref fI) = some (.type "function") ∧ KBinds K fd ps ks g gV
/-- C(x=..): the exception itself -/
def tNewK (C : Addr) (sp : Sp) (gV : List V → List V → List V) (tk : TA) : TE := fun σ H Q => tk σ H fun zs H1 => ∀ a, H1 a = none → sp (gV [.ref a] zs) (upd H1 a (exo a C none)) (fun v H2 => v = .non ∧ Q (.ref a) H2) E0
section
variable {X : Cx} {e : Expr} {tk : TA} {kws : List Keyword} {p pos : Pos} {bmB : List Value} {B nw ini : String} {C : Addr}
theorem pe_newK {x : Str} {k : Nat} {ps ks : List Str} {sp : Sp} {g : List Value → List Value → List Value} {gV : List V → List V → List V} (FB : ExcBaseFacts B nw ini bmB) (T : Xc X.K C bmB nw) (D : Xk X.prog X.w X.K X.mg X.base k C ps ks sp g gV) (hr : Room (k + 1) X.A) (hm : X.mg x = some (.ref C)) (hkw : PK X kws tk) (hg : Gl X x := by rfl)
    (hdb : (x == ("__debug__" : Str)) = false := by decide) (hall : (backToKw pos (keywordEach kws X.env)).all (·.1.isSome) = true := by rfl) (hks : (backToKw pos (keywordEach kws X.env)).filterMap (·.1) = ks := by rfl)
    (hpl : ((backTo pos (starEach [] X.env)).any (·.1) || (backToKw pos (keywordEach kws X.env)).any (·.1.isNone)) = false := by rfl) : PE X (.Call (.Name x p) [] kws pos) (tNewK C sp gV tk) := by
  obtain ⟨fI, fd, F1, iC, tI, hb⟩ := D.ex
  refine ⟨fun pins s σ H Q I h => wpAny_Call_Name_kw (ld_glob I hg hm ?_ hdb)⟩
  refine PySem.W.callWith_KW0 (h₀ := X.base) I.ok.mod.kin T.kC hall (thn (hkw.run pos pins s σ H _ I h) fun ws s1 ⟨zs, H1, I1, rz, q1⟩ => ⟨I1.kIn, ?_⟩) hpl
  rw [hks]
  show wpAny _ _ (call (.ref C) [] (ks.zip ws)) _ _ _
  obtain ⟨nm, N, qn, bs, bm, hd, sn, sb, ab, col, dd, k0, k1, k2, k3, k5, hC, hT⟩ := PySem.W.excInit_of I1.kIn T.ini
  obtain ⟨hp, gg, dr, t, os⟩ := s1
  have fr : H1 (hp.objs.size + 1) = none := I1.hok.fresh (Nat.le_succ _)
  have J : Inv X pins σ (upd H1 (hp.objs.size + 1) (exo (hp.objs.size + 1) C none)) ⟨(hp.push (PySem.W.kdv_tup [])).push (PySem.HandSPX.excO C hp.objs.size), gg, dr, t, os⟩ :=
    I1.laid (t' := t) (fun b o q => Heap.get?_push_of_some _ (Heap.get?_push_of_some _ q)) (Nat.le_succ _) (exo_ok (by heap_get))
  have q2 := q1 _ fr
  have rv : Vals (gV [V.ref (hp.objs.size + 1)] zs) (g [Value.ref (hp.objs.size + 1)] ws) := hb.rel (.cons rfl .nil) rz
  have ln : (g [Value.ref (hp.objs.size + 1)] ws).length = ps.length := by
    rw [← rv.length]
    exact F1.len _ _ _ _ q2
  have bi := hb.to ⟨(hp.push (PySem.W.kdv_tup [])).push (PySem.HandSPX.excO C hp.objs.size), gg, dr, t, os⟩ [Value.ref (hp.objs.size + 1)] ws J.kIn ln
  refine wpAny_call (kw_call FB hT hC (PySem.W.looks_findIn I1.kIn iC) (fun me => PySem.W.bind_fn I1.kIn me tI) (codeAny_mono (F1.run _ X.stack _ _ ⟨[Value.ref (hp.objs.size + 1)], ks.zip ws⟩ _ _ _ E0 (hr.make C [] (ks.zip ws)) (J.env0.make C [] (ks.zip ws)) bi rv q2) fun r s' z => ?_))
  cases r with
  | error er => exact z.elim
  | ok fl =>
    cases fl with
    | ret u =>
      obtain ⟨v, H2, I2, r2, ev, q3⟩ := J.after z
      subst ev
      exact ⟨r2, .ref (hp.objs.size + 1), H2, I2, rfl, q3⟩
    | next => exact z.elim
    | brk => exact z.elim
    | cont => exact z.elim
theorem pe_new0 {x : Str} (FB : ExcBaseFacts B nw ini bmB) (q : PySem.W.excIn X.K C bmB nw = true) (hm : X.mg x = some (.ref C)) (kC : PySem.W.keepIn X.K (.ref C) = true) (hg : Gl X x := by rfl) (hdb : (x == ("__debug__" : Str)) = false := by decide) :
    PE X (.Call (.Name x p) [] [] pos) (fun _ H Q => ∀ a, H a = none → Q (.ref a) (upd H a (exo a C none))) := by
  refine ⟨fun pins s σ H Q I h => wpAny_Call_Name_kw (ld_glob I hg hm ?_ hdb)⟩
  refine PySem.W.callWith_KW0 (h₀ := X.base) (kws := []) I.ok.mod.kin kC rfl ?_ rfl
  show wpAny _ _ (evalAll []) _ _ _
  refine wpAny_pure ⟨I.kIn, ?_⟩
  show wpAny _ _ (call (.ref C) []) _ _ _
  obtain ⟨bm, N, nm, qn, bs, hd, sn, sb, ab, col, dd, k0, k1, k2, k3, k5, mN, hC, hN, hni, T⟩ := exc_obj I.kIn q
  refine wpAny_call_exc_subT FB T hC hN hni (fun h' a hm2 => ?_) (Nat.zero_le _)
  have fr : H a = none := I.hok.gone hm2.new
  obtain ⟨t, ht, _, _⟩ := hm2.there
  exact ⟨.ref a, _, I.laidN (o := exo a C none) hm2.keeps hm2.new fr (exo_ok ht), rfl, h a fr⟩
end
end L3

/-! raise C(..), C an own class over any built-in class of errors, its __init__ a def -/
namespace L3
open PySem L2
/-- what is flying: an exception of C with the fields fs -/
def tMkX (C : Addr) (sp : Sp) (ta : TA) : L2.St → Hp → XK → Prop := fun σ H Q => ta σ H fun vs H1 => vs.length ≤ 1000 ∧ ∀ a, H1 a = none →
  sp (.ref a :: vs) (upd H1 a (exo a C none)) (fun v H2 => v = .non ∧ ∃ (d : Addr) (fs : List (Str × V)), H2 a = some (exo a C (some d)) ∧ H2 d = some (exd d fs) ∧ H1 d = none ∧ Q (.ref C) (some d) (upd (del H2 a) d (.xd fs))) E0
section
variable {X : Cx} {e : Expr} {es : List Expr} {ta : TA} {p pos : Pos} {bmB : List Value} {B nw ini : String} {C : Addr}
theorem pmk_newX {x : Str} {k : Nat} {ps : List Str} {sp : Sp} (FB : ExcBaseFacts B nw ini bmB) (T : Xc X.K C bmB nw) (sb : PySem.W.subIn X.K (.ref C) (.type "BaseException") = some true) (ty : PySem.W.typeIn X.K (.ref C) = some (.type "type")) (D : Xi X.prog X.w X.K X.mg X.base k C ps sp) (hr : Room (k + 1) X.A) (hm : X.mg x = some (.ref C)) (ha : PA X (e :: es) ta) (hg : Gl X x := by rfl)
    (hdb : (x == ("__debug__" : Str)) = false := by decide) (he : starEach (e :: es) X.env = (false, eval e X.env) :: starEach es X.env := by rfl) (hpl : (backTo pos (starEach es X.env)).any (·.1) = false := by rfl) :
    PMk X (.Call (.Name x p) (e :: es) [] pos) (tMkX C sp ta) := by
  obtain ⟨fI, fd, F1, iC, tI, hb⟩ := D.ex
  intro pins s σ H Q I h
  refine wpAny_Call_Name_kw (ld_glob I hg hm ?_ hdb)
  refine PySem.W.callWith_K (h₀ := X.base) I.ok.mod.kin T.kC (thn (ha.run pos pins s σ H _ I h) fun us s1 ⟨vs, H1, I1, r1, hz, q1⟩ => ⟨I1.kIn, ?_⟩) he hpl
  show wpAny _ _ (call (.ref C) us) _ _ _
  obtain ⟨nm, N, qn, bs, bm, hd, sn, sbb, ab, col, dd, k0, k1, k2, k3, k5, hC, hT⟩ := PySem.W.excInit_of I1.kIn T.ini
  obtain ⟨hp, g, dr, tk, os⟩ := s1
  have lz : us.length ≤ sizeLine := by rw [← r1.length, sizeLine_eq]; omega
  have hsz : hp.objs.size ≤ hp.objs.size + 1 := Nat.le_succ _
  have fr : H1 (hp.objs.size + 1) = none := I1.hok.fresh hsz
  have kk : ∀ b o, hp.get? b = some o → ((hp.push (PySem.W.kdv_tup us)).push (PySem.HandSPX.excO C hp.objs.size)).get? b = some o := fun b o q => Heap.get?_push_of_some _ (Heap.get?_push_of_some _ q)
  have J : Inv X pins σ (upd H1 (hp.objs.size + 1) (exo (hp.objs.size + 1) C none)) ⟨(hp.push (PySem.W.kdv_tup us)).push (PySem.HandSPX.excO C hp.objs.size), g, dr, tk, os⟩ :=
    I1.laid (t' := tk) kk hsz (exo_ok (by heap_get))
  have q2 := q1 _ fr
  have rv : Vals (V.ref (hp.objs.size + 1) :: vs) (Value.ref (hp.objs.size + 1) :: us) := .cons rfl r1
  have ln : (Value.ref (hp.objs.size + 1) :: us ++ []).length = ps.length := by
    rw [List.append_nil, ← rv.length]
    exact F1.len _ _ _ _ q2
  have bi := hb ⟨(hp.push (PySem.W.kdv_tup us)).push (PySem.HandSPX.excO C hp.objs.size), g, dr, tk, os⟩ _ J.kIn ln
  rw [List.append_nil] at bi
  refine wpAny_call (PySem.HandSPX.call_own FB hT hC (PySem.W.looks_findIn I1.kIn iC) (fun self => PySem.W.bind_fn I1.kIn self tI) lz (codeAny_mono (F1.run _ X.stack _ _ ⟨Value.ref (hp.objs.size + 1) :: us, []⟩ (Value.ref (hp.objs.size + 1) :: us) _ _ E0 (hr.make C us []) (J.env0.make C us []) bi rv q2) fun r s' z => ?_))
  cases r with
  | error er => exact z.elim
  | ok fl =>
    cases fl with
    | ret u =>
      obtain ⟨v, H2, os2, bare2, un2, hok2, rvv, ⟨ev, d, fs, ea, ed, hd1, q3⟩⟩ := z
      subst ev
      obtain ⟨h2, g2, d2, t2, os'⟩ := s'
      exact ⟨rvv, mk_end (raises_own sb ty) I1 hsz kk un2 hok2 os2 bare2 ea ed hd1 q3⟩
    | next => exact z.elim
    | brk => exact z.elim
    | cont => exact z.elim
end
end L3

namespace L3
open PySem L2
def inS (s : Stmt) (j : Nat) : Stmt := match s with
  | .ClassDef _ _ _ body _ _ _ _ _ _ _ => body.getD j (.Pass ⟨0, 0, 0, 0⟩)
  | s => s
/-! the error classes -/
abbrev mroV : List Value := [.type "ValueError", .type "Exception", .type "BaseException", .type "object"]
abbrev mroL : List Value := [.type "LookupError", .type "Exception", .type "BaseException", .type "object"]
abbrev mroR : List Value := [.type "RuntimeError", .type "Exception", .type "BaseException", .type "object"]
def spI1 (K : PySem.W.Frag) (bm : List Value) (nw : String) (f : Str) : Sp := fun vs H Q _ => ∃ (a C : Addr) (v : V), vs = [.ref a, v] ∧ Xc K C bm nw ∧ PySem.W.takerIn K C f = some none ∧ H a = some (exo a C none) ∧ ∀ d, H d = none → d ≠ a → Q .non (upd (upd H d (exd d [(f, v)])) a (exo a C (some d)))
def spI2 (K : PySem.W.Frag) (bm : List Value) (nw : String) (f g : Str) : Sp := fun vs H Q _ => ∃ (a C : Addr) (v u : V), vs = [.ref a, v, u] ∧ Xc K C bm nw ∧ PySem.W.takerIn K C f = some none ∧ PySem.W.takerIn K C g = some none ∧ H a = some (exo a C none) ∧
  ∀ d, H d = none → d ≠ a → Q .non (upd (upd (upd H d (exd d [(f, v)])) a (exo a C (some d))) d (exd d [(g, u), (f, v)]))
/-! how their arguments stand when they are given by keywords -/
def g1 : List Value → List Value → List Value
  | [s], [x] => [s, x]
  | _, _ => []
def gV1 : List V → List V → List V
  | [s], [x] => [s, x]
  | _, _ => []
def g2 : List Value → List Value → List Value
  | [s], [x, y] => [s, y, x]
  | _, _ => []
def gV2 : List V → List V → List V
  | [s], [x, y] => [s, y, x]
  | _, _ => []
theorem kb1 {K : PySem.W.Frag} {fd : FuncData} {f : Str} (h : ∀ (s : Shared) (a b : Value), BindsTo s fd ⟨[a], [(f, b)]⟩ [("self", a), (f, b)]) : KBinds K fd ["self", f] [f] g1 gV1 where
  to := fun s us ws _ hl => by
    match us, ws, hl with
    | [a], [b], _ => exact h s a b
    | [], _, hl => cases hl
    | [_], [], hl => cases hl
    | [_], _ :: _ :: _, hl => cases hl
    | _ :: _ :: _, _, hl => cases hl
  rel := fun r rz => by
    cases r with
    | nil => exact .nil
    | cons a r =>
      cases r with
      | nil =>
        cases rz with
        | nil => exact .nil
        | cons b rz =>
          cases rz with
          | nil => exact .cons a (.cons b .nil)
          | cons => exact .nil
      | cons => exact .nil
theorem kb2 {K : PySem.W.Frag} {fd : FuncData} {f g : Str} (h : ∀ (s : Shared) (a b d : Value), BindsTo s fd ⟨[a], [(g, b), (f, d)]⟩ [("self", a), (f, d), (g, b)]) : KBinds K fd ["self", f, g] [g, f] g2 gV2 where
  to := fun s us ws _ hl => by
    match us, ws, hl with
    | [a], [b, d], _ => exact h s a b d
    | [], _, hl => cases hl
    | [_], [], hl => cases hl
    | [_], [_], hl => cases hl
    | [_], _ :: _ :: _ :: _, hl => cases hl
    | _ :: _ :: _, _, hl => cases hl
  rel := fun r rz => by
    cases r with
    | nil => exact .nil
    | cons a r =>
      cases r with
      | nil =>
        cases rz with
        | nil => exact .nil
        | cons b rz =>
          cases rz with
          | nil => exact .nil
          | cons d rz =>
            cases rz with
            | nil => exact .cons a (.cons d (.cons b .nil))
            | cons => exact .nil
      | cons => exact .nil
/-- a class of one field -/
structure E1 (P : Program) (w : World) (K : PySem.W.Frag) (mg : Str → Option Value) (base : Heap) (x f : Str) (bm : List Value) (nw : String) (C : Addr) : Prop where
  hm : mg x = some (.ref C)
  T : Xc K C bm nw
  R : Xr K C
  tk : PySem.W.takerIn K C f = some none
  no : PySem.W.findIn K (.ref C) f = some none
  I : Xi P w K mg base 1 C ["self", f] (spI1 K bm nw f)
  J : Xk P w K mg base 1 C ["self", f] [f] (spI1 K bm nw f) g1 gV1
  cd : ∃ cd, PySem.W.clsIn K C = some cd ∧ cd.mro = .ref C :: bm
  ty : PySem.W.typeIn K (.ref C) = some (.type "type")
/-- a class of two fields -/
structure E2 (P : Program) (w : World) (K : PySem.W.Frag) (mg : Str → Option Value) (base : Heap) (x f g : Str) (bm : List Value) (nw : String) (C : Addr) : Prop where
  hm : mg x = some (.ref C)
  T : Xc K C bm nw
  R : Xr K C
  tk : PySem.W.takerIn K C f = some none
  tk2 : PySem.W.takerIn K C g = some none
  no : PySem.W.findIn K (.ref C) f = some none
  no2 : PySem.W.findIn K (.ref C) g = some none
  I : Xi P w K mg base 1 C ["self", f, g] (spI2 K bm nw f g)
  J : Xk P w K mg base 1 C ["self", f, g] [g, f] (spI2 K bm nw f g) g2 gV2
  cd : ∃ cd, PySem.W.clsIn K C = some cd ∧ cd.mro = .ref C :: bm
  ty : PySem.W.typeIn K (.ref C) = some (.type "type")
/-- the class without fields -/
structure E0c (K : PySem.W.Frag) (mg : Str → Option Value) (x : Str) (bm : List Value) (nw : String) (C : Addr) : Prop where
  hm : mg x = some (.ref C)
  q : PySem.W.excIn K C bm nw = true
  kC : PySem.W.keepIn K (.ref C) = true
  R : Xr K C
  cd : ∃ cd, PySem.W.clsIn K C = some cd ∧ cd.mro = .ref C :: bm
  ty : PySem.W.typeIn K (.ref C) = some (.type "type")
end L3

namespace L3
open PySem L2
section
variable {P : Program} {w : World} {K : PySem.W.Frag} {mg : Str → Option Value} {base : Heap}
abbrev s_OutOfTerm___init__ : Stmt := inS (topS 1) 0
abbrev N_OutOfTerm___init__ : List Str := ["self", "place"]
theorem sc_OutOfTerm___init__ : FnScope N_OutOfTerm___init__ ["self", "place"] (defScope s_OutOfTerm___init__) := ⟨rfl, rfl, rfl, by decide +kernel, rfl, by decide +kernel, by decide +kernel⟩
theorem i_OutOfTerm {f : Addr} {fd : FuncData} (F : Fun K "__init__" "OutOfTerm.__init__" s_OutOfTerm___init__ f fd) : FnOk P w K mg base CX0 1 f fd ["self", "place"] (spI1 K mroL "LookupError.__new__" "place") := by
  refine F.ok sc_OutOfTerm___init__ (fun vs H Q E h => ?_) (fun cdv A outer s H vs Q E hr h => ?_)
  · obtain ⟨a, C, v, rfl, _⟩ := h
    rfl
  · obtain ⟨a, C, v, rfl, T, ht, ha, k⟩ := h
    exact ⟨_, (pss_one (ps_setX (nw := "LookupError.__new__") PySem.F.store_LookupError (pv 0) (pv 1))), _, rfl, _, rfl, a, C, rfl, T, ht, .inl ⟨ha, k⟩⟩
/-- the parts of a term -/
def ptsD (d : PyData) : List PyData := (partsD d).getD []
/-- a term, not wide -/
def Trm (d : PyData) : Prop := isTermD d = true ∧ shD d = true
/-- the part at a place, if it is one -/
def stepT (m : PyData) : PyData → Option PyData
  | .int i => if 0 ≤ i ∧ i < (ptsD m).length then (ptsD m)[i.toNat]? else none
  | _ => none
def walkT (m : PyData) : List PyData → Option PyData
  | [] => some m
  | d :: ds => (stepT m d).bind fun m' => walkT m' ds
def atT (m : PyData) : PyData → Option PyData
  | .tuple ds => walkT m ds
  | _ => none
theorem walkT_take {m : PyData} : ∀ {ds : List PyData} {i : Nat} {d : PyData}, ds[i]? = some d → walkT m (ds.take (i + 1)) = (walkT m (ds.take i)).bind fun m' => stepT m' d := by
  intro ds
  induction ds generalizing m with
  | nil => intro i d h; cases h
  | cons e ds ih =>
    intro i d h
    cases i with
    | zero =>
      cases h
      show (stepT m e).bind (fun m' => some m') = some m >>= fun m' => stepT m' e
      show (stepT m e).bind (fun m' => some m') = stepT m e
      cases stepT m e <;> rfl
    | succ i =>
      have h' : ds[i]? = some d := h
      show (stepT m e).bind (fun m' => walkT m' (ds.take (i + 1))) = ((stepT m e).bind fun m' => walkT m' (ds.take i)).bind fun m' => stepT m' d
      cases q : stepT m e with
      | none => rfl
      | some m1 => exact ih h'
theorem walkT_none {m : PyData} : ∀ {ds : List PyData} {i : Nat}, walkT m (ds.take i) = none → walkT m ds = none := by
  intro ds
  induction ds generalizing m with
  | nil => intro i h; simpa using h
  | cons e ds ih =>
    intro i h
    cases i with
    | zero => cases h
    | succ i =>
      have h' : (stepT m e).bind (fun m' => walkT m' (ds.take i)) = none := h
      show (stepT m e).bind (fun m' => walkT m' ds) = none
      cases q : stepT m e with
      | none => rfl
      | some m1 =>
        rw [q] at h'
        exact ih h'
theorem trm_parts {m : PyData} (h : Trm m) : partsD m = some (ptsD m) ∧ ∀ p ∈ ptsD m, Trm p := by
  cases e : partsD m with
  | none =>
    have := isTerm_no e
    rw [h.1] at this
    cases this
  | some ps =>
    have ep : ptsD m = ps := by
      unfold ptsD
      rw [e]
      rfl
    rw [ep]
    refine ⟨rfl, fun p hp => ⟨?_, shL_mem (partsD_sh h.2 e) hp⟩⟩
    have := isTerm_yes e
    rw [h.1] at this
    exact List.all_eq_true.mp this.symm p hp
abbrev s_part_at : Stmt := topS 27
abbrev N_part_at : List Str := ["term", "place", "part", "k", "parts"]
theorem sc_part_at : FnScope N_part_at ["term", "place"] (defScope s_part_at) := ⟨rfl, rfl, rfl, by decide +kernel, rfl, by decide +kernel, by decide +kernel⟩
/-- C is OutOfTerm's class -/
def spAt (C : Addr) : Sp := fun vs H Q E => ∃ (t : Addr) (v u : V) (m d : PyData), vs = [v, u] ∧ Da t H v m ∧ Trm m ∧ Da t H u d ∧ (∀ H' r m', Same H H' → atT m d = some m' → Da t H' r m' → Q r H') ∧
  (atT m d = none → ∀ H' dx, Same H H' → H' dx = some (.xd [("place", u)]) → E (.ref C) (some dx) H')
theorem ok_at {C : Addr} {f : Addr} {fd : FuncData} (F : Fun K "part_at" "part_at" s_part_at f fd) (B : Bl mg) (B9 : Bl9 mg) (X_OutOfTerm : E1 P w K mg base "OutOfTerm" "place" mroL "LookupError.__new__" C) (D_parts_in : Kn P w K mg base 5 "parts_in" ["value"] spParts) (D_is_integer : Kn P w K mg base 1 "is_integer" ["value"] spInt) : FnOk P w K mg base (L2.CX P w) 6 f fd ["term", "place"] (spAt C) := by
  refine F.okX sc_part_at (fun vs H Q E h => ?_) (fun cdv A outer s H vs Q E hr h => ?_)
  · obtain ⟨t, v, u, m, d, rfl, _⟩ := h
    rfl
  · obtain ⟨t, v, u, m, d, rfl, hd, ho, hu, k, kE⟩ := h
    have hu64 := hr.units
    have hr_parts_in : Room 5 _ := hr
    have hr_is_integer : Room 1 _ := hr.mono (by decide)
    have hr2 : Room 2 _ := hr.mono (by decide)
    refine ⟨_, (pss_cons (ps_if (pt_not (pt_val (pe_callB call_isi (by rfl) B9.isinstance PyProof.Rows.boot_isinstance (pa_cons (pv 1) (pa_cons (pe_bltn (v := .ty "tuple") (by rfl) B9.tuple (by decide +kernel) rfl) pa_nil)))))
  (pss_one (ps_raise rfl (takes_of rfl rfl rfl rfl) (pmk_newX PySem.F.excBase_LookupError X_OutOfTerm.T X_OutOfTerm.R.sb X_OutOfTerm.ty X_OutOfTerm.I hr2 X_OutOfTerm.hm (pa_cons (pv 1) pa_nil))))
  pss_nil)
  (pss_cons (ps_set (i := 2) sc_part_at.nd rfl (Or.inl rfl) (pv 0))
  (pss_cons (ps_for (passes_of rfl) rfl (pi_tup (pv 1)) (pg_name (i := 3) sc_part_at.nd rfl (Or.inl rfl))
  (pss_cons (ps_set (i := 4) sc_part_at.nd rfl (Or.inl rfl) (pe_kn D_parts_in hr_parts_in (pa_cons (pv 2) pa_nil)))
  (pss_cons (ps_if (PW.pt (pw_or (pt_not (pt_val (pe_kn D_is_integer hr_is_integer (pa_cons (pv 3) pa_nil)))) (pw_or1 (pt_not (pt_chain op_le op_lt pe_int (pv 3) (pe_callB call_len (by rfl) B.len PySem.boot_len (pa_cons (pv 4) pa_nil)))))))
  (pss_one (ps_raise rfl (takes_of rfl rfl rfl rfl) (pmk_newX PySem.F.excBase_LookupError X_OutOfTerm.T X_OutOfTerm.R.sb X_OutOfTerm.ty X_OutOfTerm.I hr2 X_OutOfTerm.hm (pa_cons (pv 1) pa_nil))))
  pss_nil)
  (pss_one (ps_set (i := 2) sc_part_at.nd rfl (Or.inl rfl) (pe_ix ix_list (pv 4) (pv 3) (fun _ _ => rfl)))))))
  (pss_one (ps_ret (pv 2)))))), ?_⟩
    have raise : ∀ (σ : L2.St) (H1 : Hp), Same H H1 → σ[1]? = some (some u) → atT m d = none → tMkX C (spI1 K mroL "LookupError.__new__" "place") (tCons (tVar 1) tNil) σ H1 (fun cls d H' => E cls d H') := fun σ H1 s1 hσ hn => by
      refine ⟨u, hσ, by simp, fun a ha => ⟨a, C, u, rfl, X_OutOfTerm.T, X_OutOfTerm.tk, upd_same, fun dx hdx nd => ⟨rfl, dx, [("place", u)], upd_same, by rw [upd_ne nd, upd_same], by rw [upd_ne nd] at hdx; exact hdx, kE hn _ dx (s1.trans fun b o q => ?_) upd_same⟩⟩⟩
      rw [upd_ne nd] at hdx
      have nb : b ≠ dx := fun z => by rw [z, hdx] at q; cases q
      have na : b ≠ a := fun z => by rw [z, ha] at q; cases q
      rw [upd_ne nb, del_ne na, upd_ne na, upd_ne nb, upd_ne na]
      exact q
    refine ⟨_, rfl, u, .ty "tuple", .type (tyName d), .type "tuple", isTup d, rfl, .ty "tuple", hu.ty, kit_tup d, _, rfl, ?_⟩
    cases ht : isTup d with
    | false =>
      refine iT rfl ?_
      exact raise _ H (Same.refl H) rfl (by cases d <;> first | rfl | cases ht)
    | true =>
      obtain ⟨ds, rfl⟩ : ∃ ds, d = .tuple ds := by
        cases d with
        | tuple ds => exact ⟨ds, rfl⟩
        | _ => cases ht
      refine iF rfl ?_
      cases id hu with
      | @tup au us _ gu du =>
        have lu := du.len
        refine ⟨_, rfl, ?_⟩
        refine ⟨_, rfl, au, rfl, ⟨_, SqT.of gu⟩, for_it walk_tup (fun i σ H' => Same H H' ∧ ∃ (p : V) (m' : PyData) (v3 v4 : Option V), σ = [some v, some (.ref au), some p, v3, v4] ∧ walkT m (ds.take i) = some m' ∧ Trm m' ∧ Da t H p m') ⟨Same.refl _, v, m, none, none, rfl, rfl, ho, hd⟩ (fun i σ H' _ h => SqT.of (h.1 _ _ gu)) ?_ ?_⟩
        · rintro i y σ H1 H2 hi ⟨s1, p, m', v3, v4, rfl, hw, hok, hp⟩ ⟨rfl, ey⟩
          obtain ⟨e, ee, de⟩ := da_at du ey
          have wt := walkT_take (m := m) ee
          rw [hw] at wt
          have wt : walkT m (ds.take (i + 1)) = stepT m' e := wt
          obtain ⟨ep, hok2⟩ := trm_parts hok
          refine ⟨_, rfl, t, p, m', H, rfl, s1, hp, hok.2, fun z => (by rw [ep] at z; cases z), fun ps eps H3 l ws s3 _ gl dl => ?_⟩
          obtain rfl : ps = ptsD m' := by rw [ep] at eps; exact (Option.some.inj eps).symm
          have S3 := s1.trans s3
          unfold gName
          dsimp only
          have bad : stepT m' e = none → atT m (.tuple ds) = none := fun z => walkT_none (by rw [wt, z])
          refine ⟨_, rfl, t, y, e, rfl, de.kp (kp_same S3), ?_⟩
          refine ⟨_, rfl, ?_⟩
          cases hi2 : isIntD e with
          | false =>
            refine iT rfl ?_
            exact raise _ H3 S3 rfl (bad (by cases e <;> first | rfl | cases hi2))
          | true =>
            obtain ⟨n, rfl⟩ : ∃ n, e = .int n := by
              cases e with
              | int n => exact ⟨n, rfl⟩
              | _ => cases hi2
            cases de
            refine iF rfl ?_
            have ln : ws.length = (ptsD m').length := by
              exact dl.len
            refine ⟨_, rfl, _, _, rfl, rfl, _, rfl, ?_⟩
            by_cases h1 : (0 : Int) ≤ n
            · refine iT (decide_eq_true h1) ?_
              refine ⟨_, rfl, .ref l, ws.length, rfl, .inl ⟨_, SqL.of gl, rfl⟩, _, _, rfl, rfl, _, rfl, ?_⟩
              by_cases h2 : n < (ws.length : Int)
              · refine iF (by rw [decide_eq_true h2]; rfl) ?_
                have hn : n.toNat < (ptsD m').length := by omega
                have es : stepT m' (.int n) = some (ptsD m')[n.toNat] := by
                  show (if 0 ≤ n ∧ n < ((ptsD m').length : Int) then (ptsD m')[n.toNat]? else none) = _
                  rw [if_pos ⟨h1, by omega⟩, List.getElem?_eq_getElem hn]
                obtain ⟨dd, ed, dw⟩ := da_at dl (List.getElem?_eq_getElem (show n.toNat < ws.length by omega))
                have edd : dd = (ptsD m')[n.toNat] := by
                  rw [List.getElem?_eq_getElem hn] at ed
                  exact (Option.some.inj ed).symm
                rw [edd] at dw
                refine ⟨_, rfl, _, rfl, l, ws, n, _, rfl, rfl, SqL.of gl, at_of (show n = ((n.toNat : Nat) : Int) by omega) (List.getElem?_eq_getElem (show n.toNat < ws.length by omega)), ?_⟩
                exact ⟨S3, _, _, _, _, rfl, by rw [wt, es], hok2 _ (List.getElem_mem hn), dw⟩
              · refine iT (by rw [decide_eq_false h2]; rfl) ?_
                refine raise _ H3 S3 rfl (bad ?_)
                show (if 0 ≤ n ∧ n < ((ptsD m').length : Int) then (ptsD m')[n.toNat]? else none) = none
                rw [if_neg (by omega)]
            · refine iF (decide_eq_false h1) ?_
              refine ⟨_, rfl, iT rfl ?_⟩
              refine raise _ H3 S3 rfl (bad ?_)
              show (if 0 ≤ n ∧ n < ((ptsD m').length : Int) then (ptsD m')[n.toNat]? else none) = none
              rw [if_neg (fun z => h1 z.1)]
        · rintro σ H1 ⟨s1, p, m', v3, v4, rfl, hw, hok, hp⟩
          rw [List.take_of_length_le (by omega)] at hw
          exact ⟨_, rfl, k _ p m' s1 hw (hp.kp (kp_same s1))⟩
end
end L3

/-! sets of texts whose table can be walked: a new one, add, set(xs), len, sorted -/
namespace L3
open PySem PySem.Spec PyProof.Rows L2
/-- the text put in ahead, if it is new -/
def insL (k : Str) (L : List Str) : List Str := if k ∈ L then L else k :: L
def setL : List Str → List Str → List Str
  | L, [] => L
  | L, x :: xs => setL (insL x L) xs
theorem insL_mem {k x : Str} {L : List Str} : x ∈ insL k L ↔ x = k ∨ x ∈ L := by
  unfold insL
  by_cases h : k ∈ L
  · rw [if_pos h]
    exact ⟨.inr, fun z => z.elim (fun e => e ▸ h) id⟩
  · rw [if_neg h, List.mem_cons]
theorem insL_nodup {k : Str} {L : List Str} (h : L.Nodup) : (insL k L).Nodup := by
  unfold insL
  by_cases c : k ∈ L
  · rw [if_pos c]; exact h
  · rw [if_neg c]; exact List.nodup_cons.mpr ⟨c, h⟩
theorem insL_len {k : Str} {L : List Str} : (insL k L).length ≤ L.length + 1 := by
  unfold insL
  by_cases c : k ∈ L
  · rw [if_pos c]; omega
  · rw [if_neg c]; exact Nat.le_refl _
theorem setL_mem {x : Str} : ∀ {xs L : List Str}, x ∈ setL L xs ↔ x ∈ xs ∨ x ∈ L
  | [], L => by simp [setL]
  | y :: xs, L => by
    rw [setL, setL_mem, insL_mem, List.mem_cons]
    constructor
    · rintro (h | h | h)
      · exact .inl (.inr h)
      · exact .inl (.inl h)
      · exact .inr h
    · rintro ((h | h) | h)
      · exact .inr (.inl h)
      · exact .inl h
      · exact .inr (.inr h)
theorem setL_nodup : ∀ {xs L : List Str}, L.Nodup → (setL L xs).Nodup
  | [], _, h => h
  | x :: xs, L, h => by
    rw [setL]
    exact setL_nodup (insL_nodup h)
theorem setL_len : ∀ {xs L : List Str}, (setL L xs).length ≤ L.length + xs.length
  | [], L => by simp [setL]
  | x :: xs, L => by
    have h1 := setL_len (xs := xs) (L := insL x L)
    have h2 := insL_len (k := x) (L := L)
    rw [setL, List.length_cons]
    omega
theorem setL_snoc {x : Str} : ∀ {xs L : List Str}, setL L (xs ++ [x]) = insL x (setL L xs)
  | [], _ => rfl
  | _ :: xs, _ => setL_snoc (xs := xs)
/-- as many as there are texts: they are all different -/
theorem setL_nodup_len {xs : List Str} : (setL [] xs).length = xs.length ↔ xs.Nodup := by
  have key : ∀ {xs L : List Str}, (setL L xs).length = L.length + xs.length ↔ xs.Nodup ∧ ∀ x ∈ xs, x ∉ L := by
    intro xs
    induction xs with
    | nil => intro L; simp [setL]
    | cons x xs ih =>
      intro L
      rw [setL]
      by_cases c : x ∈ L
      · have e : insL x L = L := if_pos c
        rw [e]
        have h := setL_len (xs := xs) (L := L)
        constructor
        · intro z
          rw [List.length_cons] at z
          omega
        · rintro ⟨_, z⟩
          exact absurd c (z x List.mem_cons_self)
      · have e : insL x L = x :: L := if_neg c
        rw [e, List.length_cons, show L.length + (xs.length + 1) = (x :: L).length + xs.length from by rw [List.length_cons]; omega, ih, List.nodup_cons]
        constructor
        · rintro ⟨h1, h2⟩
          refine ⟨⟨fun z => h2 x z List.mem_cons_self, h1⟩, fun y hy => ?_⟩
          rcases List.mem_cons.mp hy with rfl | hy
          · exact c
          · exact fun z => h2 y hy (List.mem_cons_of_mem _ z)
        · rintro ⟨⟨h1, h2⟩, h3⟩
          refine ⟨h2, fun y hy z => ?_⟩
          rcases List.mem_cons.mp z with rfl | z
          · exact h1 hy
          · exact h3 y (List.mem_cons_of_mem _ hy) z
  have := key (xs := xs) (L := [])
  rw [show ([] : List Str).length + xs.length = xs.length from Nat.zero_add _] at this
  rw [this]
  exact ⟨fun z => z.1, fun z => ⟨z, fun _ _ => List.not_mem_nil⟩⟩
/-- the texts, each once, ascending -/
def Asc (L ss : List Str) : Prop := ss.Perm L ∧ sortedS ss = true
/-! ### at the model -/
def TxS (P : Program) (w : World) (h : Heap) (a : Addr) (L : List Str) : Prop :=
  ∃ D : Froz.SD, h.get? a = some (Froz.sObj "set" D) ∧ Froz.TxOk P w D L ∧ Ris D.2.2.place.toList ∧ (w.params.followText "set-order" = true ∨ D.2.2.led = true) ∧ L.Nodup
theorem TxS.at {P : Program} {w : World} {h h' : Heap} {a : Addr} {L : List Str} (R : TxS P w h a L) (k : ∀ o, h.get? a = some o → h'.get? a = some o) : TxS P w h' a L := by
  obtain ⟨D, g, r⟩ := R
  exact ⟨D, k _ g, r⟩
theorem txS_fresh {P : Program} {w : World} {h : Heap} {a : Addr} (g : h.get? a = some { cls := .type "set", dict := none, data := .set #[] 0 (.fresh 0 0 (!w.params.followText "set-order")) }) : TxS P w h a [] := by
  refine ⟨(#[], 0, .fresh 0 0 (!w.params.followText "set-order")), g, Froz.TxOk.nil rfl, List.Pairwise.nil, ?_, List.nodup_nil⟩
  show _ ∨ (!w.params.followText "set-order") = true
  cases w.params.followText "set-order" with
  | false => exact .inr rfl
  | true => exact .inl rfl
/-- the table behind an add can be walked too -/
theorem addTx_ris {hh : Int} {v : Value} {D : Froz.SD} (r : Ris D.2.2.place.toList) : Ris (Froz.addTx hh v D).2.2.place.toList := by
  have q := layNew_ris D.2.2 D.1 hh v r
  unfold Froz.addTx Froz.tailTx
  generalize layNew D.2.2 D.1 hh v = Z at q ⊢
  obtain ⟨es, t, b, gv⟩ := Z
  dsimp only at q ⊢
  by_cases c : (!b && (if t.plain = true then { t with plain := false } else t).tooFull) = true
  · rw [if_pos c]
    exact relayAll_ris _ _ _
  · rw [if_neg c]
    by_cases p : t.plain = true
    · rw [if_pos p]; exact q
    · rw [if_neg p]; exact q
theorem addTx_led {hh : Int} {v : Value} {D : Froz.SD} : (Froz.addTx hh v D).2.2.led = D.2.2.led := by
  have q := layNew_led D.2.2 D.1 hh v
  unfold Froz.addTx Froz.tailTx
  generalize layNew D.2.2 D.1 hh v = Z at q ⊢
  obtain ⟨es, t, b, gv⟩ := Z
  dsimp only at q ⊢
  have e : (if t.plain = true then { t with plain := false } else t).led = D.2.2.led := by
    by_cases p : t.plain = true
    · rw [if_pos p]; exact q
    · rw [if_neg p]; exact q
  by_cases c : (!b && (if t.plain = true then { t with plain := false } else t).tooFull) = true
  · rw [if_pos c]
    exact (relayAll_led _ _ _).trans e
  · rw [if_neg c]
    exact e
section
variable {P : Program} {w : World} {A : Around} {E : Value → Shared → Prop} {s : Shared} {a : Addr} {L : List Str}
/-- a text that is in it already -/
theorem tx_again {D : Froz.SD} {k : Str} {u : Tok} {Q : Bool → Shared → Prop} (g : s.heap.get? a = some (Froz.sObj "set" D)) (F : Froz.TxOk P w D L) (hk : k ∈ L) (hb : L.length < scanBound) (h : Q false s) :
    wpAny (model P w) A (setAddHashed a (.str k u) (hashStr w k)) Q E s := by
  obtain ⟨es, ep, t⟩ := D
  have sz : es.size = L.length := F.sz
  have el : ElemsOf (strKind P w) es.toList := F.el
  have ft : t.fits es.size = true := F.fit
  have dt : (Froz.sObj "set" (es, ep, t)).data = .set es ep t := rfl
  obtain ⟨e, he, ie⟩ := (F.mem k).mp hk
  unfold setAddHashed setAddHashedIn
  refine wpAny_holding (wpAny_bind (wpAny_setState_of g dt ft ?_))
  dsimp only
  rw [byScan_of rfl (by omega) el]
  simp only [↓reduceIte]
  unfold setAddByScan
  refine wpAny_bind (wpAny_bind (wpAny_rule (wpAny_bind (wpAny_setScan_of (knd := strKind P w) (k := k) (Froz.is_str k u) g dt ft el ?_))))
  cases hf : List.findIdx? (fun e => (strKind P w).is k e.2) es.toList with
  | none =>
    have n := List.findIdx?_eq_none_iff.mp hf e he
    rw [ie] at n
    cases n
  | some j => exact wpAny_pure (wpAny_pure h)
/-- a text put in -/
theorem tx_ins {k : Str} {u : Tok} {Q : Bool → Shared → Prop} (R : TxS P w s.heap a L) (hb : L.length + 1 < scanBound) (h : ∀ b h', Heap.SameBut a s.heap h' → TxS P w h' a (insL k L) → Q b { s with heap := h' }) :
    wpAny (model P w) A (setAddHashed a (.str k u) (hashStr w k)) Q E s := by
  obtain ⟨D, g, F, r, l, nd⟩ := R
  by_cases c : k ∈ L
  · refine tx_again g F c (by omega) (h false s.heap (Heap.SameBut.refl a s.heap) ?_)
    rw [show insL k L = L from if_pos c]
    exact ⟨D, g, F, r, l, nd⟩
  · refine Froz.add_x g F c hb (h true _ (Heap.SameBut.update s.heap a _) ?_)
    rw [show insL k L = k :: L from if_neg c]
    exact ⟨_, Froz.get_upd _ g rfl, Froz.add_ok u F, addTx_ris r, l.imp id fun z => by rw [addTx_led]; exact z, List.nodup_cons.mpr ⟨c, nd⟩⟩
end
end L3

/-! set(xs) of a list or a tuple of texts, len and sorted of it -/
namespace L3
open PySem PySem.Spec PyProof.Rows L2
section
variable {P : Program} {w : World} {A : Around} {E : Value → Shared → Prop} {s : Shared}
/-- the loop that takes all texts of a walk into the set -/
theorem tx_loop {R : Result → Shared → Prop} {I S : Addr} {fp wr : List Addr} {G : Array GenState → Array GenState → Prop} {n : Nat} {Pv : Nat → Value → Prop} {St : Nat → Shared → Prop}
    (W : WalksS P w A.in1 I fp wr G n Pv St) (nS : S ∉ fp) (xs : List Str) (hn : n = xs.length) (hb : xs.length + 1 < scanBound) (hv : ∀ i v, Pv i v → ∃ x t, xs[i]? = some x ∧ v = .str x t) :
    ∀ (m i : Nat) (s : Shared), n - i = m → i ≤ n → St i s → TxS P w s.heap S (setL [] (xs.take i)) → (∀ s', Moved (S :: wr) G s s' → TxS P w s'.heap S (setL [] xs) → R (.ok (.ret .none)) s') →
      codeAny (model P w) A (.builtin "set.update.loop" ⟨[.ref S, .ref I], []⟩) R s := by
  have nw : S ∉ wr := fun z => nS (W.sub _ z)
  have wide : ∀ b ∈ wr, b ∈ S :: wr := fun b z => List.mem_cons_of_mem _ z
  intro m
  induction m with
  | zero =>
    intro i s e hi st hS k
    obtain rfl : i = n := by omega
    rw [hn, List.take_length] at hS
    refine codeAny_builtin F.entry_set_update_loop ?_
    rw [Around.under_plainId F.plain_set_update_loop _]
    show wpAny _ A.in1 (pyNext (.ref I) >>= _) _ _ s
    refine wpAny_bind (W.done s _ _ st fun s1 mv => ?_)
    show wpAny _ A.in1 (ret Value.none) _ _ s1
    exact wpAny_pure (k s1 (mv.mono wide) (hS.at fun o z => mv.heap S o nw z))
  | succ m ih =>
    intro i s e hi st hS k
    have lt : i < n := by omega
    refine codeAny_builtin F.entry_set_update_loop ?_
    rw [Around.under_plainId F.plain_set_update_loop _]
    show wpAny _ A.in1 (pyNext (.ref I) >>= _) _ _ s
    refine wpAny_bind (W.item i s _ _ lt st fun v s1 pv st1 mv => ?_)
    obtain ⟨x, t, ex, rfl⟩ := hv i v pv
    have hS1 : TxS P w s1.heap S (setL [] (xs.take i)) := hS.at fun o z => mv.heap S o nw z
    show wpAny _ A.in1 (holding [Value.str x t] (setAdd S (.str x t)) >>= _) _ _ s1
    refine wpAny_bind (wpAny_holding ?_)
    unfold setAdd
    refine wpAny_holding (wpAny_bind ((PySem.strKind P w).pyHash (k := x) (Froz.is_str x t) ?_))
    have room : (setL [] (xs.take i)).length + 1 < scanBound := by
      have h1 := setL_len (xs := xs.take i) (L := [])
      rw [List.length_take, List.length_nil] at h1
      omega
    refine tx_ins (s := { s1 with toks := s1.toks + 1 }) hS1 room fun b h' sb hS2 => ?_
    rw [← setL_snoc, show xs.take i ++ [x] = xs.take (i + 1) from by rw [List.take_add_one, ex]; rfl] at hS2
    refine wpAny_pure ⟨plainId_quiet F.plain_set_update_loop _, ih (i + 1) _ (by omega) lt (W.frame _ s1 _ _ st1 (Nat.le_succ _) fun c hc o z => ?_) hS2 fun s2 mv2 hS3 => k s2 (Moved.trans W.gtrans ((mv.mono wide).then_heap (Nat.le_succ _) fun c o hc z => ?_) mv2) hS3⟩
    · rw [sb.2 c fun q : c = S => nS (q ▸ hc)]
      exact z
    · rw [sb.2 c fun q : c = S => hc (q ▸ List.mem_cons_self)]
      exact z
/-- a list or a tuple as what is walked -/
theorem row_iter {h1 : Heap} {l : Addr} {items : Array Value} (hl : h1.IsList l items ∨ h1.IsTuple l items) : ∃ T od nl os, h1.get? l = some { cls := .type T, dict := od, data := .seq items nl, slots := os } ∧
    isSubtype (.type T) (.type "set") = pure false ∧ isSubtype (.type T) (.type "frozenset") = pure false ∧ (Value.type T == Value.type "dict") = false ∧
    ∃ (it : Obj) (St : Nat → Shared → Prop), (∀ (A : Around) (E : Value → Shared → Prop) (s1 : Shared) (Q : Value → Shared → Prop), s1.heap = h1 → Q (.ref h1.objs.size) { s1 with heap := h1.push it } → wpAny (model P w) A (pyIter (.ref l)) Q E s1) ∧
      (∀ s1 : Shared, s1.heap = h1.push it → St 0 s1) ∧ ∀ A : Around, A.handled = none → WalksS P w A h1.objs.size [h1.objs.size, l] [h1.objs.size] (fun a b => b = a) items.size (fun i v => items[i]? = some v) St := by
  rcases hl with hl | hl
  · obtain ⟨⟨c, od, dt, os⟩, ho, hc, nl, hd⟩ := id hl
    simp only at hc hd
    subst hc hd
    have ne : l ≠ h1.objs.size := Nat.ne_of_lt (Heap.lt_size ho)
    refine ⟨"list", od, nl, os, ho, F.sub_list_set, F.sub_list_frozenset, by decide, { cls := .type "list_iterator", data := .fields #[.ref l, .int 0 0] }, fun i s => s.heap.IsListIter h1.objs.size l i ∧ s.heap.IsList l items, fun A E s1 Q e q => ?_, fun s1 e => ?_, fun A hh => (Walks.list hh _ l ne items).toS⟩
    · subst e
      exact wpAny_pyIter_list hl q
    · dsimp only
      rw [e]
      exact ⟨⟨_, Heap.get?_push_size _ rfl, rfl, rfl⟩, hl.push _⟩
  · obtain ⟨⟨c, od, dt, os⟩, ho, hc, nl, hd⟩ := id hl
    simp only at hc hd
    subst hc hd
    have ne : l ≠ h1.objs.size := Nat.ne_of_lt (Heap.lt_size ho)
    refine ⟨"tuple", od, nl, os, ho, F.sub_tuple_set, F.sub_tuple_frozenset, by decide, { cls := .type "tuple_iterator", data := .fields #[.ref l, .int 0 0] }, fun i s => s.heap.IsTupleIter h1.objs.size l i ∧ s.heap.IsTuple l items, fun A E s1 Q e q => ?_, fun s1 e => ?_, fun A hh => (Walks.tuple hh _ l ne items).toS⟩
    · subst e
      exact wpAny_pyIter_tuple hl q
    · dsimp only
      rw [e]
      exact ⟨⟨_, Heap.get?_push_size _ rfl, rfl, rfl⟩, hl.push _⟩
/-- set(xs), xs a list or a tuple of texts: a new set -/
theorem tx_call {l : Addr} {items : Array Value} {xs : List Str} {Q : Value → Shared → Prop} (hh : A.handled = none) (hl : s.heap.IsList l items ∨ s.heap.IsTuple l items) (hx : StrsAre items.toList xs) (hb : xs.length + 1 < scanBound)
    (h : ∀ (h' : Heap) (tk : Nat), TxS P w h' s.heap.objs.size (setL [] xs) → (∀ b o, s.heap.get? b = some o → h'.get? b = some o) → Q (.ref s.heap.objs.size) { s with heap := h', toks := tk }) :
    wpAny (model P w) A (call (.type "set") [.ref l]) Q E s := by
  have hlen : items.size = xs.length := by rw [← StrsAre.len_eq hx, Array.length_toList]
  obtain ⟨c, tl, hmro⟩ := F.called_set.mro
  have hmade := F.called_set.made
  have hsub := F.called_set.sub
  refine wpAny_call (codeAny_of_tree (show wpAny _ _ (callAny (.type "set") _) _ _ _ from wpAny_pure ⟨Code.quiet_builtin _ (by decide +kernel), codeAny_builtin F.entry_type_call ?_⟩))
  rw [Around.under_plain (weight_type_call_type "set" [.ref l] []) rfl]
  have h1 := F.called_set.notType
  have h2 := F.called_set.canCreate
  have hct := F.typeCall_set_1 (.ref l)
  repeat (any_goals (first | assumption | wp_step))
  generalize hN : ({ cls := .type "set", dict := none, data := .set #[] 0 (.fresh 0 0 (!w.params.followText "set-order")) } : Obj) = N
  refine codeAny_mono (code_set_led1 (.ref l) (E := E) (Q₁ := fun o s1 => o = .ref s.heap.objs.size ∧ s1 = { s with heap := s.heap.push N }) ⟨rfl, by rw [← hN]⟩) fun r s1 hr => ?_
  cases r with
  | error e => exact hr
  | ok f =>
  cases f with
  | ret o =>
    obtain ⟨rfl, rfl⟩ := hr
    have gN : (s.heap.push N).get? s.heap.objs.size = some N := Heap.get?_push_size _ (by rw [← hN]; rfl)
    have hT : Shared.TypeIs { s with heap := s.heap.push N } (.ref s.heap.objs.size) "set" := ⟨N, gN, by rw [← hN]⟩
    have hli := F.called_set.init.lookup
    have hbi := F.called_set.init.bind (.ref s.heap.objs.size)
    repeat (any_goals (first | assumption | wp_step))
    refine codeAny_mono (codeAny_call_builtin (R := wants (fun r s2 => r = .none ∧ ∃ h' tk, s2 = { s with heap := h', toks := tk } ∧ TxS P w h' s.heap.objs.size (setL [] xs) ∧ ∀ b o, s.heap.get? b = some o → h'.get? b = some o) E) F.called_set.init.plain F.entry_set_init (check_set_init_1 hT ?_)) fun r2 s2 hr2 => ?_
    · have hl1 : (s.heap.push N).IsList l items ∨ (s.heap.push N).IsTuple l items := hl.imp (fun z => z.push _) fun z => z.push _
      obtain ⟨T, od, nl, os, hol', hsls, hslf, hne, it, St, hit, st0, W⟩ := row_iter (P := P) (w := w) hl1
      have ll : l < s.heap.objs.size := by
        rcases hl with ⟨o, ho, _⟩ | ⟨o, ho, _⟩ <;> exact Heap.lt_size ho
      subst hN
      unfold Builtin.«set.__init__» noKeywords Builtin.Frozenset.updateFrom
      generalize hPI : pyIter = PI
      wp_walk
      subst hPI
      refine hit _ _ _ _ (by rfl) ?_
      refine wpAny_bind (wpAny_runValue ?_)
      have nS : s.heap.objs.size ∉ [(s.heap.push { cls := .type "set", dict := none, data := .set #[] 0 (.fresh 0 0 (!w.params.followText "set-order")) }).objs.size, l] := by
        rw [Heap.size_push]
        intro z
        rcases List.mem_cons.mp z with z | z
        · exact Nat.succ_ne_self _ z.symm
        · exact absurd (List.mem_singleton.mp z) (Nat.ne_of_gt ll)
      refine tx_loop (W _ (by simp [hh])) nS xs hlen hb (fun i v hv => ?_) (items.size - 0) 0 _ (by omega) (Nat.zero_le _) (st0 _ rfl) ?_ ?_
      · obtain ⟨t, rfl⟩ := SS.strs_at hx i v (by rw [Array.getElem?_toList]; exact hv)
        have li : i < xs.length := by
          rw [← hlen]
          exact (Array.getElem?_eq_some_iff.mp hv).1
        exact ⟨xs[i], t, List.getElem?_eq_getElem li, by rw [List.getD_eq_getElem?_getD, List.getElem?_eq_getElem li]; rfl⟩
      · refine txS_fresh ?_
        exact Heap.get?_push_of_some _ gN
      · intro s' mv hS'
        obtain ⟨h', g', d', tk', os'⟩ := s'
        have eg : g' = s.gens := mv.gens
        have ed : d' = s.drawn := mv.drawn
        have eo : os' = s.os := mv.os
        subst eg ed eo
        show wpAny _ _ _ _ _ _
        refine wpAny_pure ?_
        show wpAny _ _ (ret Value.none) _ _ _
        refine wpAny_pure ⟨rfl, h', tk', rfl, hS', fun b o z => mv.heap b o (fun q => ?_) (Heap.get?_push_of_some _ (Heap.get?_push_of_some _ z))⟩
        have lb := Heap.lt_size z
        rcases List.mem_cons.mp q with q | q
        · exact absurd q (Nat.ne_of_lt lb)
        · rw [List.mem_singleton, Heap.size_push] at q
          exact absurd q (Nat.ne_of_lt (Nat.lt_succ_of_lt lb))
    · cases r2 with
      | error e => exact hr2
      | ok f2 =>
        cases f2 with
        | ret r =>
          obtain ⟨rfl, h', tk, rfl, hS', hk⟩ := hr2
          repeat (any_goals (first | assumption | wp_step))
          exact h _ _ hS' hk
        | _ => exact hr2.elim
  | _ => exact hr.elim
end
end L3

/-! sets of texts over the layer: set(xs), len(s), sorted(s), {e for x in xs if ..} -/
namespace L3
open PySem PySem.Spec PyProof.Rows L2
/-- the set of the texts L at a -/
def TxO (P : Program) (w : World) (a : Addr) (L : List Str) : HO := .ext fun h => TxS P w h a L
theorem txO_new {P : Program} {w : World} {H : Hp} {h : Heap} {a : Addr} {L : List Str} (R : TxS P w h a L) : ObjOk P w H h a (TxO P w a L) := by
  have R' := R
  obtain ⟨D, g, _⟩ := R'
  exact ⟨R, ⟨_, g⟩, fun h1 h2 p k => TxS.at p k⟩
section
variable {X : Cx}
theorem txO_get {pins : List (Addr × Obj)} {σ : L2.St} {H : Hp} {s : Shared} {a : Addr} {L : List Str} (I : Inv X pins σ H s) (ha : H a = some (TxO X.prog X.w a L)) : TxS X.prog X.w s.heap a L := (I.hok a _ ha).1
/-- set(xs) -/
def rSetTx (K : PySem.W.Frag) (P : Program) (w : World) : List V → Hp → VK → Prop := fun vs H Q => ∃ (l : Addr) (xs : List Str), vs = [.ref l] ∧ (SqL K H l (xs.map V.str) ∨ SqT K H l (xs.map V.str)) ∧ xs.length < 4000 ∧ ∀ p, H p = none → Q (.ref p) (upd H p (TxO P w p (setL [] xs)))
theorem cr_setTx (hc : X.calm = true) : CallR X (.type "set") (rSetTx X.K X.prog X.w) := by
  intro pins s σ H vs us Q I r h
  obtain ⟨l, xs, rfl, hq, hb, q⟩ := h
  rw [Vals.ref1 r]
  have row : ∃ its : List Value, (s.heap.IsList l its.toArray ∨ s.heap.IsTuple l its.toArray) ∧ Vals (xs.map V.str) its := by
    rcases hq with hq | hq
    · obtain ⟨its, rv, pl, _⟩ := I.list hq
      exact ⟨its, .inl pl.isList, rv⟩
    · obtain ⟨its, rv, pl, _⟩ := I.tuple hq
      exact ⟨its, .inr pl, rv⟩
  obtain ⟨its, pl, rv⟩ := row
  refine tx_call (I.ok.hd hc) pl (by simpa using strsAre_of rv) (by unfold scanBound; omega) fun h' tk hS k => ?_
  exact ⟨.ref _, _, I.laid (o := TxO X.prog X.w s.heap.objs.size (setL [] xs)) (t' := tk) k (Nat.le_refl _) (txO_new hS), rfl, q _ (I.hok.fresh (Nat.le_refl _))⟩
/-- len(s) -/
def rLenTx (P : Program) (w : World) : List V → Hp → VK → Prop := fun vs H Q => ∃ (a : Addr) (L : List Str), vs = [.ref a] ∧ H a = some (TxO P w a L) ∧ L.length < 4000 ∧ Q (.int L.length) H
theorem cr_lenTx : CallR X (.builtin "len") (rLenTx X.prog X.w) := by
  intro pins s σ H vs us Q I r h
  obtain ⟨a, L, rfl, ha, hb, q⟩ := h
  rw [Vals.ref1 r]
  obtain ⟨D, g, F, _⟩ := txO_get I ha
  have sz : D.1.size = L.length := F.sz
  exact call_len_set g ⟨rfl, rfl, rfl⟩ rfl F.fit (by omega) ⟨.int L.length, H, I.tok _, ⟨_, by rw [sz]⟩, q⟩
/-- sorted(s) -/
def rSortTx (P : Program) (w : World) : List V → Hp → VK → Prop := fun vs H Q => ∃ (a : Addr) (L : List Str), vs = [.ref a] ∧ H a = some (TxO P w a L) ∧ L.length < 4000 ∧ ∀ p ss, H p = none → Asc L ss → Q (.ref p) (upd H p (.lst (ss.map V.str)))
theorem vals_strs : ∀ {us : List Value} {ss : List Str}, StrsAre us ss → Vals (ss.map V.str) us
  | _, _, .nil => .nil
  | _, _, .cons x t h => .cons ⟨t, rfl⟩ (vals_strs h)
theorem strs_all : ∀ {vs : List Value}, (∀ v ∈ vs, ∃ x t, v = Value.str x t) → ∃ ss, StrsAre vs ss
  | [], _ => ⟨[], .nil⟩
  | v :: vs, h => by
    obtain ⟨x, t, rfl⟩ := h v List.mem_cons_self
    obtain ⟨ss, r⟩ := strs_all fun u hu => h u (List.mem_cons_of_mem _ hu)
    exact ⟨x :: ss, .cons x t r⟩
theorem strsAre_mem : ∀ {vs : List Value} {ss : List Str} {x : Str}, StrsAre vs ss → (x ∈ ss ↔ ∃ t, Value.str x t ∈ vs)
  | _, _, x, .nil => by simp
  | _, _, x, .cons y t h => by
    rw [List.mem_cons, strsAre_mem h]
    constructor
    · rintro (rfl | ⟨u, hu⟩)
      · exact ⟨t, List.mem_cons_self⟩
      · exact ⟨u, List.mem_cons_of_mem _ hu⟩
    · rintro ⟨u, hu⟩
      rcases List.mem_cons.mp hu with e | hu
      · cases e
        exact .inl rfl
      · exact .inr ⟨u, hu⟩
theorem perm_of_sub : ∀ {L M : List Str}, L.Nodup → (∀ x ∈ L, x ∈ M) → M.length = L.length → M.Perm L
  | [], M, _, _, e => by rw [List.length_eq_zero_iff.mp e]
  | x :: L, M, nd, h, e => by
    obtain ⟨n1, n2⟩ := List.nodup_cons.mp nd
    have hx := h x List.mem_cons_self
    have p := List.perm_cons_erase hx
    refine p.trans (List.Perm.cons x (perm_of_sub n2 (fun y hy => ?_) ?_))
    · have ne : y ≠ x := fun z => n1 (z ▸ hy)
      exact (List.mem_erase_of_ne ne).mpr (h y (List.mem_cons_of_mem _ hy))
    · rw [List.length_erase_of_mem hx, e]
      rfl
theorem sortedTx {P : Program} {w : World} {A : Around} {E : Value → Shared → Prop} {s : Shared} {a : Addr} {L : List Str} {Q : Value → Shared → Prop} (R : TxS P w s.heap a L) (hh : A.handled = none) (hb : L.length < 4000)
    (h : ∀ s' p (out : Array Value) (c : Nat) (ss : List Str), (∀ b o, s.heap.get? b = some o → s'.heap.get? b = some o) → s'.gens = s.gens → s'.os = s.os → s.heap.objs.size ≤ p → s'.heap.get? p = some (seqObj "list" out c) → StrsAre out.toList ss → Asc L ss → Q (.ref p) s') :
    wpAny (model P w) A (call (.builtin "sorted") [.ref a]) Q E s := by
  obtain ⟨D, g, F, r, l, nd⟩ := R
  have sz : D.1.size = L.length := F.sz
  refine Calls.call_function_entry kind_sorted plain_sorted entry_sorted (args_sorted1 _) ?_
  unfold Builtin.«sorted»
  refine wpAny_bind (m := checkCount "sorted" 1 1 _) (wpAny_pure (wpAny_bind (collect_set (A := A.in1) hh ⟨_, g, rfl, rfl⟩ F.fit (by unfold scanBound; omega) r l fun s1 vs k1 z1 g1 o1 pm => ?_)))
  have all : ∀ v ∈ vs, ∃ x t, v = Value.str x t := fun v hv => by
    obtain ⟨e, he, q⟩ := List.mem_map.mp (pm.mem_iff.mp hv)
    obtain ⟨⟨k, ik, _⟩, _⟩ := F.el e he
    obtain ⟨t, et⟩ := Value.isStrOf_shape ik
    exact ⟨k, t, by rw [← q]; exact et⟩
  obtain ⟨ss0, hs0⟩ := strs_all all
  have ln : vs.length = L.length := by rw [pm.length_eq, List.length_map, Array.length_toList]; exact sz
  have l0 : ss0.length = L.length := by rw [← StrsAre.len_eq hs0]; exact ln
  have mem0 : ∀ x, x ∈ ss0 ↔ x ∈ L := fun x => by
    rw [strsAre_mem hs0, F.mem x]
    constructor
    · rintro ⟨t, ht⟩
      obtain ⟨e, he, q⟩ := List.mem_map.mp (pm.mem_iff.mp ht)
      exact ⟨e, he, by rw [q]; exact Froz.is_str x t⟩
    · rintro ⟨e, he, q⟩
      obtain ⟨t, et⟩ := Value.isStrOf_shape q
      exact ⟨t, pm.mem_iff.mpr (List.mem_map.mpr ⟨e, he, et⟩)⟩
  have p0 : ss0.Perm L := perm_of_sub nd (fun x hx => (mem0 x).mpr hx) l0
  refine wpAny_bind (wpAny_newList ?_ (by rw [ln, sizeLine_eq]; omega))
  have oL : (s1.heap.push (seqObj "list" vs.toArray 0)).get? s1.heap.objs.size = some (seqObj "list" vs.toArray 0) := Heap.get?_push_size _ rfl
  refine wpAny_bind (wpAny_holding (wpAny_call_entry slot_list_sort ⟨_, oL, rfl⟩ entry_list_sort (list_sort_treeKAny strKind_oneLt oL hs0.keysOf (fun v₁ v₂ rest e => keyKind_strs (by rw [← e]; exact hs0)) (by rw [ln, sizeLine_eq]; omega) fun st' hp hs => ⟨_, rfl, ?_⟩) (args_list_sort _)))
  obtain ⟨ss, q1, q2, q3⟩ := sorted_out_str hs0 hp hs
  obtain ⟨c, hc⟩ := sortedHeap_at (vs := vs) (out := (arrOf st').map (·.2)) oL
  refine wpAny_pure ⟨_, rfl, h _ s1.heap.objs.size _ c ss (fun b o e => ?_) g1 o1 z1 hc q1 ⟨q2.trans p0, q3⟩⟩
  have e1 := k1 b o e
  have lt := Heap.lt_size e1
  show (sortedHeap (s1.heap.push (seqObj "list" vs.toArray 0)) s1.heap.objs.size vs ((arrOf st').map (·.2))).get? b = some o
  rw [sortedHeap_old (Nat.ne_of_lt lt) (by rw [size_push']; exact Nat.lt_succ_of_lt lt)]
  exact Heap.get?_push_of_some _ e1
theorem cr_sortTx (hc : X.calm = true) : CallR X (.builtin "sorted") (rSortTx X.prog X.w) := by
  intro pins s σ H vs us Q I r h
  obtain ⟨a, L, rfl, ha, hb, q⟩ := h
  rw [Vals.ref1 r]
  refine sortedTx (txO_get I ha) (I.ok.hd hc) hb fun s' p out c ss k g o hp hg hS asc => ?_
  have hn : H p = none := I.hok.fresh hp
  have lz : (ss.map V.str).length ≤ sizeLine := by rw [List.length_map, asc.1.length_eq, sizeLine_eq]; omega
  have J : Inv X pins σ (upd H p (.lst (ss.map V.str))) { s with heap := s'.heap, gens := s'.gens, drawn := s'.drawn, toks := s'.toks } :=
    I.call (ch := []) (Un.laid k hp hn) (I.hok.laid k hp ⟨lz, out.toList, c, vals_strs hS, hg⟩) (by rw [g]; exact I.bare) fun _ z => nomatch z
  obtain ⟨h', g', d', t', o'⟩ := s'
  obtain rfl : o' = s.os := o
  exact ⟨.ref p, _, J, rfl, q p ss hn asc⟩
end
end L3

/-! {e for x in xs if ..}, e a text -/
namespace L3
open PySem PySem.Spec PyProof.Rows L2
/-- what a turn is to reach -/
def tScT (P : Program) (w : World) (wi : TI) (g : TG) (tt : TT) (te : TE) (vs : List Nat) : TE := fun σ H Q => wi σ H fun J H1 => ∀ D, H1 D = none → ∃ W : Nat → Nat → Hp → Prop, (∃ m, W 0 m (upd H1 D (TxO P w D []))) ∧ ∀ i m H, W i m H →
  (J.stop i H ∧ Q (.ref D) H) ∨ (J.go i H ∧ ∃ Nx : Hp → Prop, (∀ H', Nx H' → ∃ m', m' < m ∧ W (i + 1) m' H') ∧ ∀ x H', J.yld i H x H' → g x (wipe σ vs) H' fun σ2 H2 => wipe σ2 vs = wipe σ vs ∧ tt σ2 H2 fun b H3 =>
    if b = true then te σ2 H3 fun y H4 => ∃ (c : Str) (L : List Str), y = .str c ∧ H4 D = some (TxO P w D L) ∧ L.length < 3000 ∧ Nx (upd H4 D (TxO P w D (insL c L))) else Nx H3)
section
variable {X : Cx}
theorem addTx_ok {pins : List (Addr × Obj)} {σ : L2.St} {H : Hp} {s : Shared} {E : Value → Shared → Prop} {D : Addr} {L : List Str} {c : Str} {t : Tok} {Q : Value → Shared → Prop} (I : Inv X pins σ H s) (hD : H D = some (TxO X.prog X.w D L)) (hb : L.length < 3000)
    (k : ∀ s', Inv X pins σ (upd H D (TxO X.prog X.w D (insL c L))) s' → Q .none s') : wpAny (model X.prog X.w) X.A (call (.builtin "set.add") [.ref D, .str c t]) Q E s := by
  have R := txO_get I hD
  obtain ⟨T, g, _⟩ := id R
  have hT : s.TypeIs (.ref D) "set" := ⟨_, g, rfl⟩
  refine wpAny_call_entry F.slot_set_add hT F.entry_set_add ?_ (F.args_set_add_2 _ _)
  unfold Builtin.«set.add» Builtin.Frozenset.oneOther
  simp only [List.isEmpty_nil, bind_assoc]
  unfold Builtin.Frozenset.addrOf setAdd
  refine wpAny_bind (wpAny_pure ?_)
  try dsimp only
  refine wpAny_bind (wpAny_pure ?_)
  try dsimp only
  refine wpAny_bind (wpAny_holding (wpAny_bind ((PySem.strKind X.prog X.w).pyHash (k := c) (Froz.is_str c t) ?_)))
  refine tx_ins (s := { s with toks := s.toks + 1 }) R (by unfold scanBound; omega) fun b h' sb hS => ?_
  show wpAny _ _ (ret Value.none) _ _ _
  have R2 := hS
  obtain ⟨T2, g2, _⟩ := R2
  exact wpAny_pure ⟨_, rfl, k _ (I.write (e := D) (t' := s.toks + 1) (by rw [hD]; trivial) (.inl rfl) (fun b u n z => (sb.2 b n).trans z) ⟨_, g2⟩ (txO_new hS))⟩
theorem pe_scT {elt tg iter : Expr} {ifs : List Expr} {scope : Scope} {own : List (Str × Nat)} {pos : Pos} {wi : TI} {g : TG} {tt : TT} {te : TE} (calm : X.calm = true) (nd : X.N.Nodup) (hi : PI X tg iter wi) (ok : BlkOk X.N X.env.scope scope own)
    (hg : ∀ (s : Shared) (H : Hp) (C : Addr) (cl : List (Str × Addr)) (fp : List Addr), PG (X.blk s H scope (compEnvC scope cl C X.env) fp) tg g)
    (ht : ∀ (s : Shared) (H : Hp) (C : Addr) (cl : List (Str × Addr)) (fp : List Addr), PTs (X.blk s H scope (compEnvC scope cl C X.env) fp) ifs tt)
    (he : ∀ (s : Shared) (H : Hp) (C : Addr) (cl : List (Str × Addr)) (fp : List Addr), PE (X.blk s H scope (compEnvC scope cl C X.env) fp) elt te)
    (hfold : ∀ x, foldedSetIterable iter X.env x = pure x := by intro _; rfl) :
    PE X (.SetComp elt [⟨tg, iter, ifs, 0⟩] scope pos) (tScT X.prog X.w wi g tt te (own.map (·.2))) := by
  refine ⟨fun pins s σ H Q I h => ?_⟩
  rw [PpSet.eval_SetComp]
  have free : ∀ y ∈ scope.names, y.2 = .free → ∃ c, X.env.cells.lookup y.1 = some c := fun y hy q => (ok.free y hy q).elim (fun k => I.ok.has _ (.inl k)) (fun k => I.ok.has _ (.inr k))
  have last : ∀ {D C : Addr} {s' : Shared} {m : Str → Option Value} {H' : Hp}, Inv X pins σ H' s' → Q (.ref D) H' → s'.heap.Ns C m → FpOk X pins H' C → compPost (model X.prog X.w) X.A X.xe none (EP X pins σ Q) (.ref D) C (.ok .next) s' := by
    intro D C s' m H' I' q hn f
    obtain ⟨f0, f1, f2, f3, f4, f5⟩ := f
    exact ⟨m, hn, fun h'' sb => ⟨.ref D, H', I'.turned (t' := s'.toks) (fun c o n q => (sb.2 c n).trans q) f0 f1 f3 f4 f5, rfl, q⟩⟩
  refine wpAny_comprehension_free (use := none) rfl hfold (closure_ok free) ok.kind (fun y hy q => by rw [ok.uniq y hy, q]) (thn (hi.run pins s σ H _ I h) fun xv s1 hx => thn hx fun itv s2 come => ?_)
  obtain ⟨it, fp, tn, J, H2, ev, I2, T, st2, F2, q⟩ := come
  subst ev
  refine PpSet.newSet_ok (newEnv_comp ?_)
  generalize eD : s2.heap.objs.size = D
  obtain ⟨W, ⟨m0, w0⟩, turn⟩ := q D (I2.hok.fresh (Nat.le_of_eq eD))
  generalize eN : ({ cls := .type "set", dict := none, data := .set #[] 0 (.fresh 0 0 (!X.w.params.followText "set-order")) } : Obj) = N
  have at3 : (s2.heap.push N).get? D = some N := by
    rw [← eD, ← eN]
    exact Heap.get?_push_size _ rfl
  have k3 : ∀ c o, s2.heap.get? c = some o → (s2.heap.push N).get? c = some o := fun c o q => Heap.get?_push_of_some _ q
  have R3 : TxS X.prog X.w (s2.heap.push N) D [] := txS_fresh (by rw [eN]; exact at3)
  have I3 : Inv X pins σ (upd H2 D (TxO X.prog X.w D [])) { s2 with heap := s2.heap.push N } := I2.laid (t' := s2.toks) k3 (Nat.le_of_eq eD) (txO_new R3)
  have st3 : tn 0 (s2.heap.push N) := T.keep _ _ _ st2 fun c _ o q => k3 c o q
  have lt3 : ∀ c ∈ fp, c < s2.heap.objs.size := fun c m => let ⟨_, q, _⟩ := T.obj _ _ st2 c m; Heap.lt_size q
  have F3 : ∀ c ∈ fp, FpOk X pins (upd H2 D (TxO X.prog X.w D [])) c ∧ c < (s2.heap.push N).objs.size := fun c m => by
    refine ⟨⟨?_, (F2 c m).2⟩, ?_⟩
    · rw [upd_ne (by rw [← eD]; exact Nat.ne_of_lt (lt3 c m))]
      exact (F2 c m).1
    · obtain ⟨_, q, _⟩ := T.obj _ _ st3 c m
      exact Heap.lt_size q
  generalize e3 : ({ s2 with heap := s2.heap.push N } : Shared) = s3 at I3 ⊢
  have h3 : s3.heap = s2.heap.push N := by rw [← e3]
  rw [← h3] at F3 st3
  generalize eH : upd H2 D (TxO X.prog X.w D []) = H3 at I3 F3 w0 ⊢
  have I4 := block_start I3 ok nd F3
  have pg := hg s3 H3 s3.heap.objs.size (cellsFrom (s3.heap.objs.size + 1) scope.names (cloFrom X.env.cells scope.names [])) fp
  have pt := ht s3 H3 s3.heap.objs.size (cellsFrom (s3.heap.objs.size + 1) scope.names (cloFrom X.env.cells scope.names [])) fp
  have pe := he s3 H3 s3.heap.objs.size (cellsFrom (s3.heap.objs.size + 1) scope.names (cloFrom X.env.cells scope.names [])) fp
  show codeAny _ _ (.compStart (.SetComp elt [⟨tg, iter, ifs, 0⟩] scope pos) 0 (.ref it) (.ref D) (compEnvC scope (cellsFrom (s3.heap.objs.size + 1) scope.names (cloFrom X.env.cells scope.names [])) s3.heap.objs.size X.env)) (compPost _ _ _ none (EP X pins σ Q) (.ref D) s3.heap.objs.size) { s3 with heap := pushCells (s3.heap.push { cls := .type "dict", data := .dict #[] }) scope.names }
  generalize ec : compEnvC scope (cellsFrom (s3.heap.objs.size + 1) scope.names (cloFrom X.env.cells scope.names [])) s3.heap.objs.size X.env = ce at I4 pg pt pe ⊢
  have cl : ce.locals = s3.heap.objs.size := by rw [← ec]; rfl
  generalize e4 : ({ s3 with heap := pushCells (s3.heap.push { cls := .type "dict", data := .dict #[] }) scope.names } : Shared) = s4 at I4 ⊢
  have st4 : tn 0 s4.heap := T.keep _ _ _ st3 fun c _ o q => by
    rw [← e4]
    exact pushCells_keeps _ _ _ _ (Heap.get?_push_of_some _ q)
  have still : ∀ {σ' : L2.St} {H' : Hp} {s' : Shared}, Inv (X.blk s3 H3 scope ce fp) [] σ' H' s' → (∀ c ∈ fp, H' c = none) → ∀ c ∈ fp, FpOk (X.blk s3 H3 scope ce fp) [] H' c := fun {σ' H' s'} J n c m =>
    ⟨n c m, (J.ok.exf c m).1, J.ok.exfs c m, .inl m, fun y d q => (J.ok.exf c m).2 y d q, fun r hr => absurd (show r ∈ ([] : List (Addr × Obj)) ++ [] from hr) (by simp)⟩
  have loop : codeAny (model X.prog X.w) X.A (.compLoop (.SetComp elt [⟨tg, iter, ifs, 0⟩] scope pos) 0 (.ref it) (.ref D) ce) (compPost (model X.prog X.w) X.A X.xe none (EP X pins σ Q) (.ref D) s3.heap.objs.size) s4 := by
    refine PpSet.compLoopS_any (fun n s' => ∃ i H', Inv (X.blk s3 H3 scope ce fp) [] (wipe σ (own.map (·.2))) H' s' ∧ tn i s'.heap ∧ (∀ c ∈ fp, H' c = none) ∧ W i n H') ?_ m0 ⟨0, H3, I4, st4, fun c m => (F3 c m).1.1, w0⟩
    rintro n s5 ⟨i, H5, I5, st5, n5, w5⟩
    rcases turn i n H5 w5 with ⟨stop, qq⟩ | ⟨go, Nx, hNx, step⟩
    · refine thnF (T.done (X.blk s3 H3 scope ce fp) rfl rfl rfl calm i [] s5 _ H5 (fun _ _ => False) I5 (still I5 n5) st5 stop) fun r s6 ⟨er, I6⟩ => ?_
      subst er
      have I7 : Inv X pins σ H5 s6 := I3.call' (ch := fp) I6.os I6.base I6.hok I6.bare fun c m => ⟨(F3 c m).1.2.2.2.1, (F3 c m).1.2.1, (F3 c m).1.2.2.2.2.1, (F3 c m).1.2.2.2.2.2⟩
      have nC : H5 s3.heap.objs.size = none := by
        have q : H5 ce.locals = none := I6.free
        rw [cl] at q
        exact q
      obtain ⟨mm, hn, _⟩ := I6.loc
      have hn' : s6.heap.Ns ce.locals mm := hn
      rw [cl] at hn'
      exact last I7 qq hn' (I3.fpOk (Nat.le_refl _) nC)
    · refine thnF (T.item (X.blk s3 H3 scope ce fp) rfl rfl rfl calm i [] s5 _ H5 (fun _ _ => False) I5 (still I5 n5) st5 go) fun r s6 ⟨u, er, h6⟩ => ?_
      subst er
      refine thnF h6 fun _ s7 ⟨x, H7, I7, r7, y7, st7, n7⟩ => ?_
      have J7 := I7.pinned (still I7 n7) (T.obj _ _ st7)
      refine thnF (pg.run _ s7 _ H7 x u _ J7 r7 (step x H7 y7)) fun _ s8 ⟨σ8, H8, I8, hw8, q8⟩ => ?_
      refine thnF (pt.run _ s8 σ8 H8 _ I8 q8) fun c s9 ⟨H9, I9, q9⟩ => ?_
      have fin : ∀ {s' : Shared} {H' : Hp}, Inv (X.blk s3 H3 scope ce fp) ([] ++ pinsAt fp s7.heap) σ8 H' s' → Nx H' → ∃ m, m < n ∧ ∃ i H', Inv (X.blk s3 H3 scope ce fp) [] (wipe σ (own.map (·.2))) H' s' ∧ tn i s'.heap ∧ (∀ c ∈ fp, H' c = none) ∧ W i m H' := fun {s' H'} J nx => by
        obtain ⟨m', lt, w'⟩ := hNx H' nx
        have pin : ∀ c ∈ fp, ∀ o, s7.heap.get? c = some o → s'.heap.get? c = some o ∧ H' c = none := fun c m o q =>
          let w := J.pin (c, o) (List.mem_append_right _ (List.mem_append_right _ (mem_pinsAt m q)))
          ⟨w.1, w.2.1⟩
        have ln : (wipe σ (own.map (·.2))).length = σ8.length := by rw [← hw8, wipe_length]
        refine ⟨m', lt, i + 1, H', (J.unpinned (pins := [])).weak ln (fun j v q => ?_), T.keep _ _ _ st7 fun c m o q => (pin c m o q).1, fun c m => ?_, w'⟩
        · rw [← hw8] at q
          exact (wipe_some q).1
        · obtain ⟨o, q, _⟩ := T.obj _ _ st7 c m
          exact (pin c m o q).2
      cases c with
      | false =>
        simp only [Bool.false_eq_true, if_false] at q9 ⊢
        exact fin I9 q9
      | true =>
        simp only [if_true] at q9 ⊢
        refine thnF (pe.run _ s9 σ8 H9 _ I9 q9) fun zz s10 ⟨yv, H10, I10, r10, c, L, ey, hD10, hb10, nx⟩ => ?_
        subst ey
        obtain ⟨t, rfl⟩ := r10
        exact addTx_ok (X := X.blk s3 H3 scope ce fp) I10 hD10 hb10 fun s11 I11 => fin I11 nx
  exact PpSet.codeAny_compStart_set loop (T.self X.A 0 _ _ _ st4 loop)
end
end L3
namespace L3
open PySem PySem.Spec PyProof.Rows L2
section
variable {J : It} {n : Nat} {G : Hp → Prop} {Y : Nat → Hp → V → Hp → Prop} {P : Program} {w : World}
theorem sc_it (wk : Walk J n G Y) {g : TG} {tt : TT} {te : TE} {vs : List Nat} {σ : L2.St} {H1 : Hp} {D : Addr} {Qd : Hp → Prop} (Pv : Nat → Hp → Prop) (h0 : Pv 0 (upd H1 D (TxO P w D []))) (hG : ∀ i H, i ≤ n → Pv i H → G H)
    (hs : ∀ i x H H', i < n → Pv i H → Y i H x H' → g x (wipe σ vs) H' fun σ2 H2 => wipe σ2 vs = wipe σ vs ∧ tt σ2 H2 fun b H3 =>
      if b = true then te σ2 H3 fun y H4 => ∃ (c : Str) (L : List Str), y = .str c ∧ H4 D = some (TxO P w D L) ∧ L.length < 3000 ∧ Pv (i + 1) (upd H4 D (TxO P w D (insL c L))) else Pv (i + 1) H3) (hd : ∀ H, Pv n H → Qd H) :
    ∃ W : Nat → Nat → Hp → Prop, (∃ m, W 0 m (upd H1 D (TxO P w D []))) ∧ ∀ i m H, W i m H →
      (J.stop i H ∧ Qd H) ∨ (J.go i H ∧ ∃ Nx : Hp → Prop, (∀ H', Nx H' → ∃ m', m' < m ∧ W (i + 1) m' H') ∧ ∀ x H', J.yld i H x H' → g x (wipe σ vs) H' fun σ2 H2 => wipe σ2 vs = wipe σ vs ∧ tt σ2 H2 fun b H3 =>
        if b = true then te σ2 H3 fun y H4 => ∃ (c : Str) (L : List Str), y = .str c ∧ H4 D = some (TxO P w D L) ∧ L.length < 3000 ∧ Nx (upd H4 D (TxO P w D (insL c L))) else Nx H3) := by
  refine ⟨fun i m H => i + m = n ∧ Pv i H, ⟨n, Nat.zero_add n, h0⟩, fun i m H ⟨e, p⟩ => ?_⟩
  have q := hG i H (by omega) p
  by_cases c : m = 0
  · obtain rfl : i = n := by omega
    exact .inl ⟨wk.stops H q, hd H p⟩
  · have lt : i < n := by omega
    exact .inr ⟨wk.goes i H lt q, Pv (i + 1), fun H' p' => ⟨m - 1, by omega, by omega, p'⟩, fun x H' y => hs i x H H' lt p (wk.yields i H x H' lt q y)⟩
end
end L3

/-! places: tuples of numbers; x in l, x in t for data -/
namespace L3
open PySem L2
theorem Same.seqT {K : PySem.W.Frag} {H H' : Hp} {a : Addr} {xs : List V} (e : Same H H') (h : SqT K H a xs) : SqT K H' a xs := by
  rcases h with h | h
  · rcases h with h | ⟨o, h⟩
    · exact .inl (.inl (e _ _ h))
    · exact .inl (.inr ⟨o, e _ _ h⟩)
  · exact .inr h
mutual
theorem Dp.same {K : PySem.W.Frag} {H H' : Hp} (e : Same H H') {v : V} : ∀ {d : PyData}, Dp K H v d → Dp K H' v d
  | _, .non => .non
  | _, .bl b => .bl b
  | _, .int i => .int i
  | _, .str x => .str x
  | _, .lst h hs => .lst (e.seq h) (DpAll.same e hs)
  | _, .tup h hs => .tup (Same.seqT e h) (DpAll.same e hs)
theorem DpAll.same {K : PySem.W.Frag} {H H' : Hp} (e : Same H H') : ∀ {vs : List V} {ds : List PyData}, DpAll K H vs ds → DpAll K H' vs ds
  | _, _, .nil => .nil
  | _, _, .cons a b => .cons (Dp.same e a) (DpAll.same e b)
end
mutual
theorem Da.dp {K : PySem.W.Frag} {t : Addr} {H : Hp} {v : V} : ∀ {d : PyData}, Da t H v d → d.hasDict = false → Dp K H v d
  | _, .non, _ => .non
  | _, .bl b, _ => .bl b
  | _, .int i, _ => .int i
  | _, .str x, _ => .str x
  | _, .lst h _ hs, n => .lst (SqL.of h) (DaAll.dp hs (by simpa only [PyData.hasDict] using n))
  | _, .tup h hs, n => .tup (SqT.of h) (DaAll.dp hs (by simpa only [PyData.hasDict] using n))
  | _, .dct _ _ _, n => by simp [PyData.hasDict] at n
theorem DaAll.dp {K : PySem.W.Frag} {t : Addr} {H : Hp} : ∀ {vs : List V} {ds : List PyData}, DaAll t H vs ds → PyData.hasDictAll ds = false → DpAll K H vs ds
  | _, _, .nil, _ => .nil
  | _, _, .cons a b, n => by
    simp only [PyData.hasDictAll, Bool.or_eq_false_iff] at n
    exact .cons (Da.dp a n.1) (DaAll.dp b n.2)
end
mutual
def noList : PyData → Bool
  | .list _ => false
  | .tuple ds => noListA ds
  | _ => true
def noListA : List PyData → Bool
  | [] => true
  | d :: ds => noList d && noListA ds
end
mutual
/-- data without lists stays where the tuples stay -/
theorem Dp.tups {K : PySem.W.Frag} {H H' : Hp} (k : ∀ a xs, SqT K H a xs → SqT K H' a xs) {v : V} : ∀ {d : PyData}, Dp K H v d → noList d = true → Dp K H' v d
  | _, .non, _ => .non
  | _, .bl b, _ => .bl b
  | _, .int i, _ => .int i
  | _, .str x, _ => .str x
  | _, .lst _ _, n => by simp [noList] at n
  | _, .tup h hs, n => .tup (k _ _ h) (DpAll.tups k hs (by simpa only [noList] using n))
theorem DpAll.tups {K : PySem.W.Frag} {H H' : Hp} (k : ∀ a xs, SqT K H a xs → SqT K H' a xs) : ∀ {vs : List V} {ds : List PyData}, DpAll K H vs ds → noListA ds = true → DpAll K H' vs ds
  | _, _, .nil, _ => .nil
  | _, _, .cons a b, n => by
    simp only [noListA, Bool.and_eq_true] at n
    exact .cons (Dp.tups k a n.1) (DpAll.tups k b n.2)
end
mutual
theorem Da.tups {t : Addr} {H H' : Hp} (k : ∀ a xs, H a = some (.tup xs) → H' a = some (.tup xs)) {v : V} : ∀ {d : PyData}, Da t H v d → noList d = true → d.hasDict = false → Da t H' v d
  | _, .non, _, _ => .non
  | _, .bl b, _, _ => .bl b
  | _, .int i, _, _ => .int i
  | _, .str x, _, _ => .str x
  | _, .lst _ _ _, n, _ => by simp [noList] at n
  | _, .tup h hs, n, m => .tup (k _ _ h) (DaAll.tups k hs (by simpa only [noList] using n) (by simpa only [PyData.hasDict] using m))
  | _, .dct _ _ _, _, m => by simp [PyData.hasDict] at m
theorem DaAll.tups {t : Addr} {H H' : Hp} (k : ∀ a xs, H a = some (.tup xs) → H' a = some (.tup xs)) : ∀ {vs : List V} {ds : List PyData}, DaAll t H vs ds → noListA ds = true → PyData.hasDictAll ds = false → DaAll t H' vs ds
  | _, _, .nil, _, _ => .nil
  | _, _, .cons a b, n, m => by
    simp only [noListA, Bool.and_eq_true] at n
    simp only [PyData.hasDictAll, Bool.or_eq_false_iff] at m
    exact .cons (Da.tups k a n.1 m.1) (DaAll.tups k b n.2 m.2)
end
/-- tuples stay when a list is changed -/
theorem tups_upd {K : PySem.W.Frag} {H : Hp} {l : Addr} {xs ys : List V} (h : H l = some (.lst xs)) : ∀ a zs, SqT K H a zs → SqT K (upd H l (.lst ys)) a zs := fun a zs q => by
  rcases q with q | q
  · have ne : a ≠ l := fun z => by
      rw [z] at q
      rcases q with q | ⟨o, q⟩
      · rw [h] at q
        cases q
      · rw [h] at q
        cases q
    rcases q with q | ⟨o, q⟩
    · exact .inl (.inl (by rw [upd_ne ne]; exact q))
    · exact .inl (.inr ⟨o, by rw [upd_ne ne]; exact q⟩)
  · exact .inr q
def rInDA (K : PySem.W.Frag) : R2 := fun x y H Q => ∃ d ds, Dp K H x d ∧ ((Dp K H y (.list ds) ∧ SeqAt.shaped (.list ds) = true) ∨ (Dp K H y (.tuple ds) ∧ SeqAt.shaped (.tuple ds) = true)) ∧ SeqAt.shaped d = true ∧ Q (.bl (ds.any fun z => PyData.eqv z d)) H
theorem op_inDA {X : Cx} (hu : X.A.units + 65 < cLine) : OpR X (compareOp .In) (rInDA X.K) := by
  intro pins s σ H x y v u Q I rx ry h
  obtain ⟨d, ds, hd, he, sd, q⟩ := h
  obtain ⟨as, r1⟩ := Dp.reads I d x v hd rx
  rcases he with ⟨he, se⟩ | ⟨he, se⟩
  · obtain ⟨bs, r2⟩ := Dp.reads I (.list ds) y u he ry
    exact SeqAt.in_list_reads r2 r1 (SeqAt.canLay_of_shaped se) (SeqAt.canLay_of_shaped sd) (PyProof.Rows.room_in_shaped sd hu) ⟨.bl _, H, I, rfl, q⟩
  · obtain ⟨bs, r2⟩ := Dp.reads I (.tuple ds) y u he ry
    exact SeqAt.in_tuple_reads r2 r1 (SeqAt.canLay_of_shaped se) (SeqAt.canLay_of_shaped sd) (PyProof.Rows.room_in_shaped sd hu) ⟨.bl _, H, I, rfl, q⟩
/-- a place -/
def plD (ns : List Nat) : PyData := .tuple (ns.map fun n : Nat => .int (n : Int))
def plV (ns : List Nat) : List V := ns.map fun n : Nat => .int (n : Int)
def PlAt (H : Hp) (v : V) (ns : List Nat) : Prop := ∃ a, v = .ref a ∧ H a = some (.tup (plV ns))
theorem PlAt.same {H H' : Hp} {v : V} {ns : List Nat} (h : PlAt H v ns) (s : Same H H') : PlAt H' v ns := by
  obtain ⟨a, rfl, g⟩ := h
  exact ⟨a, rfl, s _ _ g⟩
theorem dp_ints {K : PySem.W.Frag} {H : Hp} : ∀ ns : List Nat, DpAll K H (plV ns) (ns.map fun n : Nat => PyData.int (n : Int))
  | [] => .nil
  | n :: ns => .cons (.int _) (dp_ints ns)
theorem PlAt.dp {K : PySem.W.Frag} {H : Hp} {v : V} {ns : List Nat} (h : PlAt H v ns) : Dp K H v (plD ns) := by
  obtain ⟨a, rfl, g⟩ := h
  exact .tup (SqT.of g) (dp_ints ns)
theorem eqv_ints : ∀ a b : List Nat, PyData.eqvAll (a.map fun n : Nat => PyData.int (n : Int)) (b.map fun n : Nat => PyData.int (n : Int)) = decide (a = b)
  | [], [] => by simp [PyData.eqvAll]
  | [], _ :: _ => by simp [PyData.eqvAll]
  | _ :: _, [] => by simp [PyData.eqvAll]
  | m :: a, n :: b => by
    simp only [List.map_cons, PyData.eqvAll, PyData.eqv, eqv_ints a b]
    by_cases h : m = n
    · subst h
      simp
    · have : ¬ ((m : Int) = (n : Int)) := fun z => h (by omega)
      simp [h, this]
theorem eqv_pl (a b : List Nat) : PyData.eqv (plD a) (plD b) = decide (a = b) := by
  unfold plD
  simp only [PyData.eqv, eqv_ints]
/-- enumerate(l) -/
theorem walk_enumL {K : PySem.W.Frag} {a : Addr} {xs : List V} : Walk (Ite K a) xs.length (fun H => SqL K H a xs) (YPair (fun i => some (.int (i : Nat))) (fun i => xs[i]?)) := by
  refine ⟨fun i _ hi q => ⟨xs, xs[i], q, by simp [hi]⟩, fun _ q => ⟨xs, q, Nat.le_refl _⟩, fun i H v H' _ q y => ?_⟩
  obtain ⟨T, x, h1, h2, h3, h4⟩ := y
  exact ⟨T, .int (i : Nat), x, h1, h2, h3, rfl, h4 xs q⟩
theorem canLay_ints : ∀ ns : List Nat, PyData.canLayAll0 (ns.map fun n : Nat => PyData.int (n : Int)) = true
  | [] => by simp [PyData.canLayAll0]
  | n :: ns => by simp [PyData.canLayAll0, PyData.canLay0, canLay_ints ns]
theorem depth_ints : ∀ ns : List Nat, PyData.depthAll (ns.map fun n : Nat => PyData.int (n : Int)) ≤ 1
  | [] => by simp [PyData.depthAll]
  | n :: ns => by
    have := depth_ints ns
    simp only [List.map_cons, PyData.depthAll, PyData.depth]
    omega
theorem shaped_pl (ns : List Nat) : SeqAt.shaped (plD ns) = true := by
  unfold SeqAt.shaped plD
  have := depth_ints ns
  rw [Bool.and_eq_true]
  refine ⟨?_, decide_eq_true ?_⟩
  · simp only [PyData.canLay0]
    exact canLay_ints ns
  · simp only [PyData.depth]
    omega
theorem cut_take (xs : List V) (n : Nat) : cutV xs none (some (n : Int)) = xs.take n := by
  unfold cutV
  rw [HT.sIx_none, HT.sIx_nat, List.drop_zero, Nat.sub_zero]
  by_cases h : n ≤ xs.length
  · rw [Nat.min_eq_left h]
  · rw [Nat.min_eq_right (by omega), List.take_of_length_le (Nat.le_refl _), List.take_of_length_le (by omega)]
theorem cut_tail (xs : List V) : cutV xs (some 1) none = xs.tail := by
  unfold cutV
  rw [show (1 : Int) = ((1 : Nat) : Int) from rfl, HT.sIx_none, HT.sIx_nat]
  cases xs with
  | nil => rfl
  | cons x xs =>
    rw [List.length_cons, Nat.min_eq_left (by omega)]
    show xs.take _ = xs
    rw [List.take_of_length_le (by omega)]
/-- a slice of a tuple -/
theorem slA {K : PySem.W.Frag} {H : Hp} {Q : VK} {a : Addr} {xs : List V} {lo hi : Option Int} (ha : H a = some (.tup xs)) (k : ∀ H' q, Same H H' → H' q = some (.tup (cutV xs lo hi)) → Q (.ref q) H') : rSlA K (.ref a) lo hi H Q := by
  refine ⟨a, xs, rfl, SqT.of ha, fun e => k H a (Same.refl H) ?_, fun _ p hp => k _ p (same_new hp) upd_same⟩
  have z : cutV xs lo hi = xs := by
    unfold cutV
    rw [e.1, e.2, List.drop_zero, Nat.sub_zero, List.take_length]
  rw [z]
  exact ha
end L3

namespace L3
open PySem L2
theorem daAll_strs {t : Addr} {H : Hp} : ∀ {ds : List PyData} {xs : List V}, DaAll t H xs ds → ds.all isNameD = true → xs = (ds.filterMap strOf).map V.str ∧ (ds.filterMap strOf).length = ds.length
  | [], _, h, _ => by
    cases h
    exact ⟨rfl, rfl⟩
  | d :: ds, _, h, hn => by
    cases h with
    | cons h1 h2 =>
      rw [List.all_cons, Bool.and_eq_true] at hn
      obtain ⟨e1, e2⟩ := daAll_strs h2 hn.2
      obtain ⟨x, rfl⟩ : ∃ x, d = .str x := by
        cases d with
        | str x => exact ⟨x, rfl⟩
        | _ => exact nomatch hn.1
      cases h1
      exact ⟨by rw [e1]; rfl, by rw [show (PyData.str x :: ds).filterMap strOf = x :: ds.filterMap strOf from rfl, List.length_cons, e2]; rfl⟩
section
variable {P : Program} {w : World} {K : PySem.W.Frag} {mg : Str → Option Value} {base : Heap} {bA : Addr} {es : Array DictEntry} {nb : Nat}
abbrev s_are_different_names : Stmt := topS 25
abbrev N_are_different_names : List Str := ["row", "value"]
theorem sc_are_different_names : FnScope N_are_different_names ["row"] (defScope s_are_different_names) := ⟨rfl, rfl, rfl, by decide +kernel, rfl, by decide +kernel, by decide +kernel⟩
theorem ok_diff {f : Addr} {fd : FuncData} (F : Fun K "are_different_names" "are_different_names" s_are_different_names f fd) (B : Bl mg) (B9 : Bl9 mg) (M : Mn K w mg bA es nb) (D_is_name : Kn P w K mg base 2 "is_name" ["value"] spName) : FnOk P w K mg base CX0 3 f fd ["row"] (spDif K) := by
  refine F.ok sc_are_different_names (fun vs H Q E h => ?_) (fun cdv A outer s H vs Q E hr h => ?_)
  · obtain ⟨t, a, xs, ds, rfl, _⟩ := h
    rfl
  · obtain ⟨t, a, xs, ds, rfl, ha, hd, hs, hz, k⟩ := h
    have hu64 := hr.units
    have hr_is_name : Room 2 _ := hr
    have ln := hd.len
    refine ⟨_, (pss_one (ps_ret (pe_and (pe_callB (cr_all rfl) (by rfl) B9.all (by decide +kernel) (pa_cons (pe_lc (own := [("value", 1)]) rfl sc_are_different_names.nd (pi_any (pv 0)) (blkOk_by (N := N_are_different_names) (sc := (defScope s_are_different_names)) (own := [("value", 1)]) (by decide +kernel)) (fun _ _ _ _ _ => (pg_name (i := 1) sc_are_different_names.nd rfl (Or.inl rfl))) (fun _ _ _ _ _ => pts_nil) (fun _ _ _ _ _ => (pe_kn D_is_name hr_is_name (pa_cons (pv 1) pa_nil)))) pa_nil)) (pe_one (pe_cmpR op_eq (pe_callB cr_lenTx (by rfl) B.len PySem.boot_len (pa_cons (pe_callTy (cr_setTx rfl) (by rfl) M.set (by decide +kernel) (pa_cons (pv 0) pa_nil)) pa_nil)) (pe_callB call_len (by rfl) B.len PySem.boot_len (pa_cons (pv 0) pa_nil)) (nomark _)))))), ?_⟩
    have step : ∀ (i : Nat) (y : V) (D : Addr) (H1 : Hp), H D = none → xs[i]? = some y → Same H H1 → H1 D = some (.lst (((ds.take i).map isNameD).map V.bl)) → ∃ (t : Addr) (v : V) (d : PyData), [y] = [v] ∧ Da t H1 v d ∧ (∀ x, d = .str x → x.length ≤ 1000) ∧
        ∃ acc, H1 D = some (.lst acc) ∧ acc.length < sizeLine ∧ Same H (upd H1 D (.lst (acc ++ [V.bl (isNameD d)]))) ∧ upd H1 D (.lst (acc ++ [V.bl (isNameD d)])) D = some (.lst (((ds.take (i + 1)).map isNameD).map V.bl)) := fun i y D H1 hD ey s1 g1 => by
      obtain ⟨d, ed, dd⟩ := da_at hd ey
      refine ⟨t, y, d, rfl, dd.kp (kp_same s1), shD_str (shL_mem hs (List.mem_of_getElem? ed)), _, g1, szl (by rw [List.length_map, List.length_map, List.length_take]; omega), fun b o e => ?_, ?_⟩
      · rw [upd_ne (ne_of_none e hD)]
        exact s1 _ _ e
      · rw [upd_same, List.take_add_one, ed, List.map_append, List.map_append]
        rfl
    have fin : ∀ (H1 : Hp) (D : Addr), Same H H1 → ∀ (ha1 : SqL K H1 a xs ∨ SqT K H1 a xs), (ds.all isNameD = false → Q (.bl false) H1) ∧ (ds.all isNameD = true → (SqL K H1 a (((ds.filterMap strOf)).map V.str) ∨ SqT K H1 a ((ds.filterMap strOf).map V.str)) ∧ (ds.filterMap strOf).length < 4000 ∧ ∀ p, H1 p = none → 
        Q (.bl (decide (V.int ((setL [] (ds.filterMap strOf)).length : Nat) = V.int (xs.length : Nat)))) (upd H1 p (TxO P w p (setL [] (ds.filterMap strOf))))) := fun H1 D s1 ha1 => by
      refine ⟨fun e => ?_, fun e => ?_⟩
      · have q : diffD ds = false := by
          unfold diffD
          rw [e]
          rfl
        rw [← q]
        exact k H1 s1
      · obtain ⟨e1, e2⟩ := daAll_strs hd e
        refine ⟨by rw [← e1]; exact ha1, by omega, fun p hp => ?_⟩
        have q : diffD ds = decide (V.int ((setL [] (ds.filterMap strOf)).length : Nat) = V.int (xs.length : Nat)) := by
          unfold diffD
          rw [e, Bool.true_and, decide_eq_decide, ← setL_nodup_len, ln, e2]
          exact ⟨fun z => by rw [z], fun z => by injection z with z; omega⟩
        rw [← q]
        exact k _ (s1.trans (same_new hp))
    rcases ha with ha | ha
    · refine ⟨_, rfl, a, rfl, .inl ⟨⟨_, ha⟩, fun D hD => lc_it walk_list (fun i H' => Same H H' ∧ H' D = some (.lst (((ds.take i).map isNameD).map V.bl))) ⟨same_new hD, upd_same⟩ (fun i H' _ h => h.1.seq ha) ?_ ?_⟩⟩
      · rintro i y H1 H2 hi ⟨s1, g1⟩ ⟨rfl, ey⟩
        refine ⟨rfl, _, rfl, ?_⟩
        exact step i y D _ hD ey s1 g1
      · rintro H1 ⟨s1, g1⟩
        rw [ln, List.take_length] at g1
        obtain ⟨f1, f2⟩ := fin H1 D s1 (.inl (s1.seq ha))
        refine ⟨D, _, rfl, SqL.of g1, _, rfl, ?_⟩
        have ea : ((ds.map isNameD).all id) = ds.all isNameD := by rw [List.all_map]; rfl
        rw [ea]
        cases hall : ds.all isNameD with
        | false => exact iF rfl (f1 hall)
        | true =>
          refine iT rfl ?_
          obtain ⟨f3, f4, f5⟩ := f2 hall
          have f6 := setL_len (xs := ds.filterMap strOf) (L := [])
          rw [List.length_nil] at f6
          refine ⟨_, rfl, a, _, rfl, f3, f4, fun p hp => ?_⟩
          have s2 := s1.trans (same_new (o := TxO P w p (setL [] (ds.filterMap strOf))) hp)
          refine ⟨p, _, rfl, upd_same, by omega, _, rfl, .ref a, _, rfl, .inl ⟨_, s2.seq ha, rfl⟩, ?_⟩
          exact ⟨rfl, f5 p hp⟩
    · refine ⟨_, rfl, a, rfl, .inr ⟨⟨_, ha⟩, fun D hD => lc_it walk_tup (fun i H' => Same H H' ∧ H' D = some (.lst (((ds.take i).map isNameD).map V.bl))) ⟨same_new hD, upd_same⟩ (fun i H' _ h => Same.seqT h.1 ha) ?_ ?_⟩⟩
      · rintro i y H1 H2 hi ⟨s1, g1⟩ ⟨rfl, ey⟩
        refine ⟨rfl, _, rfl, ?_⟩
        exact step i y D _ hD ey s1 g1
      · rintro H1 ⟨s1, g1⟩
        rw [ln, List.take_length] at g1
        obtain ⟨f1, f2⟩ := fin H1 D s1 (.inr (Same.seqT s1 ha))
        refine ⟨D, _, rfl, SqL.of g1, _, rfl, ?_⟩
        have ea : ((ds.map isNameD).all id) = ds.all isNameD := by rw [List.all_map]; rfl
        rw [ea]
        cases hall : ds.all isNameD with
        | false => exact iF rfl (f1 hall)
        | true =>
          refine iT rfl ?_
          obtain ⟨f3, f4, f5⟩ := f2 hall
          have f6 := setL_len (xs := ds.filterMap strOf) (L := [])
          rw [List.length_nil] at f6
          refine ⟨_, rfl, a, _, rfl, f3, f4, fun p hp => ?_⟩
          have s2 := s1.trans (same_new (o := TxO P w p (setL [] (ds.filterMap strOf))) hp)
          refine ⟨p, _, rfl, upd_same, by omega, _, rfl, .ref a, _, rfl, .inr ⟨_, Same.seqT s2 ha, rfl⟩, ?_⟩
          exact ⟨rfl, f5 p hp⟩
end
end L3

/-! the forms of terms, their parts with the names that are bound in them -/
namespace L3
open PySem L2
def wordD : PyData → Str
  | .tuple (.str w :: _) => w
  | _ => ""
def strsD (d : PyData) : List Str := (mems d).filterMap strOf
/-- the parts of a term, each with the names that are bound in it alone -/
def kidsD (m : PyData) : List (PyData × List Str) :=
  if wordD m = "given" then [(nth 2 m, (strOf (nth 1 m)).toList)]
  else if wordD m = "let" then (ptsD m).map fun p => (p, ((mems (nth 1 m)).map (nth 0)).filterMap strOf)
  else if wordD m = "match" then (nth 1 m, []) :: (mems (nth 2 m)).map fun a => (nth 2 a, strsD (nth 1 a))
  else (ptsD m).map fun p => (p, [])
def rowP (q : Str × PyData) : PyData := .tuple [.str q.1, q.2]
def armP (q : Str × List Str × PyData) : PyData := .tuple [.str q.1, .tuple (q.2.1.map .str), q.2.2]
/-- the forms -/
inductive View : PyData → Prop
  | name (x : Str) (h : isNameD (.str x) = true) : View (.tuple [.str "name", .str x])
  | whole (d : PyData) (h : isWholeD d = true) : View (.tuple [.str "whole", d])
  | text (d : PyData) (h : isTextD d = true) : View (.tuple [.str "text", d])
  | hole : View (.tuple [.str "hole"])
  | use (a b : PyData) (ha : isTermD a = true) (hb : isTermD b = true) : View (.tuple [.str "use", a, b])
  | given (x : Str) (a : PyData) (h : isNameD (.str x) = true) (ha : isTermD a = true) : View (.tuple [.str "given", .str x, a])
  | lett (rs : List (Str × PyData)) (a : PyData) (hr : ∀ q ∈ rs, isNameD (.str q.1) = true ∧ isTermD q.2 = true) (ne : rs ≠ []) (ha : isTermD a = true) : View (.tuple [.str "let", .tuple (rs.map rowP), a])
  | matc (a : PyData) (rs : List (Str × List Str × PyData)) (ha : isTermD a = true) (ne : rs ≠ []) (hr : ∀ q ∈ rs, isNameD (.str q.1) = true ∧ (∀ x ∈ q.2.1, isNameD (.str x) = true) ∧ isTermD q.2.2 = true) : View (.tuple [.str "match", a, .tuple (rs.map armP)])
theorem name_str {d : PyData} (h : isNameD d = true) : ∃ x, d = .str x := by
  cases d with
  | str x => exact ⟨x, rfl⟩
  | _ => cases h
theorem names_strs : ∀ {ds : List PyData}, (∀ d ∈ ds, isNameD d = true) → ∃ xs : List Str, ds = xs.map .str ∧ ∀ x ∈ xs, isNameD (.str x) = true
  | [], _ => ⟨[], rfl, fun _ z => nomatch z⟩
  | d :: ds, h => by
    obtain ⟨x, rfl⟩ := name_str (h d List.mem_cons_self)
    obtain ⟨xs, rfl, hx⟩ := names_strs fun e he => h e (List.mem_cons_of_mem _ he)
    refine ⟨x :: xs, rfl, fun y hy => ?_⟩
    rcases List.mem_cons.mp hy with rfl | hy
    · exact h _ List.mem_cons_self
    · exact hx y hy
theorem rows_of : ∀ {ds : List PyData}, (∀ e ∈ ds, ∃ es, e = .tuple es ∧ es.length = 2) → (∀ d ∈ ds, isNameD (nth 0 d) = true) → (∀ d ∈ ds, isTermD (nth 1 d) = true) → ∃ rs : List (Str × PyData), ds = rs.map rowP ∧ ∀ q ∈ rs, isNameD (.str q.1) = true ∧ isTermD q.2 = true
  | [], _, _, _ => ⟨[], rfl, fun _ z => nomatch z⟩
  | d :: ds, h, h1, h2 => by
    obtain ⟨es, rfl, le⟩ := h _ List.mem_cons_self
    obtain ⟨a, b, rfl⟩ := len_two le
    have ha : isNameD a = true := h1 _ List.mem_cons_self
    have hb : isTermD b = true := h2 _ List.mem_cons_self
    obtain ⟨x, rfl⟩ := name_str ha
    obtain ⟨rs, rfl, hr⟩ := rows_of (fun e he => h e (List.mem_cons_of_mem _ he)) (fun e he => h1 e (List.mem_cons_of_mem _ he)) fun e he => h2 e (List.mem_cons_of_mem _ he)
    refine ⟨(x, b) :: rs, rfl, fun q hq => ?_⟩
    rcases List.mem_cons.mp hq with rfl | hq
    · exact ⟨ha, hb⟩
    · exact hr q hq
theorem arms_of : ∀ {ds : List PyData}, (∀ e ∈ ds, ∃ es, e = .tuple es ∧ es.length = 3) → (∀ d ∈ ds, armD d = true) → (∀ d ∈ ds, isTermD (nth 2 d) = true) → ∃ rs : List (Str × List Str × PyData), ds = rs.map armP ∧ ∀ q ∈ rs, isNameD (.str q.1) = true ∧ (∀ x ∈ q.2.1, isNameD (.str x) = true) ∧ isTermD q.2.2 = true
  | [], _, _, _ => ⟨[], rfl, fun _ z => nomatch z⟩
  | d :: ds, h, h1, h2 => by
    obtain ⟨es, rfl, le⟩ := h _ List.mem_cons_self
    obtain ⟨a, b, c, rfl⟩ : ∃ a b c, es = [a, b, c] := by
      match es, le with
      | [a, b, c], _ => exact ⟨a, b, c, rfl⟩
    have ha := h1 _ List.mem_cons_self
    unfold armD at ha
    have hb : isTermD c = true := h2 _ List.mem_cons_self
    rw [Bool.and_eq_true] at ha
    obtain ⟨ha, hn⟩ := ha
    have ha : isNameD a = true := ha
    obtain ⟨x, rfl⟩ := name_str ha
    obtain ⟨ns, rfl⟩ : ∃ ns, b = .tuple ns := by
      cases b with
      | tuple ns => exact ⟨ns, rfl⟩
      | _ => exact Bool.noConfusion (show false = true from hn)
    have hn : diffD ns = true := hn
    unfold diffD at hn
    rw [Bool.and_eq_true] at hn
    obtain ⟨xs, rfl, hx⟩ := names_strs fun e he => List.all_eq_true.mp hn.1 e he
    obtain ⟨rs, rfl, hr⟩ := arms_of (fun e he => h e (List.mem_cons_of_mem _ he)) (fun e he => h1 e (List.mem_cons_of_mem _ he)) fun e he => h2 e (List.mem_cons_of_mem _ he)
    refine ⟨(x, xs, c) :: rs, rfl, fun q hq => ?_⟩
    rcases List.mem_cons.mp hq with rfl | hq
    · exact ⟨ha, hx, hb⟩
    · exact hr q hq
theorem view_of {m : PyData} (h : isTermD m = true) : View m := by
  cases e : partsD m with
  | none =>
    rw [isTerm_no e] at h
    cases h
  | some ps =>
    rw [isTerm_yes e] at h
    have hp : ∀ p ∈ ps, isTermD p = true := List.all_eq_true.mp h
    unfold partsD at e
    split at e
    case h_2 => cases e
    rename_i w r
    unfold partsW at e
    split at e
    · rename_i c; subst c
      split at e
      · split at e
        · rename_i x hx
          obtain ⟨y, rfl⟩ := name_str hx
          exact .name y hx
        · cases e
      · cases e
    split at e
    · rename_i c; subst c
      split at e
      · split at e
        · rename_i x hx
          exact .whole x hx
        · cases e
      · cases e
    split at e
    · rename_i c; subst c
      split at e
      · split at e
        · rename_i x hx
          exact .text x hx
        · cases e
      · cases e
    split at e
    · rename_i c; subst c
      split at e
      · cases e
        rename_i a b
        exact .use a b (hp _ (by simp)) (hp _ (by simp))
      · cases e
    split at e
    · rename_i c; subst c
      split at e
      · split at e
        · rename_i x a hx
          cases e
          obtain ⟨y, rfl⟩ := name_str hx
          exact .given y a hx (hp _ (by simp))
        · cases e
      · cases e
    split at e
    · rename_i c; subst c
      split at e
      · split at e
        · rename_i rows a hx
          cases e
          rw [Bool.and_eq_true] at hx
          obtain ⟨ds, rfl, dne, drow⟩ := rows_tup hx.1
          have hd := hx.2
          unfold diffD at hd
          rw [Bool.and_eq_true] at hd
          obtain ⟨rs, rfl, hr⟩ := rows_of drow (fun d hd2 => List.all_eq_true.mp hd.1 _ (List.mem_map_of_mem hd2)) fun d hd2 => hp _ (List.mem_append_left _ (List.mem_map_of_mem hd2))
          exact .lett rs a hr (fun z => dne (by rw [z]; rfl)) (hp _ (by simp))
        · cases e
      · cases e
    split at e
    · rename_i c; subst c
      split at e
      · split at e
        · rename_i a rows hx
          cases e
          rw [Bool.and_eq_true] at hx
          obtain ⟨ds, rfl, dne, drow⟩ := rows_tup hx.1
          obtain ⟨rs, rfl, hr⟩ := arms_of drow (fun d hd2 => List.all_eq_true.mp hx.2 _ hd2) fun d hd2 => hp _ (List.mem_cons_of_mem _ (List.mem_map_of_mem hd2))
          exact .matc a rs (hp _ (by simp)) (fun z => dne (by rw [z]; rfl)) hr
        · cases e
      · cases e
    split at e
    · rename_i c; subst c
      split at e
      · exact .hole
      · cases e
    · cases e
end L3

namespace L3
open PySem L2
theorem pts_of {m : PyData} {ps : List PyData} (e : partsD m = some ps) : ptsD m = ps := by
  unfold ptsD
  rw [e]
  rfl
theorem pts_some {m : PyData} (h : isTermD m = true) : partsD m = some (ptsD m) := by
  cases e : partsD m with
  | none =>
    rw [isTerm_no e] at h
    cases h
  | some ps => rw [pts_of e]
theorem row_nth0 (rs : List (Str × PyData)) : (rs.map rowP).map (nth 0) = (rs.map (·.1)).map PyData.str := by
  rw [List.map_map, List.map_map]
  rfl
theorem row_nth1 (rs : List (Str × PyData)) : (rs.map rowP).map (nth 1) = rs.map (·.2) := by
  rw [List.map_map]
  rfl
theorem arm_nth2 (rs : List (Str × List Str × PyData)) : (rs.map armP).map (nth 2) = rs.map (·.2.2) := by
  rw [List.map_map]
  rfl
theorem fm_strs : ∀ xs : List Str, (xs.map PyData.str).filterMap strOf = xs
  | [] => rfl
  | x :: xs => by
    rw [List.map_cons, show (PyData.str x :: xs.map PyData.str).filterMap strOf = x :: (xs.map PyData.str).filterMap strOf from rfl, fm_strs xs]
theorem pts_let {rs : List (Str × PyData)} {a : PyData} {ps : List PyData} (e : partsD (.tuple [.str "let", .tuple (rs.map rowP), a]) = some ps) : ps = rs.map (·.2) ++ [a] := by
  have e : (if rowsD 2 (.tuple (rs.map rowP)) && diffD ((rs.map rowP).map (nth 0)) then some ((rs.map rowP).map (nth 1) ++ [a]) else none) = some ps := e
  split at e
  · rw [row_nth1] at e
    exact (Option.some.inj e).symm
  · cases e
theorem pts_match {rs : List (Str × List Str × PyData)} {a : PyData} {ps : List PyData} (e : partsD (.tuple [.str "match", a, .tuple (rs.map armP)]) = some ps) : ps = a :: rs.map (·.2.2) := by
  have e : (if rowsD 3 (.tuple (rs.map armP)) && (rs.map armP).all armD then some (a :: (rs.map armP).map (nth 2)) else none) = some ps := e
  split at e
  · rw [arm_nth2] at e
    exact (Option.some.inj e).symm
  · cases e
theorem pts_given {x : Str} {a : PyData} {ps : List PyData} (e : partsD (.tuple [.str "given", .str x, a]) = some ps) : ps = [a] := by
  have e : (if isNameD (.str x) then some [a] else none) = some ps := e
  split at e
  · exact (Option.some.inj e).symm
  · cases e
/-- what `kidsD` tells at each form -/
theorem kids_let {rs : List (Str × PyData)} {a : PyData} (h : isTermD (.tuple [.str "let", .tuple (rs.map rowP), a]) = true) : kidsD (.tuple [.str "let", .tuple (rs.map rowP), a]) = rs.map (fun q => (q.2, rs.map (·.1))) ++ [(a, rs.map (·.1))] := by
  have e := pts_let (pts_some h)
  have n : ((mems (nth 1 (.tuple [.str "let", .tuple (rs.map rowP), a]))).map (nth 0)).filterMap strOf = rs.map (·.1) := by
    show ((rs.map rowP).map (nth 0)).filterMap strOf = _
    rw [row_nth0, fm_strs]
  show ((ptsD (.tuple [.str "let", .tuple (rs.map rowP), a])).map fun p => (p, ((mems (nth 1 (.tuple [.str "let", .tuple (rs.map rowP), a]))).map (nth 0)).filterMap strOf)) = _
  rw [n, e, List.map_append, List.map_map]
  rfl
theorem kids_match {rs : List (Str × List Str × PyData)} {a : PyData} : kidsD (.tuple [.str "match", a, .tuple (rs.map armP)]) = (a, []) :: rs.map fun q => (q.2.2, q.2.1) := by
  show (a, []) :: (rs.map armP).map (fun a => (nth 2 a, strsD (nth 1 a))) = _
  rw [List.map_map]
  congr 1
  refine List.map_congr_left fun q _ => ?_
  show (q.2.2, (q.2.1.map PyData.str).filterMap strOf) = _
  rw [fm_strs]
theorem kids_given {x : Str} {a : PyData} : kidsD (.tuple [.str "given", .str x, a]) = [(a, [x])] := rfl
theorem kids_use {a b : PyData} : kidsD (.tuple [.str "use", a, b]) = [(a, []), (b, [])] := rfl
/-- the parts alone -/
theorem kids_fst {m : PyData} (h : isTermD m = true) : (kidsD m).map (·.1) = ptsD m := by
  cases view_of h with
  | name x hx =>
    have e : partsD (.tuple [.str "name", .str x]) = some [] := by
      show (if isNameD (.str x) then some [] else none) = some []
      rw [hx]
      rfl
    rw [pts_of e]
    show ((ptsD (.tuple [.str "name", .str x])).map fun p => (p, [])).map (·.1) = []
    rw [pts_of e]
    rfl
  | whole d hd =>
    have e : partsD (.tuple [.str "whole", d]) = some [] := by
      show (if isWholeD d then some [] else none) = some []
      rw [hd]
      rfl
    rw [pts_of e]
    show ((ptsD (.tuple [.str "whole", d])).map fun p => (p, [])).map (·.1) = []
    rw [pts_of e]
    rfl
  | text d hd =>
    have e : partsD (.tuple [.str "text", d]) = some [] := by
      show (if isTextD d then some [] else none) = some []
      rw [hd]
      rfl
    rw [pts_of e]
    show ((ptsD (.tuple [.str "text", d])).map fun p => (p, [])).map (·.1) = []
    rw [pts_of e]
    rfl
  | hole => rfl
  | use a b ha hb => rfl
  | given x a hx ha => exact (pts_given (pts_some h)).symm
  | lett rs a hr ne ha =>
    rw [kids_let h, pts_let (pts_some h), List.map_append, List.map_map]
    rfl
  | matc a rs ha ne hr =>
    rw [kids_match, pts_match (pts_some h), List.map_cons, List.map_map]
    rfl
theorem kids_term {m : PyData} (h : isTermD m = true) : ∀ q ∈ kidsD m, isTermD q.1 = true := fun q hq => by
  have e := pts_some h
  have y := isTerm_yes e
  rw [h] at y
  refine List.all_eq_true.mp y.symm q.1 ?_
  rw [← kids_fst h]
  exact List.mem_map_of_mem hq
theorem kids_sh {m : PyData} (h : Trm m) : ∀ q ∈ kidsD m, Trm q.1 := fun q hq => by
  refine (trm_parts h).2 q.1 ?_
  rw [← kids_fst h.1]
  exact List.mem_map_of_mem hq
/-- the sizes of the parts -/
def kidsZ (qs : List (PyData × List Str)) : Nat := pszL (qs.map (·.1))
theorem kids_psz {m : PyData} (h : isTermD m = true) : kidsZ (kidsD m) < psz m := by
  unfold kidsZ
  rw [kids_fst h]
  exact partsD_lt (pts_some h)
theorem kids_lt {m : PyData} (h : isTermD m = true) {q : PyData × List Str} (hq : q ∈ kidsD m) : psz q.1 < psz m := by
  have h1 := kids_psz h
  have h2 : psz q.1 ≤ kidsZ (kidsD m) := psz_in (List.mem_map_of_mem hq)
  omega
/-- a term has no list and no dict -/
theorem noListA_all : ∀ {ds : List PyData}, (∀ d ∈ ds, noList d = true) → noListA ds = true
  | [], _ => by simp [noListA]
  | d :: ds, h => by
    simp only [noListA, h d List.mem_cons_self, noListA_all fun e he => h e (List.mem_cons_of_mem _ he), Bool.and_true]
theorem noDictA_all : ∀ {ds : List PyData}, (∀ d ∈ ds, d.hasDict = false) → PyData.hasDictAll ds = false
  | [], _ => by simp [PyData.hasDictAll]
  | d :: ds, h => by
    simp only [PyData.hasDictAll, h d List.mem_cons_self, noDictA_all fun e he => h e (List.mem_cons_of_mem _ he), Bool.or_false]
def Flt (d : PyData) : Prop := noList d = true ∧ d.hasDict = false
theorem flt_tup {ds : List PyData} (h : ∀ d ∈ ds, Flt d) : Flt (.tuple ds) := by
  refine ⟨?_, ?_⟩
  · simp only [noList]
    exact noListA_all fun d hd => (h d hd).1
  · simp only [PyData.hasDict]
    exact noDictA_all fun d hd => (h d hd).2
theorem flt_str (x : Str) : Flt (.str x) := ⟨by simp [noList], by simp [PyData.hasDict]⟩
theorem flt_whole {d : PyData} (h : isWholeD d = true) : Flt d := by
  cases d with
  | int n => exact ⟨by simp [noList], by simp [PyData.hasDict]⟩
  | _ => cases h
theorem flt_text {d : PyData} (h : isTextD d = true) : Flt d := by
  cases d with
  | str x => exact flt_str x
  | _ => cases h
theorem flt_strs (xs : List Str) : Flt (.tuple (xs.map .str)) := flt_tup fun d hd => by
  obtain ⟨x, _, rfl⟩ := List.mem_map.mp hd
  exact flt_str x
theorem flt_two {a b : PyData} (ha : Flt a) (hb : Flt b) : Flt (.tuple [a, b]) := flt_tup fun d hd => by
  rcases List.mem_cons.mp hd with rfl | hd
  · exact ha
  · rw [List.mem_singleton.mp hd]
    exact hb
theorem flt_three {a b c : PyData} (ha : Flt a) (hb : Flt b) (hc : Flt c) : Flt (.tuple [a, b, c]) := flt_tup fun d hd => by
  rcases List.mem_cons.mp hd with rfl | hd
  · exact ha
  rcases List.mem_cons.mp hd with rfl | hd
  · exact hb
  · rw [List.mem_singleton.mp hd]
    exact hc
theorem trm_flat : ∀ (n : Nat) {m : PyData}, psz m ≤ n → isTermD m = true → Flt m
  | 0, m, z, _ => by
    have := psz_mems m
    omega
  | n + 1, m, z, h => by
    have dn : ∀ q ∈ kidsD m, Flt q.1 := fun q hq => trm_flat n (by have := kids_lt h hq; omega) (kids_term h q hq)
    cases view_of h with
    | name x hx => exact flt_two (flt_str _) (flt_str _)
    | whole d hd => exact flt_two (flt_str _) (flt_whole hd)
    | text d hd => exact flt_two (flt_str _) (flt_text hd)
    | hole => exact flt_tup fun d hd => by rw [List.mem_singleton.mp hd]; exact flt_str _
    | use a b ha hb => exact flt_three (flt_str _) (dn (a, []) (by rw [kids_use]; simp)) (dn (b, []) (by rw [kids_use]; simp))
    | given x a hx ha => exact flt_three (flt_str _) (flt_str _) (dn (a, [x]) (by rw [kids_given]; simp))
    | lett rs a hr ne ha =>
      refine flt_three (flt_str _) (flt_tup fun d hd => ?_) (dn (a, rs.map (·.1)) (by rw [kids_let h]; simp))
      obtain ⟨q, hq, rfl⟩ := List.mem_map.mp hd
      exact flt_two (flt_str _) (dn (q.2, rs.map (·.1)) (by rw [kids_let h]; exact List.mem_append_left _ (List.mem_map.mpr ⟨q, hq, rfl⟩)))
    | matc a rs ha ne hr =>
      refine flt_three (flt_str _) (dn (a, []) (by rw [kids_match]; simp)) (flt_tup fun d hd => ?_)
      obtain ⟨q, hq, rfl⟩ := List.mem_map.mp hd
      exact flt_three (flt_str _) (flt_strs _) (dn (q.2.2, q.2.1) (by rw [kids_match]; exact List.mem_cons_of_mem _ (List.mem_map.mpr ⟨q, hq, rfl⟩)))
theorem Trm.flat {m : PyData} (h : Trm m) : Flt m := trm_flat (psz m) (Nat.le_refl _) h.1
/-- the names that nothing binds, in reading order -/
def nameOf (m : PyData) : Option Str := if wordD m = "name" then strOf (nth 1 m) else none
def freeL : Nat → PyData → List Str → List Str
  | 0, _, _ => []
  | n + 1, m, hs => match nameOf m with
    | some x => if x ∈ hs then [] else [x]
    | none => (kidsD m).flatMap fun q => freeL n q.1 (hs ++ q.2)
/-- x is free in m, where hs are bound -/
inductive Fre : PyData → List Str → Str → Prop
  | here {m : PyData} {hs : List Str} {x : Str} (e : nameOf m = some x) (n : x ∉ hs) : Fre m hs x
  | deep {m : PyData} {hs : List Str} {x : Str} {q : PyData × List Str} (e : nameOf m = none) (hq : q ∈ kidsD m) (h : Fre q.1 (hs ++ q.2) x) : Fre m hs x
theorem free_iff : ∀ (n : Nat) {m : PyData} {hs : List Str} {x : Str}, psz m ≤ n → isTermD m = true → (x ∈ freeL n m hs ↔ Fre m hs x)
  | 0, m, _, _, z, _ => by
    have := psz_mems m
    omega
  | n + 1, m, hs, x, z, h => by
    unfold freeL
    cases e : nameOf m with
    | some y =>
      dsimp only
      by_cases c : y ∈ hs
      · rw [if_pos c]
        refine ⟨fun z => (nomatch z), fun z => ?_⟩
        cases z with
        | here e2 n2 =>
          rw [e] at e2
          cases e2
          exact absurd c n2
        | deep e2 _ _ =>
          rw [e] at e2
          cases e2
      · rw [if_neg c, List.mem_singleton]
        refine ⟨fun z => ?_, fun z => ?_⟩
        · subst z
          exact .here e c
        · cases z with
          | here e2 n2 =>
            rw [e] at e2
            cases e2
            rfl
          | deep e2 _ _ =>
            rw [e] at e2
            cases e2
    | none =>
      dsimp only
      rw [List.mem_flatMap]
      constructor
      · rintro ⟨q, hq, hx⟩
        exact .deep e hq ((free_iff n (by have := kids_lt h hq; omega) (kids_term h q hq)).mp hx)
      · intro z
        cases z with
        | here e2 n2 =>
          rw [e] at e2
          cases e2
        | deep e2 hq h2 => exact ⟨_, hq, (free_iff n (by have := kids_lt h hq; omega) (kids_term h _ hq)).mpr h2⟩
end L3

namespace L3
open PySem L2
def TupsKept (H H' : Hp) : Prop := ∀ a xs, H a = some (.tup xs) → H' a = some (.tup xs)
theorem tk_same {H H' : Hp} (s : Same H H') : TupsKept H H' := fun a xs h => s _ _ h
theorem tk_upd {H : Hp} {l : Addr} {xs ys : List V} (g : H l = some (.lst xs)) : TupsKept H (upd H l (.lst ys)) := fun a zs z => by
  rw [upd_ne (fun e => by rw [e, g] at z; cases z)]
  exact z
theorem TupsKept.trans {H H1 H2 : Hp} (a : TupsKept H H1) (b : TupsKept H1 H2) : TupsKept H H2 := fun x xs z => b _ _ (a _ _ z)
theorem Da.tk {t : Addr} {H H' : Hp} {v : V} {d : PyData} (h : Da t H v d) (k : TupsKept H H') (f : Flt d) : Da t H' v d := h.tups k f.1 f.2
def nmsD (ns : List Str) : PyData := .tuple (ns.map .str)
def pairD (p : PyData) (ns : List Str) : PyData := .tuple [p, nmsD ns]
theorem flt_nms (ns : List Str) : Flt (nmsD ns) := flt_strs ns
theorem flt_pair {p : PyData} {ns : List Str} (h : Flt p) : Flt (pairD p ns) := flt_two h (flt_nms ns)
theorem daAll_tk {t : Addr} {H H' : Hp} (k : TupsKept H H') : ∀ {us : List V} {ds : List PyData}, DaAll t H us ds → (∀ d ∈ ds, Flt d) → DaAll t H' us ds
  | _, _, .nil, _ => .nil
  | _, _, .cons a r, f => .cons (Da.tk a k (f _ List.mem_cons_self)) (daAll_tk k r fun d hd => f d (List.mem_cons_of_mem _ hd))
theorem nms_app (bs ns : List Str) : nmsD (bs ++ ns) = .tuple (bs.map .str ++ ns.map .str) := by
  unfold nmsD
  rw [List.map_append]
/-- two tuples of names together -/
theorem cat_da {K : PySem.W.Frag} {t : Addr} {H : Hp} {u y : V} {bs ns : List Str} {Q : VK} (hu : Da t H u (nmsD bs)) (hy : Da t H y (nmsD ns)) (hz : bs.length + ns.length ≤ 100000) (k : ∀ x H', Same H H' → Da t H' x (nmsD (bs ++ ns)) → Q x H') : rCatA K u y H Q := by
  obtain ⟨a, xs, rfl, ga, da⟩ := da_row (show Da t H u (.tuple (bs.map .str)) from hu)
  obtain ⟨b, ys, rfl, gb, db⟩ := da_row (show Da t H y (.tuple (ns.map .str)) from hy)
  have l1 := da.len
  have l2 := db.len
  rw [List.length_map] at l1 l2
  refine ⟨a, b, xs, ys, rfl, rfl, SqT.of ga, SqT.of gb, by rw [sizeLine_eq]; omega, fun e => ?_, fun e e2 => ?_, fun e e2 p hp => ?_⟩
  · have : bs = [] := List.length_eq_zero_iff.mp (by rw [← l1, e]; rfl)
    subst this
    exact k _ H (Same.refl H) hy
  · have : ns = [] := List.length_eq_zero_iff.mp (by rw [← l2, e2]; rfl)
    subst this
    rw [List.append_nil] at k
    exact k _ H (Same.refl H) hu
  · have s1 := same_new (o := .tup (xs ++ ys)) hp
    refine k _ _ s1 ?_
    rw [nms_app]
    exact .tup upd_same ((da.kp (kp_same s1)).app (db.kp (kp_same s1)))
theorem view_given {m : PyData} (h : View m) (e : wordD m = "given") : ∃ x a, m = .tuple [.str "given", .str x, a] := by
  cases h with
  | given x a h ha => exact ⟨x, a, rfl⟩
  | name x h => exact absurd (show ("name" : Str) = "given" from e) (by decide)
  | whole x h => exact absurd (show ("whole" : Str) = "given" from e) (by decide)
  | text x h => exact absurd (show ("text" : Str) = "given" from e) (by decide)
  | hole => exact absurd (show ("hole" : Str) = "given" from e) (by decide)
  | use a b ha hb => exact absurd (show ("use" : Str) = "given" from e) (by decide)
  | lett rs a hr ne ha => exact absurd (show ("let" : Str) = "given" from e) (by decide)
  | matc a rs ha ne hr => exact absurd (show ("match" : Str) = "given" from e) (by decide)
theorem view_let {m : PyData} (h : View m) (e : wordD m = "let") : ∃ (rs : List (Str × PyData)) (a : PyData), m = .tuple [.str "let", .tuple (rs.map rowP), a] := by
  cases h with
  | lett rs a hr ne ha => exact ⟨rs, a, rfl⟩
  | name x h => exact absurd (show ("name" : Str) = "let" from e) (by decide)
  | whole x h => exact absurd (show ("whole" : Str) = "let" from e) (by decide)
  | text x h => exact absurd (show ("text" : Str) = "let" from e) (by decide)
  | hole => exact absurd (show ("hole" : Str) = "let" from e) (by decide)
  | use a b ha hb => exact absurd (show ("use" : Str) = "let" from e) (by decide)
  | given x a h ha => exact absurd (show ("given" : Str) = "let" from e) (by decide)
  | matc a rs ha ne hr => exact absurd (show ("match" : Str) = "let" from e) (by decide)
theorem view_match {m : PyData} (h : View m) (e : wordD m = "match") : ∃ (a : PyData) (rs : List (Str × List Str × PyData)), m = .tuple [.str "match", a, .tuple (rs.map armP)] := by
  cases h with
  | matc a rs ha ne hr => exact ⟨a, rs, rfl⟩
  | name x h => exact absurd (show ("name" : Str) = "match" from e) (by decide)
  | whole x h => exact absurd (show ("whole" : Str) = "match" from e) (by decide)
  | text x h => exact absurd (show ("text" : Str) = "match" from e) (by decide)
  | hole => exact absurd (show ("hole" : Str) = "match" from e) (by decide)
  | use a b ha hb => exact absurd (show ("use" : Str) = "match" from e) (by decide)
  | given x a h ha => exact absurd (show ("given" : Str) = "match" from e) (by decide)
  | lett rs a hr ne ha => exact absurd (show ("let" : Str) = "match" from e) (by decide)
theorem kids_plain {m : PyData} (h1 : wordD m ≠ "given") (h2 : wordD m ≠ "let") (h3 : wordD m ≠ "match") : kidsD m = (ptsD m).map fun p => (p, []) := by
  unfold kidsD
  rw [if_neg h1, if_neg h2, if_neg h3]
theorem psz_parts {m : PyData} (h : isTermD m = true) : (ptsD m).length < psz m := by
  have h1 := partsD_lt (pts_some h)
  have h2 := pszL_len (ptsD m)
  omega
theorem da_strs {t : Addr} {H : Hp} : ∀ xs : List Str, DaAll t H (xs.map V.str) (xs.map PyData.str)
  | [] => .nil
  | x :: xs => .cons (.str x) (da_strs xs)
theorem str_eqT {x y : Str} (e : x = y) : decide (V.str x = V.str y) = true := decide_eq_true (by rw [e])
theorem str_eqF {x y : Str} (e : x ≠ y) : decide (V.str x = V.str y) = false := decide_eq_false fun z => e (by injection z)
theorem str_neT {x y : Str} (e : x ≠ y) : (!decide (V.str x = V.str y)) = true := by rw [str_eqF e]; rfl
section
variable {P : Program} {w : World} {K : PySem.W.Frag} {mg : Str → Option Value} {base : Heap}
abbrev s_bound_parts : Stmt := topS 28
abbrev N_bound_parts : List Str := ["term", "bound", "inner", "row", "part", "arm"]
theorem sc_bound_parts : FnScope N_bound_parts ["term", "bound"] (defScope s_bound_parts) := ⟨rfl, rfl, rfl, by decide +kernel, rfl, by decide +kernel, by decide +kernel⟩
def spBound : Sp := fun vs H Q _ => ∃ (t : Addr) (v u : V) (m : PyData) (bs : List Str), vs = [v, u] ∧ Da t H v m ∧ Trm m ∧ Da t H u (nmsD bs) ∧ bs.length ≤ 5000 ∧ psz m ≤ 5000 ∧
  ∀ H' l us, Same H H' → H l = none → H' l = some (.lst us) → DaAll t H' us ((kidsD m).map fun q => pairD q.1 (bs ++ q.2)) → Q (.ref l) H'
theorem ok_bound {f : Addr} {fd : FuncData} (F : Fun K "bound_parts" "bound_parts" s_bound_parts f fd) (B : Bl mg) (D_parts_in : Kn P w K mg base 5 "parts_in" ["value"] spParts) : FnOk P w K mg base CX0 6 f fd ["term", "bound"] spBound := by
  refine F.ok sc_bound_parts (fun vs H Q E h => ?_) (fun cdv A outer s H vs Q E hr h => ?_)
  · obtain ⟨t, v, u, m, bs, rfl, _⟩ := h
    rfl
  · obtain ⟨t, v, u, m, bs, rfl, hd, ho, hu, hb, hz, k⟩ := h
    have hr_parts_in : Room 5 _ := hr
    refine ⟨_, (pss_cons (ps_if (pt_cmpR op_eq (pe_ix ix_tup (pv 0) pe_int (fun _ _ => rfl)) pe_str (nomark _))
  (pss_one (ps_ret (pe_lst (pa_cons (pe_tup (pa_cons (pe_ix ix_tup (pv 0) pe_int (fun _ _ => rfl)) (pa_cons (pe_op op_catA (pv 1) (pe_tup (pa_cons (pe_ix ix_tup (pv 0) pe_int (fun _ _ => rfl)) pa_nil))) pa_nil))) pa_nil))))
  pss_nil)
  (pss_cons (ps_if (pt_cmpR op_eq (pe_ix ix_tup (pv 0) pe_int (fun _ _ => rfl)) pe_str (nomark _))
  (pss_cons (ps_set (i := 2) sc_bound_parts.nd rfl (Or.inr rfl) (pe_op op_catA (pv 1) (pe_callTy call_tuple_of (by rfl) B.tuple (by decide +kernel) (pa_cons (pe_lc (own := [("row", 3)]) rfl sc_bound_parts.nd (pi_tup (pe_ix ix_tup (pv 0) pe_int (fun _ _ => rfl))) (blkOk_by (N := N_bound_parts) (sc := (defScope s_bound_parts)) (own := [("row", 3)]) (by decide +kernel)) (fun _ _ _ _ _ => (pg_name (i := 3) sc_bound_parts.nd rfl (Or.inl rfl))) (fun _ _ _ _ _ => pts_nil) (fun _ _ _ _ _ => (pe_ix (show IxR _ (rIxT K) from ix_tup) (pv 3) pe_int (fun _ _ => rfl)))) pa_nil))))
  (pss_one (ps_ret (pe_lc (own := [("part", 4)]) rfl sc_bound_parts.nd (pi_list (pe_kn D_parts_in hr_parts_in (pa_cons (pv 0) pa_nil))) (blkOk_by (N := N_bound_parts) (sc := (defScope s_bound_parts)) (own := [("part", 4)]) (by decide +kernel)) (fun _ _ _ _ _ => (pg_name (i := 4) sc_bound_parts.nd rfl (Or.inl rfl))) (fun _ _ _ _ _ => pts_nil) (fun _ _ _ _ _ => (pe_tup (pa_cons (pv 4) (pa_cons (pv 2) pa_nil))))))))
  pss_nil)
  (pss_cons (ps_if (pt_cmpR op_eq (pe_ix ix_tup (pv 0) pe_int (fun _ _ => rfl)) pe_str (nomark _))
  (pss_one (ps_ret (pe_op op_cat (pe_lst (pa_cons (pe_tup (pa_cons (pe_ix ix_tup (pv 0) pe_int (fun _ _ => rfl)) (pa_cons (pv 1) pa_nil))) pa_nil)) (pe_lc (own := [("arm", 5)]) rfl sc_bound_parts.nd (pi_tup (pe_ix ix_tup (pv 0) pe_int (fun _ _ => rfl))) (blkOk_by (N := N_bound_parts) (sc := (defScope s_bound_parts)) (own := [("arm", 5)]) (by decide +kernel)) (fun _ _ _ _ _ => (pg_name (i := 5) sc_bound_parts.nd rfl (Or.inl rfl))) (fun _ _ _ _ _ => pts_nil) (fun _ _ _ _ _ => (pe_tup (pa_cons (pe_ix (show IxR _ (rIxT K) from ix_tup) (pv 5) pe_int (fun _ _ => rfl)) (pa_cons (pe_op (show OpR _ _ (rCatA K) from op_catA) (pv 1) (pe_ix (show IxR _ (rIxT K) from ix_tup) (pv 5) pe_int (fun _ _ => rfl))) pa_nil))))))))
  pss_nil)
  (pss_one (ps_ret (pe_lc (own := [("part", 4)]) rfl sc_bound_parts.nd (pi_list (pe_kn D_parts_in hr_parts_in (pa_cons (pv 0) pa_nil))) (blkOk_by (N := N_bound_parts) (sc := (defScope s_bound_parts)) (own := [("part", 4)]) (by decide +kernel)) (fun _ _ _ _ _ => (pg_name (i := 4) sc_bound_parts.nd rfl (Or.inl rfl))) (fun _ _ _ _ _ => pts_nil) (fun _ _ _ _ _ => (pe_tup (pa_cons (pv 4) (pa_cons (pv 1) pa_nil)))))))))), ?_⟩
    -- the first member
    have vw := view_of ho.1
    obtain ⟨wd, r, rfl⟩ : ∃ wd r, m = .tuple (.str wd :: r) := by
      cases vw <;> exact ⟨_, _, rfl⟩
    obtain ⟨ad, xs, rfl, ga, da⟩ := da_row hd
    obtain ⟨x0, xr, rfl, d0, dr⟩ := daAll_cons da
    cases d0
    have g0 : ∀ {H1 : Hp}, Same H H1 → SqT K H1 ad (.str wd :: xr) := fun s1 => SqT.of (s1 _ _ ga)
    refine ⟨_, rfl, ad, _, 0, _, rfl, rfl, g0 (Same.refl H), at_of (show (0 : Int) = ((0 : Nat) : Int) from rfl) rfl, rfl, _, rfl, ?_⟩
    by_cases c1 : wd = "given"
    · refine iT (str_eqT c1) ?_
      obtain ⟨x, a, e⟩ := view_given vw c1
      cases e
      obtain ⟨x1, r1, rfl, d1, dr⟩ := daAll_cons dr
      obtain ⟨x2, r2, rfl, d2, dr⟩ := daAll_cons dr
      obtain rfl := daAll_nil dr
      cases d1
      refine ⟨_, rfl, ad, _, 2, _, rfl, rfl, g0 (Same.refl H), rfl, _, rfl, _, rfl, ad, _, 1, _, rfl, rfl, g0 (Same.refl H), rfl, slz rfl, fun q hq => ?_⟩
      have s1 := same_new (o := .tup [.str x]) hq
      refine cat_da (t := t) (bs := bs) (ns := [x]) (hu.kp (kp_same s1)) (.tup upd_same (.cons (.str x) .nil)) (by simp; omega) fun y H2 s2 dy => ?_
      have S2 := s1.trans s2
      refine ⟨slz rfl, fun p hp => ⟨slz rfl, fun l hl => ?_⟩⟩
      have s3 := same_new (o := .tup [x2, y]) hp
      have s4 := same_new (o := .lst [.ref p]) hl
      refine k _ l _ (S2.trans (s3.trans s4)) ((S2.trans s3).free hl) upd_same ?_
      refine .cons (.tup (s4 _ _ upd_same) (.cons (d2.kp (kp_same (S2.trans (s3.trans s4)))) (.cons (dy.kp (kp_same (s3.trans s4))) .nil))) .nil
    refine iF (str_eqF c1) ?_
    -- over the parts, each with the names ns
    have parts : ∀ (y : V) (ns : List Str) (H1 H2 : Hp) (l D : Addr) (ws : List V), Same H H1 → Same H1 H2 → Da t H1 y (nmsD ns) → H1 l = none → H2 l = some (.lst ws) → DaAll t H ws (ptsD (.tuple (.str wd :: r))) → H2 D = none → (kidsD (.tuple (.str wd :: r))).map (fun q => pairD q.1 (bs ++ q.2)) = (ptsD (.tuple (.str wd :: r))).map (fun p => pairD p ns) →
        ∀ (i : Nat) (z : V) (H3 : Hp), i < ws.length → (Same H2 H3 ∧ ∃ us, H3 D = some (.lst us) ∧ DaAll t H3 us (((ptsD (.tuple (.str wd :: r))).take i).map fun p => pairD p ns)) → ws[i]? = some z → ∀ p, H3 p = none → ∃ acc, upd H3 p (.tup [z, y]) D = some (.lst acc) ∧ acc.length < sizeLine ∧
          (Same H2 (upd (upd H3 p (.tup [z, y])) D (.lst (acc ++ [.ref p]))) ∧ ∃ us, upd (upd H3 p (.tup [z, y])) D (.lst (acc ++ [.ref p])) D = some (.lst us) ∧ DaAll t (upd (upd H3 p (.tup [z, y])) D (.lst (acc ++ [.ref p]))) us (((ptsD (.tuple (.str wd :: r))).take (i + 1)).map fun p => pairD p ns)) := by
      intro y ns H1 H2 l D ws s1 s2 dy nl gl dl hD ek i z H3 hi ⟨s3, us, g3, k3⟩ ez p hp
      obtain ⟨d, ed, dd⟩ := da_at dl ez
      have td : Trm d := (trm_parts ho).2 d (List.mem_of_getElem? ed)
      have fl : ∀ e ∈ (ptsD (.tuple (.str wd :: r))).map (fun p => pairD p ns), Flt e := fun e he => by
        obtain ⟨p, hp, rfl⟩ := List.mem_map.mp he
        exact flt_pair ((trm_parts ho).2 p hp).flat
      have s4 := same_new (o := .tup [z, y]) hp
      have g4 := s4 _ _ g3
      have lu := k3.len
      rw [List.length_map, List.length_take] at lu
      have lp := dl.len
      have ls := psz_parts ho.1
      refine ⟨us, g4, szl (by omega), fun b o e => ?_, _, upd_same, ?_⟩
      · rw [upd_ne (ne_of_none e hD)]
        exact s4 _ _ (s3 _ _ e)
      · have tk := tk_upd (ys := us ++ [.ref p]) g4
        rw [List.take_add_one, ed, List.map_append]
        refine (daAll_tk ((tk_same s4).trans tk) k3 fun e he => ?_).app (.cons (.tup (tk _ _ upd_same) (.cons (Da.tk dd ((tk_same (s1.trans (s2.trans (s3.trans s4)))).trans tk) td.flat) (.cons (Da.tk dy ((tk_same (s2.trans (s3.trans s4))).trans tk) (flt_nms ns)) .nil))) .nil)
        obtain ⟨q, hq, rfl⟩ := List.mem_map.mp he
        exact flt_pair ((trm_parts ho).2 q (List.mem_of_mem_take hq)).flat
    refine ⟨_, rfl, ad, _, 0, _, rfl, rfl, g0 (Same.refl H), at_of (show (0 : Int) = ((0 : Nat) : Int) from rfl) rfl, rfl, _, rfl, ?_⟩
    by_cases c2 : wd = "let"
    · refine iT (str_eqT c2) ?_
      obtain ⟨rs, a, e⟩ := view_let vw c2
      cases e
      obtain ⟨x1, r1, rfl, d1, dr⟩ := daAll_cons dr
      obtain ⟨x2, r2, rfl, d2, dr⟩ := daAll_cons dr
      obtain rfl := daAll_nil dr
      obtain ⟨a1, ys, rfl, g1, dys⟩ := da_row d1
      have lys := dys.len
      rw [List.length_map] at lys
      have lps := psz_parts ho.1
      have ep := pts_let (pts_some ho.1)
      have lrs : rs.length ≤ 5000 := by
        rw [ep, List.length_append, List.length_map] at lps
        omega
      refine ⟨_, rfl, _, rfl, ad, _, 1, _, rfl, rfl, g0 (Same.refl H), rfl, a1, rfl, ⟨_, SqT.of g1⟩, fun D hD => lc_it walk_tup (fun i H' => Same H H' ∧ H' D = some (.lst (((rs.take i).map (·.1)).map V.str))) ⟨same_new hD, upd_same⟩ (fun i H' _ h => SqT.of (h.1 _ _ g1)) ?_ ?_⟩
      · rintro i y H1 H2 hi ⟨s1, gD⟩ ⟨rfl, ey⟩
        obtain ⟨e, he, de⟩ := da_at dys ey
        rw [List.getElem?_map] at he
        obtain ⟨q, hq, rfl⟩ := Option.map_eq_some_iff.mp he
        obtain ⟨ar, zs, rfl, gr, dz⟩ := da_row (show Da t H y (.tuple [.str q.1, q.2]) from de)
        obtain ⟨z0, q0, rfl, dz0, dz⟩ := daAll_cons dz
        cases dz0
        refine ⟨rfl, ?_⟩
        refine ⟨_, rfl, ar, _, 0, _, rfl, rfl, SqT.of (s1 _ _ gr), at_of (show (0 : Int) = ((0 : Nat) : Int) from rfl) rfl, _, gD, szl (by rw [List.length_map, List.length_map, List.length_take]; omega), fun b o e => ?_, ?_⟩
        · rw [upd_ne (ne_of_none e hD)]
          exact s1 _ _ e
        · rw [upd_same, List.take_add_one, hq, List.map_append, List.map_append]
          rfl
      rintro H1 ⟨s1, gD⟩
      rw [lys, List.take_length] at gD
      refine ⟨D, _, rfl, .inl ⟨SqL.of gD, fun q hq => ?_⟩⟩
      have s2 := same_new (o := .tup ((rs.map (·.1)).map V.str)) hq
      have dq : Da t (upd H1 q (.tup ((rs.map (·.1)).map V.str))) (.ref q) (nmsD (rs.map (·.1))) := .tup upd_same (da_strs _)
      refine cat_da (t := t) (hu.kp (kp_same (s1.trans s2))) dq (by rw [List.length_map]; omega) fun y H2 s3 dy => ?_
      have S3 := s1.trans (s2.trans s3)
      refine ⟨_, rfl, t, .ref ad, _, H, rfl, S3, hd, ho.2, fun z => (by rw [pts_some ho.1] at z; cases z), fun ps eps H3 l ws s4 hl gl dl => ?_⟩
      obtain rfl : ps = ptsD _ := by rw [pts_some ho.1] at eps; exact (Option.some.inj eps).symm
      refine ⟨l, rfl, ⟨_, SqL.of gl⟩, fun D2 hD2 => lc_it walk_list (fun i H' => Same H3 H' ∧ ∃ us, H' D2 = some (.lst us) ∧ DaAll t H' us (((ptsD (.tuple [.str "let", .tuple (rs.map rowP), a])).take i).map fun p => pairD p (bs ++ rs.map (·.1)))) ⟨same_new hD2, [], upd_same, .nil⟩ (fun i H' _ h => SqL.of (h.1 _ _ gl)) ?_ ?_⟩
      · rintro i z H4 H5 hi h5 ⟨rfl, ez⟩
        refine ⟨rfl, _, rfl, _, rfl, slz rfl, fun p hp => ?_⟩
        exact parts y (bs ++ rs.map (·.1)) _ H3 l D2 ws S3 s4 dy hl gl (dl.kp (kp_same (Same.refl H))) hD2 (by rw [kids_let ho.1, ep]; simp [List.map_map]) i z _ hi h5 ez p hp
      · rintro H4 ⟨s5, us, g5, k5⟩
        have lw := dl.len
        rw [lw, List.take_length] at k5
        refine k H4 D2 us (S3.trans (s4.trans s5)) ((S3.trans s4).free hD2) g5 ?_
        have ek : (kidsD (.tuple [.str "let", .tuple (rs.map rowP), a])).map (fun q => pairD q.1 (bs ++ q.2)) = (ptsD (.tuple [.str "let", .tuple (rs.map rowP), a])).map fun p => pairD p (bs ++ rs.map (·.1)) := by
          rw [kids_let ho.1, ep]
          simp [List.map_map]
        rw [ek]
        exact k5
    refine iF (str_eqF c2) ?_
    refine ⟨_, rfl, ad, _, 0, _, rfl, rfl, g0 (Same.refl H), at_of (show (0 : Int) = ((0 : Nat) : Int) from rfl) rfl, rfl, _, rfl, ?_⟩
    by_cases c3 : wd = "match"
    · refine iT (str_eqT c3) ?_
      obtain ⟨a, rs, e⟩ := view_match vw c3
      cases e
      obtain ⟨x1, r1, rfl, d1, dr⟩ := daAll_cons dr
      obtain ⟨x2, r2, rfl, d2, dr⟩ := daAll_cons dr
      obtain rfl := daAll_nil dr
      obtain ⟨a1, ys, rfl, g1, dys⟩ := da_row d2
      have lys := dys.len
      rw [List.length_map] at lys
      have lps := psz_parts ho.1
      have ep := pts_match (pts_some ho.1)
      have lrs : rs.length ≤ 5000 := by
        rw [ep, List.length_cons, List.length_map] at lps
        omega
      have ek : (kidsD (.tuple [.str "match", a, .tuple (rs.map armP)])).map (fun q => pairD q.1 (bs ++ q.2)) = [pairD a bs] ++ rs.map fun q => pairD q.2.2 (bs ++ q.2.1) := by
        rw [kids_match]
        simp [List.map_map, Function.comp_def]
      have fl : ∀ q ∈ rs, Flt (pairD q.2.2 (bs ++ q.2.1)) := fun q hq => flt_pair ((trm_parts ho).2 q.2.2 (by rw [ep]; exact List.mem_cons_of_mem _ (List.mem_map.mpr ⟨q, hq, rfl⟩))).flat
      have fa : Flt (pairD a bs) := flt_pair ((trm_parts ho).2 a (by rw [ep]; exact List.mem_cons_self)).flat
      refine ⟨_, rfl, ad, _, 1, _, rfl, rfl, g0 (Same.refl H), rfl, _, rfl, slz rfl, fun p0 hp0 => ⟨slz rfl, fun l0 hl0 => ?_⟩⟩
      have sA := same_new (o := .tup [x1, u]) hp0
      have sB := same_new (o := .lst [.ref p0]) hl0
      have s1 := sA.trans sB
      have gl0 := upd_same (H := upd H p0 (.tup [x1, u])) (a := l0) (o := .lst [.ref p0])
      have gp0 := sB _ _ (upd_same (H := H) (a := p0) (o := .tup [x1, u]))
      have nl0 : H l0 = none := sA.free hl0
      have da0 : Da t (upd (upd H p0 (.tup [x1, u])) l0 (.lst [.ref p0])) (.ref p0) (pairD a bs) := .tup gp0 (.cons (d1.kp (kp_same s1)) (.cons (hu.kp (kp_same s1)) .nil))
      generalize upd (upd H p0 (.tup [x1, u])) l0 (.lst [.ref p0]) = H1 at s1 gl0 da0 ⊢
      refine ⟨_, rfl, ad, _, 2, _, rfl, rfl, g0 s1, rfl, a1, rfl, ⟨_, SqT.of (s1 _ _ g1)⟩, fun D hD => lc_it walk_tup (fun i H' => Same H1 H' ∧ ∃ us, H' D = some (.lst us) ∧ DaAll t H' us ((rs.take i).map fun q => pairD q.2.2 (bs ++ q.2.1))) ⟨same_new hD, [], upd_same, .nil⟩ (fun i H' _ h => SqT.of (h.1 _ _ (s1 _ _ g1))) ?_ ?_⟩
      · rintro i z H2 H3 hi ⟨s2, us, gD, kD⟩ ⟨rfl, ez⟩
        obtain ⟨e, he, de⟩ := da_at dys ez
        rw [List.getElem?_map] at he
        obtain ⟨q, hq, rfl⟩ := Option.map_eq_some_iff.mp he
        have mq := List.mem_of_getElem? hq
        obtain ⟨ar, zs, rfl, gr, dz⟩ := da_row (show Da t H z (.tuple [.str q.1, nmsD q.2.1, q.2.2]) from de)
        obtain ⟨z0, q0, rfl, dz0, dz⟩ := daAll_cons dz
        obtain ⟨z1, q1, rfl, dz1, dz⟩ := daAll_cons dz
        obtain ⟨z2, q2, rfl, dz2, dz⟩ := daAll_cons dz
        obtain rfl := daAll_nil dz
        have S2 := s1.trans s2
        have lq : q.2.1.length ≤ 5000 := by
          have h1 := psz_in (List.mem_map_of_mem (f := armP) mq)
          have h2 : q.2.1.length ≤ psz (armP q) := by
            have := pszL_len (q.2.1.map PyData.str)
            rw [List.length_map] at this
            simp only [armP, psz, pszL]
            omega
          have h3 : pszL (rs.map armP) ≤ psz (.tuple [.str "match", a, .tuple (rs.map armP)]) := by
            simp only [psz, pszL]
            omega
          omega
        have lu := kD.len
        rw [List.length_map, List.length_take] at lu
        refine ⟨rfl, _, rfl, ar, _, 2, _, rfl, rfl, SqT.of (S2 _ _ gr), rfl, _, rfl, _, rfl, ar, _, 1, _, rfl, rfl, SqT.of (S2 _ _ gr), rfl, ?_⟩
        refine cat_da (t := t) (hu.kp (kp_same S2)) (dz1.kp (kp_same S2)) (by omega) fun y H4 s3 dy => ⟨slz rfl, fun p hp => ?_⟩
        have s4 := same_new (o := .tup [z2, y]) hp
        have g4 := s4 _ _ (s3 _ _ gD)
        have tk := tk_upd (ys := us ++ [.ref p]) g4
        have tk0 := (tk_same (s3.trans s4)).trans tk
        refine ⟨us, g4, szl (by omega), fun b o e => ?_, _, upd_same, ?_⟩
        · rw [upd_ne (ne_of_none e hD)]
          exact s4 _ _ (s3 _ _ (s2 _ _ e))
        · rw [List.take_add_one, hq, List.map_append]
          refine (daAll_tk tk0 kD fun e he => ?_).app (.cons (.tup (tk _ _ upd_same) (.cons (Da.tk dz2 ((tk_same S2).trans tk0) ((trm_parts ho).2 q.2.2 (by rw [ep]; exact List.mem_cons_of_mem _ (List.mem_map.mpr ⟨q, mq, rfl⟩))).flat) (.cons (Da.tk dy ((tk_same s4).trans tk) (flt_nms _)) .nil))) .nil)
          obtain ⟨q', hq', rfl⟩ := List.mem_map.mp he
          exact fl q' (List.mem_of_mem_take hq')
      · rintro H2 ⟨s2, us, gD, kD⟩
        rw [lys, List.take_length] at kD
        have lu := kD.len
        rw [List.length_map] at lu
        refine ⟨l0, D, [.ref p0], us, rfl, rfl, s2 _ _ gl0, gD, by rw [sizeLine_eq]; show 1 + us.length ≤ _; omega, fun p hp => ?_⟩
        have s3 := same_new (o := .lst ([.ref p0] ++ us)) hp
        refine k _ p _ (s1.trans (s2.trans s3)) ((s1.trans s2).free hp) upd_same ?_
        rw [ek]
        exact (DaAll.cons (da0.kp (kp_same (s2.trans s3))) .nil).app (kD.kp (kp_same s3))
    · refine iF (str_eqF c3) ?_
      refine ⟨_, rfl, t, .ref ad, _, H, rfl, Same.refl H, hd, ho.2, fun z => (by rw [pts_some ho.1] at z; cases z), fun ps eps H3 l ws s4 hl gl dl => ?_⟩
      obtain rfl : ps = ptsD _ := by rw [pts_some ho.1] at eps; exact (Option.some.inj eps).symm
      have ek : (kidsD (.tuple (.str wd :: r))).map (fun q => pairD q.1 (bs ++ q.2)) = (ptsD (.tuple (.str wd :: r))).map fun p => pairD p bs := by
        rw [kids_plain (m := .tuple (.str wd :: r)) c1 c2 c3]
        simp [List.map_map]
      refine ⟨l, rfl, ⟨_, SqL.of gl⟩, fun D2 hD2 => lc_it walk_list (fun i H' => Same H3 H' ∧ ∃ us, H' D2 = some (.lst us) ∧ DaAll t H' us (((ptsD (.tuple (.str wd :: r))).take i).map fun p => pairD p bs)) ⟨same_new hD2, [], upd_same, .nil⟩ (fun i H' _ h => SqL.of (h.1 _ _ gl)) ?_ ?_⟩
      · rintro i z H4 H5 hi h5 ⟨rfl, ez⟩
        refine ⟨rfl, _, rfl, _, rfl, slz rfl, fun p hp => ?_⟩
        exact parts u bs H H3 l D2 ws (Same.refl H) s4 hu hl gl dl hD2 ek i z _ hi h5 ez p hp
      · rintro H4 ⟨s5, us, g5, k5⟩
        have lw := dl.len
        rw [lw, List.take_length] at k5
        refine k H4 D2 us (s4.trans s5) (s4.free hD2) g5 ?_
        rw [ek]
        exact k5
end
end L3

/-! zip(t, l), t a tuple, l a list -/
namespace L3
open PySem PySem.Spec PyProof.Rows L2
/-- the pairs (t[i], l[i]), each new -/
def Izm (K : PySem.W.Frag) (a b : Addr) : It :=
  ⟨fun i H => ∃ (xs ys : List V) (x y : V), SqT K H a xs ∧ SqL K H b ys ∧ xs[i]? = some x ∧ ys[i]? = some y,
   fun i H v H' => ∃ T x y, v = .ref T ∧ H T = none ∧ H' = upd H T (.tup [x, y]) ∧ (∀ xs, SqT K H a xs → xs[i]? = some x) ∧ (∀ ys, SqL K H b ys → ys[i]? = some y),
   fun i H => ∃ xs ys : List V, SqT K H a xs ∧ SqL K H b ys ∧ i ≤ xs.length ∧ i ≤ ys.length ∧ (i = xs.length ∨ i = ys.length)⟩
theorem turn_zipM {P : Program} {w : World} {K : PySem.W.Frag} {elts : List Expr} {kk : Nat} {tpos : Pos} {a b z TI TO i1 i2 : Addr} (S : ZipSep2 z TI TO i1 i2 [i1, a] [i2, b]) (na : a ≠ i1) (nb : b ≠ i2) :
    Turn P w K (.Tuple elts kk tpos) (Izm K a b) [z, TI, TO, i1, i2] z (fun i h => IsZip h z TI TO .none ∧ IsTupOf2 h TI (.ref i1) (.ref i2) ∧ (∃ p q, IsTupOf2 h TO p q) ∧ h.IsTupleIter i1 a i ∧ h.IsListIter i2 b i) where
  mem := List.mem_cons_self ..
  obj := by
    rintro i h ⟨hz, hTI, ⟨p, q, hTO⟩, ⟨o1, e1, _, d1⟩, ⟨o2, e2, _, d2⟩⟩ c hc
    have hc : c = z ∨ c = TI ∨ c = TO ∨ c = i1 ∨ c = i2 := by simpa using hc
    rcases hc with rfl | rfl | rfl | rfl | rfl
    · exact ⟨_, hz, fun v r => nomatch r⟩
    · exact ⟨_, hTI, fun v r => nomatch r⟩
    · exact ⟨_, hTO, fun v r => nomatch r⟩
    · exact ⟨o1, e1, fun v r => by rw [d1] at r; cases r⟩
    · exact ⟨o2, e2, fun v r => by rw [d2] at r; cases r⟩
  keep := by
    rintro i h h' ⟨hz, hTI, ⟨p, q, hTO⟩, h1, h2⟩ k
    exact ⟨k z (by simp) _ hz, k TI (by simp) _ hTI, ⟨p, q, k TO (by simp) _ hTO⟩, h1.at fun o r => k i1 (by simp) o r, h2.at fun o r => k i2 (by simp) o r⟩
  item := by
    intro X hP hw hK hc i pins s σ H E I hf st hg
    subst hP hw hK
    obtain ⟨hz, hTI, ⟨p0, q0, hTO⟩, h1, h2⟩ := st
    obtain ⟨xs, ys, x, y, hqx, hqy, hx, hy⟩ := hg
    obtain ⟨it1, rv1, pl1, _⟩ := I.tuple hqx
    obtain ⟨it2, rv2, pl2, _⟩ := I.list hqy
    obtain ⟨u, hu, ru⟩ := rv1.get hx
    obtain ⟨u2, hu2, ru2⟩ := rv2.get hy
    have lt1 : i < it1.toArray.size := by
      obtain ⟨r, _⟩ := List.getElem?_eq_some_iff.mp hu
      simpa using r
    have lt2 : i < it2.toArray.size := by
      obtain ⟨r, _⟩ := List.getElem?_eq_some_iff.mp hu2
      simpa using r
    have hh : X.A.in1.handled = none := I.ok.hd hc
    have lz : z < s.heap.objs.size := Heap.lt_size hz
    have lI : TI < s.heap.objs.size := Heap.lt_size hTI
    have lO : TO < s.heap.objs.size := Heap.lt_size hTO
    have l1 : i1 < s.heap.objs.size := by obtain ⟨_, r, _⟩ := h1; exact Heap.lt_size r
    have l2 : i2 < s.heap.objs.size := by obtain ⟨_, r, _⟩ := h2; exact Heap.lt_size r
    refine wpAny_pyNext_zipD2_item S (Draws.tuple hh i1 a na it1.toArray) (Draws.list hh i2 b nb it2.toArray) hz hTI hTO ⟨h1, pl1⟩ ⟨h2, pl2.isList⟩ lt1 lt2 fun y1 y2 h' tk hy1 hy2 hz' hTO' st1' st2' hT hsz hk => ?_
    have e1 : y1 = u := by
      have r : it1[i]? = some y1 := by simpa using hy1
      rw [hu] at r
      exact (Option.some.inj r).symm
    have e2 : y2 = u2 := by
      have r : it2[i]? = some y2 := by simpa using hy2
      rw [hu2] at r
      exact (Option.some.inj r).symm
    subst e1 e2
    refine ⟨_, rfl, wpAny_letOwnedTupleGo_zip (s := { s with heap := h', toks := tk }) hz' fun h'' hz2 sb => ?_⟩
    have at2 : h''.get? s.heap.objs.size = some { cls := .type "tuple", data := .seq #[y1, y2] } := (sb.2 _ (Nat.ne_of_gt lz)).trans hT
    have new : ObjOk X.prog X.w (upd H s.heap.objs.size (.tup [x, y])) h'' s.heap.objs.size (.tup [x, y]) :=
      ⟨by show 2 ≤ sizeLine; decide, [y1, y2], .cons ru (.cons ru2 .nil), ⟨_, at2, rfl, _, rfl⟩⟩
    have J : Inv X pins σ (upd H s.heap.objs.size (.tup [x, y])) { s with heap := h'', toks := tk } :=
      I.turnedNew (t' := tk) (ch := [z, TI, TO, i1, i2]) (fun c o hb r => (sb.2 c (fun e => hb (by simp [e]))).trans (hk c o (fun e => hb (by simp [e])) (fun e => hb (by simp [e])) (fun e => hb (by simp [e])) (fun e => hb (by simp [e])) r)) hf (Nat.le_refl _) new
    refine ⟨.ref s.heap.objs.size, _, J, rfl, ⟨_, x, y, rfl, I.hok.fresh (Nat.le_refl _), rfl, fun l hl => by rw [I.tuple_inj hl hqx]; exact hx, fun l hl => by rw [I.list_inj hl hqy]; exact hy⟩, ⟨hz2, ?_, ⟨y1, y2, ?_⟩, st1'.1.at fun o r => (sb.2 _ (Ne.symm S.zi1)).trans r, st2'.1.at fun o r => (sb.2 _ (Ne.symm S.zi2)).trans r⟩, fun c hcm => ?_⟩
    · exact (sb.2 _ S.TIz).trans (hk _ _ S.TIz S.TITO S.TIi1 S.TIi2 hTI)
    · exact (sb.2 _ S.TOz).trans hTO'
    · have lc : c < s.heap.objs.size := by
        have hcm : c = z ∨ c = TI ∨ c = TO ∨ c = i1 ∨ c = i2 := by simpa using hcm
        rcases hcm with rfl | rfl | rfl | rfl | rfl <;> assumption
      rw [upd_ne (Nat.ne_of_lt lc)]
      exact (hf c hcm).1
  done := by
    intro X hP hw hK hc i pins s σ H E I hf st hg
    subst hP hw hK
    obtain ⟨hz, hTI, ⟨p0, q0, hTO⟩, h1, h2⟩ := st
    obtain ⟨xs, ys, hqx, hqy, le1, le2, he⟩ := hg
    obtain ⟨it1, rv1, pl1, _⟩ := I.tuple hqx
    obtain ⟨it2, rv2, pl2, _⟩ := I.list hqy
    have n1 : it1.toArray.size = xs.length := by rw [List.size_toArray, ← rv1.length]
    have n2 : it2.toArray.size = ys.length := by rw [List.size_toArray, ← rv2.length]
    have hh : X.A.in1.handled = none := I.ok.hd hc
    refine wpAny_pyNext_zipD2_end S (Draws.tuple hh i1 a na it1.toArray) (Draws.list hh i2 b nb it2.toArray) hz hTI hTO ⟨h1, pl1⟩ ⟨h2, pl2.isList⟩ (by omega) (by omega) (by omega) fun h' tk hk => ?_
    exact ⟨rfl, I.turnedL (t' := tk) (ch := [z, TI, TO, i1, i2]) (fun c o hb r => hk c o (fun e => hb (by simp [e])) (fun e => hb (by simp [e])) (fun e => hb (by simp [e])) (fun e => hb (by simp [e])) r) hf⟩
  self := fun A i s Q E st h => wpAny_pyIter_zip st.1 h
def iZipM (K : PySem.W.Frag) (ta : TA) : TI := fun σ H R => ta σ H fun vs H1 => ∃ a b xs ys, vs = [.ref a, .ref b] ∧ SqT K H1 a xs ∧ SqL K H1 b ys ∧ R (Izm K a b) H1
theorem pi_zipM {X : Cx} {e e2 : Expr} {ta : TA} {p pos tpos : Pos} {elts : List Expr} {kk : Nat} (hg : Gl X "zip") (hm : X.mg "zip" = none) (ha : PA X [e, e2] ta)
    (hs : starEach [e, e2] X.env = (false, eval e X.env) :: starEach [e2] X.env := by rfl) (hpl : (backTo pos (starEach [e2] X.env)).any (·.1) = false := by rfl) :
    PI X (.Tuple elts kk tpos) (.Call (.Name "zip" p) [e, e2] [] pos) (iZipM X.K ta) := by
  refine ⟨fun pins s σ H R I h => ?_⟩
  refine Call_ (ld_blt I hg hm PyProof.Rows.boot_zip (PyProof.Rows.callWith_type1 (thn (ha.run pos pins s σ H _ I h) fun us s1 ⟨vs, H1, I1, r1, a, b, xs, ys, ev, hqx, hqy, q⟩ => ?_) hs hpl))
  subst ev
  cases r1 with
  | cons r rr =>
    cases rr with
    | cons r2 rr =>
      cases rr
      cases r
      cases r2
      obtain ⟨it1, rv1, pl1, _⟩ := I1.tuple hqx
      obtain ⟨it2, rv2, pl2, _⟩ := I1.list hqy
      have la : a < s1.heap.objs.size := by
        obtain ⟨_, r, _⟩ := id pl1
        exact Heap.lt_size r
      have lb : b < s1.heap.objs.size := pl2.lt
      refine zip_begins2 (begins_tuple a it1.toArray) (begins_list b it2.toArray) pl1 pl2.isList fun h' hz hTI hTO g1 g2 hsz hk => wpAny_pyIter_zip hz ?_
      have J : Inv X pins σ H1 { s1 with heap := h' } := I1.kept (t' := s1.toks) hk
      have S : ZipSep2 (s1.heap.objs.size + 4) (s1.heap.objs.size + 2) (s1.heap.objs.size + 3) s1.heap.objs.size (s1.heap.objs.size + 1) [s1.heap.objs.size, a] [s1.heap.objs.size + 1, b] := by
        generalize s1.heap.objs.size = m at la lb
        have ma : ∀ k, m + k ≠ a := fun k => Nat.ne_of_gt (Nat.lt_of_lt_of_le la (Nat.le_add_right m k))
        have mb : ∀ k, m + k ≠ b := fun k => Nat.ne_of_gt (Nat.lt_of_lt_of_le lb (Nat.le_add_right m k))
        have m0 : m ≠ b := mb 0
        have mm : ∀ {k l : Nat}, k ≠ l → m + k ≠ m + l := fun h e => h (Nat.add_left_cancel e)
        have m1 : ∀ {k : Nat}, k ≠ 0 → m + k ≠ m := fun h e => h (Nat.add_left_cancel (k := 0) e)
        exact ⟨mm (by decide), mm (by decide), mm (by decide), m1 (by decide), by simp, fun h => by
            rcases List.mem_cons.mp h with h | h
            · exact m1 (by decide) h
            · exact ma 4 (List.mem_singleton.mp h), fun h => by
            rcases List.mem_cons.mp h with h | h
            · exact m1 (by decide) h
            · exact ma 3 (List.mem_singleton.mp h), mm (by decide), by simp, fun h => by
            rcases List.mem_cons.mp h with h | h
            · exact mm (by decide) h
            · exact mb 4 (List.mem_singleton.mp h), fun h => by
            rcases List.mem_cons.mp h with h | h
            · exact mm (by decide) h
            · exact mb 3 (List.mem_singleton.mp h), fun h => by
            rcases List.mem_cons.mp h with h | h
            · exact m1 (k := 1) (by decide) h.symm
            · exact m0 (List.mem_singleton.mp h), fun h => by
            rcases List.mem_cons.mp h with h | h
            · exact m1 (k := 1) (by decide) h
            · exact ma 1 (List.mem_singleton.mp h)⟩
      refine ⟨s1.heap.objs.size + 4, [s1.heap.objs.size + 4, s1.heap.objs.size + 2, s1.heap.objs.size + 3, s1.heap.objs.size, s1.heap.objs.size + 1], _, _, H1, rfl, J, turn_zipM S (Nat.ne_of_lt la) (Nat.ne_of_lt (Nat.lt_succ_of_lt lb)), ⟨hz, hTI, ⟨_, _, hTO⟩, ⟨_, g1, rfl, rfl⟩, ⟨_, g2, rfl, rfl⟩⟩, fun c hcm => ?_, q⟩
      have lc : s1.heap.objs.size ≤ c := by
        have hcm : c = s1.heap.objs.size + 4 ∨ c = s1.heap.objs.size + 2 ∨ c = s1.heap.objs.size + 3 ∨ c = s1.heap.objs.size ∨ c = s1.heap.objs.size + 1 := by simpa using hcm
        rcases hcm with rfl | rfl | rfl | rfl | rfl <;> first | exact Nat.le_refl _ | exact Nat.le_add_right _ _
      exact I1.fpOk lc (I1.hok.fresh lc)
theorem walk_zipM {K : PySem.W.Frag} {a b : Addr} {xs ys : List V} {n : Nat} (hn : n = min xs.length ys.length) : Walk (Izm K a b) n (fun H => SqT K H a xs ∧ SqL K H b ys) (YPair (fun i => xs[i]?) (fun i => ys[i]?)) := by
  subst hn
  refine ⟨fun i _ hi r => ⟨xs, ys, xs[i]'(by omega), ys[i]'(by omega), r.1, r.2, List.getElem?_eq_getElem (by omega), List.getElem?_eq_getElem (by omega)⟩, fun _ r => ⟨xs, ys, r.1, r.2, by omega, by omega, by omega⟩, fun i H v H' _ r y => ?_⟩
  obtain ⟨T, x, z, e1, e2, e3, e4, e5⟩ := y
  exact ⟨T, x, z, e1, e2, e3, e4 xs r.1, e5 ys r.2⟩
end L3

namespace L3
open PySem L2
inductive Row
  | arm (c : Str) (bs : List Str)
  | part (m : PyData) (bs : List Str)
def markD (c : Str) : PyData := .tuple [.str "arm", .str c]
def Row.d : Row → PyData
  | .arm c bs => pairD (markD c) bs
  | .part m bs => pairD m bs
/-- a mark, or a part that is a term -/
def Row.ok : Row → Prop
  | .arm _ _ => True
  | .part m _ => Trm m
theorem flt_mark (c : Str) : Flt (markD c) := flt_two (flt_str _) (flt_str _)
theorem Row.flat {r : Row} (h : r.ok) : Flt r.d := by
  cases r with
  | arm c bs => exact flt_pair (flt_mark c)
  | part m bs => exact flt_pair (Trm.flat h)
def rowsA (m : PyData) (bs : List Str) : List Row :=
  if wordD m = "match" then .part (nth 1 m) bs :: (mems (nth 2 m)).flatMap fun a => [.arm ((strOf (nth 0 a)).getD "") bs, .part (nth 2 a) (bs ++ strsD (nth 1 a))]
  else (kidsD m).map fun q => .part q.1 (bs ++ q.2)
theorem rowsA_match {a : PyData} {rs : List (Str × List Str × PyData)} {bs : List Str} : rowsA (.tuple [.str "match", a, .tuple (rs.map armP)]) bs = .part a bs :: rs.flatMap fun q => [.arm q.1 bs, .part q.2.2 (bs ++ q.2.1)] := by
  show Row.part a bs :: (rs.map armP).flatMap (fun a => [Row.arm ((strOf (nth 0 a)).getD "") bs, .part (nth 2 a) (bs ++ strsD (nth 1 a))]) = _
  rw [List.flatMap_map]
  have e : ∀ q : List (Str × List Str × PyData), q.flatMap (fun a => [Row.arm ((strOf (nth 0 (armP a))).getD "") bs, Row.part (nth 2 (armP a)) (bs ++ strsD (nth 1 (armP a)))]) = q.flatMap fun q => [.arm q.1 bs, .part q.2.2 (bs ++ q.2.1)] := by
    intro q
    induction q with
    | nil => rfl
    | cons x q ih =>
      rw [List.flatMap_cons, List.flatMap_cons, ih]
      show [Row.arm x.1 bs, Row.part x.2.2 (bs ++ (x.2.1.map PyData.str).filterMap strOf)] ++ _ = _
      rw [fm_strs]
  rw [e]
theorem rowsA_kids {m : PyData} {bs : List Str} (h : wordD m ≠ "match") : rowsA m bs = (kidsD m).map fun q => .part q.1 (bs ++ q.2) := by
  unfold rowsA
  rw [if_neg h]
section
variable {P : Program} {w : World} {K : PySem.W.Frag} {mg : Str → Option Value} {base : Heap}
abbrev s_rows_with_arms : Stmt := topS 30
abbrev N_rows_with_arms : List Str := ["term", "bound", "rows", "found", "arm", "row"]
theorem sc_rows_with_arms : FnScope N_rows_with_arms ["term", "bound"] (defScope s_rows_with_arms) := ⟨rfl, rfl, rfl, by decide +kernel, rfl, by decide +kernel, by decide +kernel⟩
def spRowsA : Sp := fun vs H Q _ => ∃ (t : Addr) (v u : V) (m : PyData) (bs : List Str), vs = [v, u] ∧ Da t H v m ∧ Trm m ∧ Da t H u (nmsD bs) ∧ bs.length ≤ 5000 ∧ psz m ≤ 5000 ∧
  ∀ H' l us, Same H H' → H l = none → H' l = some (.lst us) → DaAll t H' us ((rowsA m bs).map Row.d) → Q (.ref l) H'
theorem ok_rowsA {f : Addr} {fd : FuncData} (F : Fun K "rows_with_arms" "rows_with_arms" s_rows_with_arms f fd) (B : Bl mg) (D_bound_parts : Kn P w K mg base 6 "bound_parts" ["term", "bound"] spBound) : FnOk P w K mg base CX0 7 f fd ["term", "bound"] spRowsA := by
  refine F.ok sc_rows_with_arms (fun vs H Q E h => ?_) (fun cdv A outer s H vs Q E hr h => ?_)
  · obtain ⟨t, v, u, m, bs, rfl, _⟩ := h
    rfl
  · obtain ⟨t, v, u, m, bs, rfl, hd, ho, hu, hb, hz, k⟩ := h
    have hr_bound_parts : Room 6 _ := hr
    refine ⟨_, (pss_cons (ps_set (i := 2) sc_rows_with_arms.nd rfl (Or.inl rfl) (pe_kn D_bound_parts hr_bound_parts (pa_cons (pv 0) (pa_cons (pv 1) pa_nil))))
  (pss_cons (ps_if (pt_cmpR op_ne (pe_ix ix_tup (pv 0) pe_int (fun _ _ => rfl)) pe_str (nomark _))
  (pss_one (ps_ret (pv 2)))
  pss_nil)
  (pss_cons (ps_set (i := 3) sc_rows_with_arms.nd rfl (Or.inl rfl) (pe_slice sl_list (pv 2) po_none (po_some pe_int)))
  (pss_cons (ps_for PassesOwn.never rfl (pi_zipM (by rfl) B.zip (pa_cons (pe_ix ix_tup (pv 0) pe_int (fun _ _ => rfl)) (pa_cons (pe_slice sl_list (pv 2) (po_some pe_int) po_none) pa_nil))) (pg_tup (by rfl) (pgs_cons (pg_name (i := 4) sc_rows_with_arms.nd rfl (Or.inl rfl)) (pgs_cons (pg_name (i := 5) sc_rows_with_arms.nd rfl (Or.inl rfl)) pgs_nil)))
  (pss_cons (ps_expr (pe_bm PySem.F.plainAttrs_list PySem.F.slot_list_append PySem.F.type_list_append mt_append (pv 3) (pa_cons (pe_tup (pa_cons (pe_tup (pa_cons pe_str (pa_cons (pe_ix ix_tup (pv 4) pe_int (fun _ _ => rfl)) pa_nil))) (pa_cons (pv 1) pa_nil))) pa_nil)))
  (pss_one (ps_expr (pe_bm PySem.F.plainAttrs_list PySem.F.slot_list_append PySem.F.type_list_append mt_append (pv 3) (pa_cons (pv 5) pa_nil))))))
  (pss_one (ps_ret (pv 3))))))), ?_⟩
    refine ⟨_, rfl, _, rfl, t, v, u, m, bs, rfl, hd, ho, hu, hb, hz, fun H1 l us s1 nl gl dl => ?_⟩
    have vw := view_of ho.1
    obtain ⟨wd, r, rfl⟩ : ∃ wd r, m = .tuple (.str wd :: r) := by
      cases vw <;> exact ⟨_, _, rfl⟩
    obtain ⟨ad, xs, rfl, ga, da⟩ := da_row hd
    obtain ⟨x0, xr, rfl, d0, dr⟩ := daAll_cons da
    cases d0
    have ga1 := s1 _ _ ga
    refine ⟨_, rfl, ad, _, 0, _, rfl, rfl, SqT.of ga1, at_of (show (0 : Int) = ((0 : Nat) : Int) from rfl) rfl, rfl, _, rfl, ?_⟩
    by_cases c : wd = "match"
    · refine iF (by rw [str_eqT c]; rfl) ?_
      obtain ⟨a, rs, e⟩ := view_match vw c
      cases e
      obtain ⟨x1, r1, rfl, d1, dr⟩ := daAll_cons dr
      obtain ⟨x2, r2, rfl, d2, dr⟩ := daAll_cons dr
      obtain rfl := daAll_nil dr
      obtain ⟨a1, ys, rfl, g1, dys⟩ := da_row d2
      have lys := dys.len
      rw [List.length_map] at lys
      have lps := psz_parts ho.1
      have ep := pts_match (pts_some ho.1)
      have lrs : rs.length ≤ 5000 := by
        rw [ep, List.length_cons, List.length_map] at lps
        omega
      rw [kids_match] at dl
      obtain ⟨u0, ut, rfl, du0, dut⟩ := daAll_cons dl
      have lut := dut.len
      rw [List.length_map, List.length_map] at lut
      have c1 : cutV (u0 :: ut) none (some 1) = [u0] := by
        unfold cutV
        rw [HT.sIx_none, show (1 : Int) = ((1 : Nat) : Int) from rfl, HT.sIx_nat]
        simp
      have c2 : cutV (u0 :: ut) (some 1) none = ut := by
        unfold cutV
        rw [HT.sIx_none, show (1 : Int) = ((1 : Nat) : Int) from rfl, HT.sIx_nat]
        simp
      refine ⟨_, rfl, _, rfl, l, _, rfl, SqL.of gl, fun lf hlf => ?_⟩
      rw [c1]
      have s2 := same_new (o := .lst [u0]) hlf
      have S2 := s1.trans s2
      have gf := upd_same (H := H1) (a := lf) (o := .lst [u0])
      have gl2 := s2 _ _ gl
      have du2 := du0.kp (kp_same s2)
      have dut2 := dut.kp (kp_same s2)
      have nlf : H lf = none := s1.free hlf
      generalize upd H1 lf (.lst [u0]) = H2 at s2 S2 gf gl2 du2 dut2 ⊢
      have flR : ∀ (q : Str × List Str × PyData), q ∈ rs → Trm q.2.2 := fun q hq => (trm_parts ho).2 q.2.2 (by rw [ep]; exact List.mem_cons_of_mem _ (List.mem_map.mpr ⟨q, hq, rfl⟩))
      have tra : Trm a := (trm_parts ho).2 a (by rw [ep]; exact List.mem_cons_self)
      refine ⟨_, rfl, ad, _, 2, _, rfl, rfl, SqT.of (S2 _ _ ga), rfl, _, rfl, _, rfl, l, _, rfl, SqL.of gl2, fun lt hlt => ?_⟩
      rw [c2]
      have s3 := same_new (o := .lst ut) hlt
      have S3 := S2.trans s3
      have gt := upd_same (H := H2) (a := lt) (o := .lst ut)
      have gf3 := s3 _ _ gf
      have nft : lf ≠ lt := ne_of_none gf hlt
      have du3 := du2.kp (kp_same s3)
      have dut3 := dut2.kp (kp_same s3)
      generalize upd H2 lt (.lst ut) = H3 at s3 S3 gt gf3 du3 dut3 ⊢
      refine ⟨a1, lt, ys, ut, rfl, SqT.of (S3 _ _ g1), SqL.of gt, for_it (walk_zipM (n := rs.length) (by omega)) (fun i σ H' => (∀ b o, b ≠ lf → H3 b = some o → H' b = some o) ∧ ∃ (fs : List V) (v4 v5 : Option V), σ = [some (.ref ad), some u, some (.ref l), some (.ref lf), v4, v5] ∧ H' lf = some (.lst fs) ∧ DaAll t H' fs ((Row.part a bs :: (rs.take i).flatMap fun q => [.arm q.1 bs, .part q.2.2 (bs ++ q.2.1)]).map Row.d)) ⟨fun b o _ e => e, [u0], none, none, rfl, gf3, ?_⟩ (fun i σ H' _ h => ⟨SqT.of (h.1 _ _ (ne_of_none g1 nlf) (S3 _ _ g1)), SqL.of (h.1 _ _ nft.symm gt)⟩) ?_ ?_⟩
      · refine .cons ?_ .nil
        have e0 : pairD a (bs ++ []) = Row.d (.part a bs) := by rw [List.append_nil]; rfl
        exact e0 ▸ du3
      · rintro i z σ H4 H5 hi ⟨k4, fs, v4, v5, rfl, gf4, d4⟩ ⟨T, y, z2, rfl, hT, rfl, ey, ez⟩
        obtain ⟨e, he, de⟩ := da_at dys ey
        rw [List.getElem?_map] at he
        obtain ⟨q, hq, rfl⟩ := Option.map_eq_some_iff.mp he
        have mq := List.mem_of_getElem? hq
        obtain ⟨ar, zs, rfl, gr, dz⟩ := da_row (show Da t H y (.tuple [.str q.1, nmsD q.2.1, q.2.2]) from de)
        obtain ⟨z0, q0, rfl, dz0, dz⟩ := daAll_cons dz
        cases dz0
        obtain ⟨e2, he2, de2⟩ := da_at dut3 ez
        rw [List.map_map, List.getElem?_map, hq] at he2
        obtain rfl := Option.some.inj he2
        have K4 : ∀ {b : Addr} {o : HO}, H b = some o → H4 b = some o := fun z => k4 _ _ (ne_of_none z nlf) (S3 _ _ z)
        have s5 := same_new (o := .tup [.ref ar, z2]) hT
        have lfs := d4.len
        have lfs2 : fs.length ≤ 20000 := by
          rw [lfs, List.length_map, List.length_cons]
          have : ((rs.take i).flatMap fun q => [Row.arm q.1 bs, Row.part q.2.2 (bs ++ q.2.1)]).length = 2 * (rs.take i).length := by
            generalize rs.take i = l0
            induction l0 with
            | nil => rfl
            | cons x r ih =>
              rw [List.flatMap_cons, List.length_append, ih, List.length_cons]
              simp
              omega
          rw [this, List.length_take]
          omega
        refine ⟨T, _, rfl, SqT.of upd_same, rfl, _, _, rfl, _, _, rfl, rfl, ?_⟩
        refine ⟨_, rfl, .inl ⟨rfl, _, SqL.of (s5 _ _ gf4)⟩, _, rfl, ar, _, 0, _, rfl, rfl, SqT.of (s5 _ _ (K4 gr)), at_of (show (0 : Int) = ((0 : Nat) : Int) from rfl) rfl, slz rfl, fun r1 hr1 => ⟨_, rfl, slz rfl, fun r2 hr2 => ?_⟩⟩
        have s6 := same_new (o := .tup [.str "arm", .str q.1]) hr1
        have s7 := same_new (o := .tup [.ref r1, u]) hr2
        have S7 := s5.trans (s6.trans s7)
        have gf7 := S7 _ _ gf4
        have dr1 : Da t (upd (upd (upd H4 T (.tup [.ref ar, z2])) r1 (.tup [.str "arm", .str q.1])) r2 (.tup [.ref r1, u])) (.ref r2) (pairD (markD q.1) bs) :=
          .tup upd_same (.cons (.tup (s7 _ _ upd_same) (.cons (.str _) (.cons (.str _) .nil))) (.cons (hu.kp (kp_same fun b o z => S7 _ _ (K4 z))) .nil))
        generalize upd (upd (upd H4 T (.tup [.ref ar, z2])) r1 (.tup [.str "arm", .str q.1])) r2 (.tup [.ref r1, u]) = H6 at S7 gf7 dr1 ⊢
        refine ⟨lf, fs, .ref r2, rfl, rfl, gf7, szl (by omega), ?_⟩
        have gf8 := upd_same (H := H6) (a := lf) (o := .lst (fs ++ [.ref r2]))
        have tk8 := tk_upd (ys := fs ++ [.ref r2]) gf7
        refine ⟨_, rfl, .inl ⟨rfl, _, SqL.of gf8⟩, _, rfl, lf, _, z2, rfl, rfl, gf8, szl (by rw [List.length_append]; simp; omega), ?_⟩
        have tk9 := tk8.trans (tk_upd (ys := fs ++ [.ref r2] ++ [z2]) gf8)
        have dz2 : Da t H4 z2 (Row.d (.part q.2.2 (bs ++ q.2.1))) := de2.tk (fun a xs z => by
          by_cases e : a = lf
          · rw [e, gf3] at z
            cases z
          · exact k4 _ _ e z) (flt_pair (flR q mq).flat)
        refine ⟨fun b o n z => ?_, fs ++ [.ref r2] ++ [z2], _, _, rfl, upd_same, ?_⟩
        · rw [upd_ne n, upd_ne n]
          exact S7 _ _ (k4 _ _ n z)
        · rw [List.take_add_one, hq]
          have em : ((Row.part a bs :: ((rs.take i ++ (some q).toList).flatMap fun q => [.arm q.1 bs, .part q.2.2 (bs ++ q.2.1)])).map Row.d) = ((Row.part a bs :: (rs.take i).flatMap fun q => [.arm q.1 bs, .part q.2.2 (bs ++ q.2.1)]).map Row.d) ++ [Row.d (.arm q.1 bs)] ++ [Row.d (.part q.2.2 (bs ++ q.2.1))] := by
            simp [List.flatMap_append]
          rw [em]
          refine ((daAll_tk ((tk_same S7).trans tk9) d4 fun e he => ?_).app (.cons (dr1.tk tk9 (flt_pair (flt_mark _))) .nil)).app (.cons (dz2.tk ((tk_same S7).trans tk9) (flt_pair (flR q mq).flat)) .nil)
          obtain ⟨r, hr, rfl⟩ := List.mem_map.mp he
          rcases List.mem_cons.mp hr with rfl | hr
          · exact flt_pair tra.flat
          · obtain ⟨q', hq', hr⟩ := List.mem_flatMap.mp hr
            rcases List.mem_cons.mp hr with rfl | hr
            · exact flt_pair (flt_mark _)
            · rw [List.mem_singleton.mp hr]
              exact flt_pair (flR q' (List.mem_of_mem_take hq')).flat
      · rintro σ H4 ⟨k4, fs, v4, v5, rfl, gf4, d4⟩
        rw [List.take_length] at d4
        refine ⟨_, rfl, k H4 lf fs (fun b o z => k4 _ _ (ne_of_none z nlf) (S3 _ _ z)) nlf gf4 ?_⟩
        rw [rowsA_match]
        exact d4
    · refine iT (str_neT c) ?_
      refine ⟨_, rfl, k H1 l us s1 nl gl ?_⟩
      rw [rowsA_kids (m := .tuple (.str wd :: r)) c, List.map_map]
      exact dl
end
end L3

/-! list(reversed(l)) of a list -/
namespace L3
open PySem PySem.Spec PyProof.Rows L2 RT
section
variable {prog : Program} {w : World} {A : Around} {E : Value → Shared → Prop} {s : Shared}
theorem call_list_lri {it t : Addr} {items : Array Value} {Q : Value → Shared → Prop} (hh : A.handled = none) (hit : s.heap.IsRevIter it t ((items.size : Int) - 1)) (ht : s.heap.IsList t items) (hne : t ≠ it) (hn : items.size ≤ sizeLine)
    (q : ∀ h' tk acc c, (∀ b o, b ≠ it → s.heap.get? b = some o → h'.get? b = some o) → h'.get? s.heap.objs.size = some { cls := .type "list", dict := none, data := .seq acc c, slots := #[] } → ItemsOf (fun i v => items[items.size - 1 - i]? = some v) acc items.size →
      Q (.ref s.heap.objs.size) { s with heap := h', toks := tk }) : wpAny (model prog w) A (call (.type "list") [.ref it]) Q E s := by
  have W := (Walks.listRev (prog := prog) (w := w) (A := A.in1.in1) hh it t hne items).toS
  obtain ⟨oi, hoi, _⟩ := id hit
  obtain ⟨ot, hot, _⟩ := id ht
  have zlt : it < s.heap.objs.size := Heap.lt_size hoi
  have tlt : t < s.heap.objs.size := Heap.lt_size hot
  refine callType_codes (Q₁ := fun obj s' => obj = .ref s.heap.objs.size ∧ s' = { s with heap := s.heap.push { cls := .type "list", data := .seq #[] } }) PySem.F.called_list (PySem.F.typeCall_list_1 _) PySem.F.entry_list_init (code_list_new _ ⟨rfl, rfl⟩) ?_
  rintro obj s' ⟨rfl, rfl⟩
  have at0 : (s.heap.push { cls := .type "list", data := .seq #[] }).get? s.heap.objs.size = some { cls := .type "list", data := .seq #[] } := Heap.get?_push_size _ rfl
  refine ⟨⟨_, at0, rfl⟩, PySem.F.args_list_init_2 _ _, ?_⟩
  show wpAny _ A.in1.in1 (do let old ← Builtin.List.listItems (.ref s.heap.objs.size); Builtin.List.listUpdate (.ref s.heap.objs.size) (fun _ => #[]); letGo old.toList.reverse; Builtin.List.listExtendWith (.ref s.heap.objs.size) (.ref it) .none) _ _ _
  refine wpAny_bind ?_
  unfold Builtin.List.listItems
  refine wpAny_bind (wpAny_seqItems at0 rfl (wpAny_pure ?_))
  show wpAny _ A.in1.in1 (updateSeq s.heap.objs.size (fun _ => #[]) >>= fun _ => letGo (#[] : Array Value).toList.reverse >>= fun _ => Builtin.List.listExtendWith (.ref s.heap.objs.size) (.ref it) .none) _ _ _
  refine wpAny_bind (wpAny_updateSeq at0 rfl (wpAny_bind (wpAny_letGo ?_)))
  have at1 := Heap.get?_update_self (Obj.mapSeq (fun _ => (#[] : Array Value))) at0 rfl
  have k1 : ∀ b o, s.heap.get? b = some o → ((s.heap.push { cls := .type "list", data := .seq #[] }).update s.heap.objs.size (Obj.mapSeq (fun _ => (#[] : Array Value)))).get? b = some o :=
    fun b o e => (Heap.get?_update_other _ _ (Nat.ne_of_gt (Heap.lt_size e))).trans (Heap.get?_push_of_some _ e)
  generalize (s.heap.push { cls := .type "list", data := .seq #[] }).update s.heap.objs.size (Obj.mapSeq (fun _ => (#[] : Array Value))) = g1 at at1 k1 ⊢
  have hit1 : g1.IsRevIter it t ((items.size : Int) - 1) := hit.at fun o e => k1 _ o e
  have ht1 : g1.IsList t items := by
    obtain ⟨o, ho, r⟩ := ht
    exact ⟨o, k1 _ _ ho, r⟩
  have isz : ({ s with heap := g1 } : Shared).TypeIs (.ref it) "list_reverseiterator" := Heap.IsRevIter.typeIs (s := { s with heap := g1 }) hit1
  have nsame : Builtin.List.listSameRef (.ref s.heap.objs.size) (.ref it) = false := by simp [Builtin.List.listSameRef, Nat.ne_of_gt zlt]
  have zz : (Value.type "list_reverseiterator" == Value.type "list") = false := by decide
  have zt : (Value.type "list_reverseiterator" == Value.type "tuple") = false := by decide
  unfold Builtin.List.listExtendWith
  refine wpAny_bind (wpAny_typeOf isz ?_)
  simp only [nsame, zz, zt, Bool.or_false, Bool.false_eq_true, if_false]
  refine wpAny_bind (wpAny_pyIter_revIter (s := { s with heap := g1 }) hit1 (wpAny_bind (wpAny_holding ?_)))
  unfold Builtin.List.listLengthHint
  refine wpAny_bind (wpAny_specialOf isz nolen_lri ?_)
  show wpAny _ A.in1.in1 (specialOf (Value.ref it) (Str.ofString "__length_hint__") >>= _) _ _ _
  refine wpAny_bind (wpAny_specialOf isz hint_lri ?_)
  generalize hid : ("list_reverseiterator.__length_hint__" : String) = id0
  wp_delta
  rw [show splitId id0 = some ("list_reverseiterator", "__length_hint__") from by subst hid; decide +kernel]
  subst hid
  refine wpAny_bind (wpAny_isInstance (b := true) isz (by rw [isSubtype_type]; kernel_rfl) ?_)
  refine wpAny_pure ?_
  rw [if_neg (by decide)]
  have e0 : ((items.size : Nat) : Int) - 1 - ((0 : Nat) : Int) = (items.size : Int) - 1 := by omega
  refine wpAny_pure ⟨plainId_quiet F.plain_extend_loop _, codeAny_extend_loopS W hn _ ?_ .none items.size 0 { s with heap := g1 } #[] _ rfl (Nat.zero_le _) ⟨Nat.zero_le _, by rw [e0]; exact hit1, ht1⟩ at1 (ItemsOf.nil _) fun s' acc' c' hm hS' hacc => ?_⟩
  · simp only [List.mem_cons, List.not_mem_nil, or_false, not_or]
    exact ⟨Nat.ne_of_gt zlt, Nat.ne_of_gt tlt⟩
  · refine ⟨rfl, ?_⟩
    rw [Moved.eq_with hm]
    refine q s'.heap s'.toks acc' c' (fun b o hb e => hm.heap b o (fun hmem => ?_) (k1 _ _ e)) hS' hacc
    rcases List.mem_cons.mp hmem with e' | hmem
    · exact absurd (Heap.lt_size e) (by rw [e']; exact Nat.lt_irrefl _)
    · exact hb (List.mem_singleton.mp hmem)
end
def tListRev (K : PySem.W.Frag) (te : TE) : TE := fun σ H Q => te σ H fun v H1 => ∃ (a : Addr) (xs : List V), v = .ref a ∧ SqL K H1 a xs ∧ ∀ q, H1 q = none → Q (.ref q) (upd H1 q (.lst xs.reverse))
theorem pe_listRev {X : Cx} {e : Expr} {te : TE} {p p2 pos pos2 : Pos} (hc : X.calm = true) (hg : Gl X "list") (hm : X.mg "list" = none) (hg2 : Gl X "reversed") (hm2 : X.mg "reversed" = none) (he : PE X e te)
    (hs : starEach [e] X.env = (false, eval e X.env) :: starEach [] X.env := by rfl)
    (hs2 : starEach [.Call (.Name "reversed" p2) [e] [] pos2] X.env = (false, eval (.Call (.Name "reversed" p2) [e] [] pos2) X.env) :: starEach [] X.env := by rfl) :
    PE X (.Call (.Name "list" p) [.Call (.Name "reversed" p2) [e] [] pos2] [] pos) (tListRev X.K te) := by
  refine ⟨fun pins s σ H Q I h => ?_⟩
  refine Call_ (ld_blt I hg hm (show bootBuiltins "list" = some (Value.type "list") by decide +kernel) (PyProof.Rows.callWith_type1 (args_cons (Call_ (ld_blt I hg2 hm2 PyProof.Rows.boot_reversed (PyProof.Rows.callWith_type1 (args_cons (thn (he.run pins s σ H _ I h) fun u s1 ⟨v, H1, I1, r1, q1⟩ => args_nil ?_) hs) hs rfl))) hs2) hs2 rfl))
  obtain ⟨a, xs, ev, hq, q⟩ := q1
  subst ev
  obtain rfl : u = Value.ref a := r1
  obtain ⟨its, rv, p', hz⟩ := I1.list hq
  have hl := rv.length
  have hn : its.toArray.size ≤ sizeLine := by rw [List.size_toArray, ← rv.length]; exact hz
  refine call_reversed_list p'.isList (args_nil ?_)
  have k0 : ∀ b o, s1.heap.get? b = some o → (s1.heap.push (revObj a ((its.toArray.size : Int) - 1))).get? b = some o := fun b o e => Heap.get?_push_of_some _ e
  have hl' := p'.isList
  obtain ⟨ol, hol, _⟩ := id hl'
  have hne : a ≠ s1.heap.objs.size := Nat.ne_of_lt (Heap.lt_size hol)
  refine call_list_lri (s := { s1 with heap := s1.heap.push (revObj a ((its.toArray.size : Int) - 1)) }) (I1.ok.hd hc) ⟨_, Heap.get?_push_size _ rfl, rfl, rfl⟩ (hl'.push _) hne hn fun h' tk acc c hk at' hi => ?_
  have kk : ∀ b o, s1.heap.get? b = some o → h'.get? b = some o := fun b o e => hk b o (Nat.ne_of_lt (Heap.lt_size e)) (k0 b o e)
  have le : s1.heap.objs.size ≤ (s1.heap.push (revObj a ((its.toArray.size : Int) - 1))).objs.size := by
    have z : (s1.heap.push (revObj a ((its.toArray.size : Int) - 1))).get? s1.heap.objs.size = some (revObj a ((its.toArray.size : Int) - 1)) := Heap.get?_push_size _ rfl
    exact Nat.le_of_lt (Heap.lt_size z)
  exact ⟨.ref _, upd H1 _ (.lst xs.reverse), I1.laid (t' := tk) kk le (show ObjOk X.prog X.w _ h' _ (.lst xs.reverse) from ⟨by rw [List.length_reverse]; exact hz, acc.toList, c, vals_rev rv hi, by rw [Array.toArray_toList]; exact at'⟩), rfl, q _ (I1.hok.fresh le)⟩
end L3

/-! what is sorted is told by what is in it -/
namespace L3
open PySem PySem.Spec PyProof.Rows L2
theorem str_ext {x y : Str} (h : x.cps.toList = y.cps.toList) : x = y := by
  obtain ⟨⟨a⟩⟩ := x
  obtain ⟨⟨b⟩⟩ := y
  have e : a = b := h
  rw [e]
theorem rising_pw : ∀ (l : List Str) (p : Str), risingS p l = true → (p :: l).Pairwise fun a b => a.cps.toList ≤ b.cps.toList
  | [], p, _ => List.pairwise_singleton _ _
  | x :: r, p, h => by
    unfold risingS at h
    rw [Bool.and_eq_true, ltCps_eq] at h
    obtain ⟨h1, h2⟩ := h
    have ih := rising_pw r x h2
    have le : p.cps.toList ≤ x.cps.toList := by
      have : ¬ x.cps.toList < p.cps.toList := by simpa using h1
      exact this
    refine List.pairwise_cons.mpr ⟨fun y hy => ?_, ih⟩
    rcases List.mem_cons.mp hy with e | e
    · rw [e]; exact le
    · exact List.le_trans le ((List.pairwise_cons.mp ih).1 y e)
theorem sorted_pw : ∀ {l : List Str}, sortedS l = true → l.Pairwise fun a b => a.cps.toList ≤ b.cps.toList
  | [], _ => List.Pairwise.nil
  | x :: r, h => rising_pw r x h
theorem sorted_uniq {xs ys : List Str} (p : xs.Perm ys) (a : sortedS xs = true) (b : sortedS ys = true) : xs = ys :=
  List.Perm.eq_of_pairwise (le := fun a b : Str => a.cps.toList ≤ b.cps.toList) (fun x y _ _ h1 h2 => str_ext (List.le_antisymm h1 h2)) (sorted_pw a) (sorted_pw b) p
/-! the size of kinds, words of a script -/
theorem Kd.size_fit : ∀ {k : Kd} {n : Nat}, k.fit n → k.size + 1 ≤ 2 * 2 ^ n
  | .var x, n, _ => by
    have : 1 ≤ 2 ^ n := Nat.one_le_two_pow
    show 1 + 1 ≤ _
    omega
  | .con x, n, _ => by
    have : 1 ≤ 2 ^ n := Nat.one_le_two_pow
    show 1 + 1 ≤ _
    omega
  | .app a b, n, h => by
    obtain ⟨m, rfl, ha, hb⟩ := Kd.fit_app h
    have h1 := Kd.size_fit ha
    have h2 := Kd.size_fit hb
    have h5 : 2 ^ (m + 1) = 2 ^ m * 2 := Nat.pow_succ ..
    show a.size + b.size + 1 + 1 ≤ _
    omega
theorem sizeL_fit {n : Nat} : ∀ {ks : List Kd}, (∀ k ∈ ks, k.fit n) → sizeL ks ≤ ks.length * (2 * 2 ^ n)
  | [], _ => Nat.zero_le _
  | k :: r, h => by
    have h1 := Kd.size_fit (h k List.mem_cons_self)
    have h2 := sizeL_fit (ks := r) fun y hy => h y (List.mem_cons_of_mem _ hy)
    have e : (r.length + 1) * (2 * 2 ^ n) = r.length * (2 * 2 ^ n) + 2 * 2 ^ n := Nat.succ_mul ..
    show k.size + sizeL r ≤ (r.length + 1) * (2 * 2 ^ n)
    rw [e]
    omega
theorem vs_len : ∀ (k : Kd) (fs : List Str), (k.vs fs).length ≤ fs.length + k.size
  | .var x, fs => by
    show (addV fs x).length ≤ fs.length + 1
    unfold addV
    split
    · omega
    · simp
  | .con _, fs => Nat.le_add_right _ _
  | .app a b, fs => by
    have h1 := vs_len a fs
    have h2 := vs_len b (a.vs fs)
    show (b.vs (a.vs fs)).length ≤ fs.length + (a.size + b.size + 1)
    omega
theorem addV_of {ws fs : List Str} {x : Str} (h : x ∈ ws) (hf : ∀ y ∈ fs, y ∈ ws) : ∀ y ∈ addV fs x, y ∈ ws := by
  intro y hy
  unfold addV at hy
  split at hy
  · exact hf y hy
  · rcases List.mem_append.mp hy with q | q
    · exact hf y q
    · rw [List.mem_singleton.mp q]; exact h
theorem Kd.vs_of {ws : List Str} : ∀ {k : Kd} {fs : List Str}, Kd.of ws k → (∀ y ∈ fs, y ∈ ws) → ∀ y ∈ k.vs fs, y ∈ ws
  | .var x, _, h, hf => addV_of h hf
  | .con _, _, _, hf => hf
  | .app a b, fs, h, hf => Kd.vs_of (k := b) h.2 (Kd.vs_of (k := a) h.1 hf)
theorem vsL_of {ws : List Str} : ∀ {ks : List Kd} {fs : List Str}, (∀ k ∈ ks, Kd.of ws k) → (∀ y ∈ fs, y ∈ ws) → ∀ y ∈ vsL ks fs, y ∈ ws
  | [], _, _, hf => hf
  | k :: r, _, h, hf => vsL_of (ks := r) (fun y hy => h y (List.mem_cons_of_mem _ hy)) (Kd.vs_of (h k List.mem_cons_self) hf)
end L3

namespace L3
open PySem L2
structure Bl5 (mg : Str → Option Value) : Prop where
  reversed : mg "reversed" = none
  sum : mg "sum" = none
  enum : mg "enumerate" = none
def wordP (q : Str × Str) : PyData := .tuple [.str q.1, .str q.2]
theorem flt_word (q : Str × Str) : Flt (wordP q) := flt_two (flt_str _) (flt_str _)
/-- x is free in a row -/
def Row.fre : Row → Str → Prop
  | .arm _ _, _ => False
  | .part m bs, x => Fre m bs x
def Row.wt : Row → Nat
  | .arm _ _ => 1
  | .part m _ => 2 * psz m
def wts : List Row → Nat
  | [] => 0
  | r :: rs => r.wt + wts rs
theorem wts_app : ∀ a b : List Row, wts (a ++ b) = wts a + wts b
  | [], b => by simp [wts]
  | r :: a, b => by
    simp only [List.cons_append, wts, wts_app a b]
    omega
theorem wts_rev (a : List Row) : wts a.reverse = wts a := by
  induction a with
  | nil => rfl
  | cons r a ih =>
    rw [List.reverse_cons, wts_app, ih]
    simp only [wts]
    omega
theorem Row.wt_pos (r : Row) : 1 ≤ r.wt := by
  cases r with
  | arm c bs => exact Nat.le_refl _
  | part m bs =>
    have := psz_mems m
    simp only [Row.wt]
    omega
theorem wts_len : ∀ rs : List Row, rs.length ≤ wts rs
  | [] => Nat.le_refl _
  | r :: rs => by
    have h1 := r.wt_pos
    have h2 := wts_len rs
    simp only [wts, List.length_cons]
    omega
theorem wts_kids (bs : List Str) : ∀ qs : List (PyData × List Str), wts (qs.map fun q => Row.part q.1 (bs ++ q.2)) = 2 * kidsZ qs
  | [] => rfl
  | q :: qs => by
    have h := wts_kids bs qs
    simp only [kidsZ, List.map_cons, wts, Row.wt, pszL] at h ⊢
    omega
theorem wts_arms (bs : List Str) : ∀ rs : List (Str × List Str × PyData), wts (rs.flatMap fun q => [Row.arm q.1 bs, .part q.2.2 (bs ++ q.2.1)]) ≤ 2 * pszL (rs.map armP)
  | [] => Nat.le_refl _
  | q :: rs => by
    have h := wts_arms bs rs
    rw [List.flatMap_cons, wts_app, List.map_cons]
    simp only [wts, Row.wt, pszL, armP, psz] at h ⊢
    omega
theorem rowsA_wt {m : PyData} {bs : List Str} (h : isTermD m = true) : wts (rowsA m bs) < 2 * psz m := by
  by_cases c : wordD m = "match"
  · obtain ⟨a, rs, rfl⟩ := view_match (view_of h) c
    rw [rowsA_match]
    have := wts_arms bs rs
    simp only [wts, Row.wt, psz, pszL]
    omega
  · rw [rowsA_kids c, wts_kids]
    have := kids_psz h
    omega
theorem rowsA_ok {m : PyData} {bs : List Str} (h : Trm m) : ∀ r ∈ rowsA m bs, r.ok := by
  intro r hr
  by_cases c : wordD m = "match"
  · obtain ⟨a, rs, rfl⟩ := view_match (view_of h.1) c
    rw [rowsA_match] at hr
    rcases List.mem_cons.mp hr with rfl | hr
    · exact kids_sh h (a, []) (by rw [kids_match]; simp)
    · obtain ⟨q, hq, hr⟩ := List.mem_flatMap.mp hr
      rcases List.mem_cons.mp hr with rfl | hr
      · exact True.intro
      · rw [List.mem_singleton.mp hr]
        exact kids_sh h (q.2.2, q.2.1) (by rw [kids_match]; exact List.mem_cons_of_mem _ (List.mem_map.mpr ⟨q, hq, rfl⟩))
  · rw [rowsA_kids c] at hr
    obtain ⟨q, hq, rfl⟩ := List.mem_map.mp hr
    exact kids_sh h q hq
theorem rowsA_fre {m : PyData} {bs : List Str} {x : Str} : (∃ r ∈ rowsA m bs, r.fre x) ↔ ∃ q ∈ kidsD m, Fre q.1 (bs ++ q.2) x := by
  by_cases c : wordD m = "match"
  · unfold rowsA kidsD
    rw [if_pos c, if_neg (by rw [c]; decide), if_neg (by rw [c]; decide), if_pos c]
    constructor
    · rintro ⟨r, hr, hf⟩
      rcases List.mem_cons.mp hr with rfl | hr
      · exact ⟨_, List.mem_cons_self, by rw [List.append_nil]; exact hf⟩
      · obtain ⟨q, hq, hr⟩ := List.mem_flatMap.mp hr
        rcases List.mem_cons.mp hr with rfl | hr
        · exact hf.elim
        · rw [List.mem_singleton.mp hr] at hf
          exact ⟨_, List.mem_cons_of_mem _ (List.mem_map.mpr ⟨q, hq, rfl⟩), hf⟩
    · rintro ⟨q, hq, hf⟩
      rcases List.mem_cons.mp hq with rfl | hq
      · rw [List.append_nil] at hf
        exact ⟨_, List.mem_cons_self, hf⟩
      · obtain ⟨a, ha, rfl⟩ := List.mem_map.mp hq
        exact ⟨_, List.mem_cons_of_mem _ (List.mem_flatMap.mpr ⟨a, ha, List.mem_cons_of_mem _ (List.mem_singleton.mpr rfl)⟩), hf⟩
  · rw [rowsA_kids c]
    constructor
    · rintro ⟨r, hr, hf⟩
      obtain ⟨q, hq, rfl⟩ := List.mem_map.mp hr
      exact ⟨q, hq, hf⟩
    · rintro ⟨q, hq, hf⟩
      exact ⟨_, List.mem_map.mpr ⟨q, hq, rfl⟩, hf⟩
theorem fre_none {m : PyData} {bs : List Str} {x : Str} (e : nameOf m = none) : Fre m bs x ↔ ∃ r ∈ rowsA m bs, r.fre x := by
  rw [rowsA_fre]
  constructor
  · intro h
    cases h with
    | here e2 n => rw [e] at e2; cases e2
    | deep e2 hq h2 => exact ⟨_, hq, h2⟩
  · rintro ⟨q, hq, h2⟩
    exact .deep e hq h2
theorem fre_some {m : PyData} {bs : List Str} {x y : Str} (e : nameOf m = some x) : Fre m bs y ↔ y = x ∧ x ∉ bs := by
  constructor
  · intro h
    cases h with
    | here e2 n =>
      rw [e] at e2
      cases e2
      exact ⟨rfl, n⟩
    | deep e2 hq h2 => rw [e] at e2; cases e2
  · rintro ⟨rfl, n⟩
    exact .here e n
theorem view_name {m : PyData} (h : View m) (e : wordD m = "name") : ∃ x, m = .tuple [.str "name", .str x] := by
  cases h with
  | name x h => exact ⟨x, rfl⟩
  | given x a h ha => exact absurd (show ("given" : Str) = "name" from e) (by decide)
  | whole x h => exact absurd (show ("whole" : Str) = "name" from e) (by decide)
  | text x h => exact absurd (show ("text" : Str) = "name" from e) (by decide)
  | hole => exact absurd (show ("hole" : Str) = "name" from e) (by decide)
  | use a b ha hb => exact absurd (show ("use" : Str) = "name" from e) (by decide)
  | lett rs a hr ne ha => exact absurd (show ("let" : Str) = "name" from e) (by decide)
  | matc a rs ha ne hr => exact absurd (show ("match" : Str) = "name" from e) (by decide)
theorem view_arm {m : PyData} (h : View m) : wordD m ≠ "arm" := by
  cases h with
  | name x h => exact (by decide : ("name" : Str) ≠ "arm")
  | given x a h ha => exact (by decide : ("given" : Str) ≠ "arm")
  | whole x h => exact (by decide : ("whole" : Str) ≠ "arm")
  | text x h => exact (by decide : ("text" : Str) ≠ "arm")
  | hole => exact (by decide : ("hole" : Str) ≠ "arm")
  | use a b ha hb => exact (by decide : ("use" : Str) ≠ "arm")
  | lett rs a hr ne ha => exact (by decide : ("let" : Str) ≠ "arm")
  | matc a rs ha ne hr => exact (by decide : ("match" : Str) ≠ "arm")
theorem rowsA_name {x : Str} {bs : List Str} (h : isTermD (.tuple [.str "name", .str x]) = true) : rowsA (.tuple [.str "name", .str x]) bs = [] := by
  have e : partsD (.tuple [.str "name", .str x]) = some [] := by
    have q := pts_some h
    have q2 : (if isNameD (.str x) then some [] else none) = some (ptsD (.tuple [.str "name", .str x])) := q
    split at q2
    · rw [q, ← q2]
    · cases q2
  have c : wordD (.tuple [.str "name", .str x]) ≠ "match" := (by decide : ("name" : Str) ≠ "match")
  rw [rowsA_kids c, kids_plain (by exact (by decide : ("name" : Str) ≠ "given")) (by exact (by decide : ("name" : Str) ≠ "let")) c, pts_of e]
  rfl
/-- the names among the words -/
def WsOk (m : PyData) (F : List (Str × Str)) (R : List Row) : Prop := ∀ x, Fre m [] x ↔ (("name" : Str), x) ∈ F ∨ ∃ r ∈ R, r.fre x
theorem rows_last {R : List Row} {r : Row} {x : Str} : (∃ q ∈ R ++ [r], q.fre x) ↔ (∃ q ∈ R, q.fre x) ∨ r.fre x := by
  constructor
  · rintro ⟨q, hq, h⟩
    rcases List.mem_append.mp hq with hq | hq
    · exact .inl ⟨q, hq, h⟩
    · rw [List.mem_singleton.mp hq] at h
      exact .inr h
  · rintro (⟨q, hq, h⟩ | h)
    · exact ⟨q, List.mem_append_left _ hq, h⟩
    · exact ⟨r, by simp, h⟩
theorem wsOk_arm {m : PyData} {F : List (Str × Str)} {R : List Row} {c : Str} {bs : List Str} (h : WsOk m F (R ++ [.arm c bs])) : WsOk m (F ++ [(("arm" : Str), c)]) R := fun x => by
  rw [h x, rows_last, List.mem_append, List.mem_singleton]
  constructor
  · rintro (z | z | z)
    · exact .inl (.inl z)
    · exact .inr z
    · exact z.elim
  · rintro ((z | z) | z)
    · exact .inl z
    · exact absurd (congrArg Prod.fst z) (by decide : ("name" : Str) ≠ "arm")
    · exact .inr (.inl z)
theorem wsOk_none {m m1 : PyData} {F : List (Str × Str)} {R : List Row} {bs : List Str} (h : WsOk m F (R ++ [.part m1 bs])) (e : nameOf m1 = none) : WsOk m F (R ++ (rowsA m1 bs).reverse) := fun x => by
  rw [h x, rows_last]
  refine or_congr Iff.rfl ?_
  show _ ∨ Fre m1 bs x ↔ _
  rw [fre_none e]
  constructor
  · rintro (⟨q, hq, z⟩ | ⟨q, hq, z⟩)
    · exact ⟨q, List.mem_append_left _ hq, z⟩
    · exact ⟨q, List.mem_append_right _ (List.mem_reverse.mpr hq), z⟩
  · rintro ⟨q, hq, z⟩
    rcases List.mem_append.mp hq with hq | hq
    · exact .inl ⟨q, hq, z⟩
    · exact .inr ⟨q, List.mem_reverse.mp hq, z⟩
theorem wsOk_in {m m1 : PyData} {F : List (Str × Str)} {R : List Row} {bs : List Str} {y : Str} (h : WsOk m F (R ++ [.part m1 bs])) (e : nameOf m1 = some y) (c : y ∈ bs) : WsOk m F R := fun x => by
  rw [h x, rows_last]
  refine or_congr Iff.rfl ⟨fun z => z.elim id fun z => ?_, .inl⟩
  exact absurd c ((fre_some e).mp z).2
theorem wsOk_new {m m1 : PyData} {F : List (Str × Str)} {R : List Row} {bs : List Str} {y : Str} (h : WsOk m F (R ++ [.part m1 bs])) (e : nameOf m1 = some y) (c : y ∉ bs) : WsOk m (F ++ [(("name" : Str), y)]) R := fun x => by
  rw [h x, rows_last, List.mem_append, List.mem_singleton]
  constructor
  · rintro (z | z | z)
    · exact .inl (.inl z)
    · exact .inr z
    · rw [((fre_some e).mp z).1]
      exact .inl (.inr rfl)
  · rintro ((z | z) | z)
    · exact .inl z
    · exact .inr (.inr ((fre_some e).mpr ⟨by injection z, c⟩))
    · exact .inr (.inl z)
end L3

namespace L3
open PySem L2
theorem rows_flt {R : List Row} (h : ∀ r ∈ R, r.ok) : ∀ d ∈ R.map Row.d, Flt d := fun d hd => by
  obtain ⟨r, hr, rfl⟩ := List.mem_map.mp hd
  exact Row.flat (h r hr)
theorem words_flt (F : List (Str × Str)) : ∀ d ∈ F.map wordP, Flt d := fun d hd => by
  obtain ⟨r, _, rfl⟩ := List.mem_map.mp hd
  exact flt_word r
theorem DaAll.rev {t : Addr} {H : Hp} : ∀ {us : List V} {ds : List PyData}, DaAll t H us ds → DaAll t H us.reverse ds.reverse
  | _, _, .nil => .nil
  | _, _, .cons a r => by
    rw [List.reverse_cons, List.reverse_cons]
    exact r.rev.app (.cons a .nil)
theorem rows_own {rs : List (Str × PyData)} {q : Str × PyData} (h : q ∈ rs) : rs.length + psz q.2 ≤ pszL (rs.map rowP) := by
  induction rs with
  | nil => cases h
  | cons x rs ih =>
    have hl : rs.length ≤ pszL (rs.map rowP) := by
      have := pszL_len (rs.map rowP)
      rw [List.length_map] at this
      exact this
    simp only [List.map_cons, pszL, rowP, psz, List.length_cons]
    rcases List.mem_cons.mp h with rfl | h
    · omega
    · have := ih h
      omega
theorem arm_own {q : Str × List Str × PyData} : q.2.1.length + psz q.2.2 ≤ psz (armP q) := by
  have := pszL_len (q.2.1.map PyData.str)
  rw [List.length_map] at this
  simp only [armP, psz, pszL]
  omega
theorem kids_own {m : PyData} (h : isTermD m = true) {q : PyData × List Str} (hq : q ∈ kidsD m) : q.2.length + psz q.1 ≤ psz m := by
  by_cases c1 : wordD m = "given"
  · obtain ⟨x, a, rfl⟩ := view_given (view_of h) c1
    rw [kids_given, List.mem_singleton] at hq
    subst hq
    simp only [psz, pszL, List.length_singleton]
    omega
  by_cases c2 : wordD m = "let"
  · obtain ⟨rs, a, rfl⟩ := view_let (view_of h) c2
    rw [kids_let h] at hq
    have hl : rs.length ≤ pszL (rs.map rowP) := by
      have := pszL_len (rs.map rowP)
      rw [List.length_map] at this
      exact this
    rcases List.mem_append.mp hq with hq | hq
    · obtain ⟨r, hr, rfl⟩ := List.mem_map.mp hq
      have := rows_own hr
      simp only [psz, pszL, List.length_map]
      omega
    · rw [List.mem_singleton.mp hq]
      simp only [psz, pszL, List.length_map]
      omega
  by_cases c3 : wordD m = "match"
  · obtain ⟨a, rs, rfl⟩ := view_match (view_of h) c3
    rw [kids_match] at hq
    rcases List.mem_cons.mp hq with rfl | hq
    · simp only [psz, pszL, List.length_nil]
      omega
    · obtain ⟨r, hr, rfl⟩ := List.mem_map.mp hq
      have h1 := arm_own (q := r)
      have h2 := psz_in (List.mem_map_of_mem (f := armP) hr)
      simp only [psz, pszL]
      omega
  have hk := kids_lt h hq
  rw [kids_plain c1 c2 c3] at hq
  obtain ⟨p, hp, rfl⟩ := List.mem_map.mp hq
  have hk : psz p < psz m := hk
  show 0 + psz p ≤ psz m
  omega
theorem daAll_strs0 {t : Addr} {H : Hp} : ∀ {bs : List Str} {xs : List V}, DaAll t H xs (bs.map PyData.str) → xs = bs.map V.str
  | [], _, h => by
    cases h
    rfl
  | b :: bs, _, h => by
    cases h with
    | cons h1 h2 =>
      cases h1
      rw [daAll_strs0 h2]
      rfl
theorem rowsA_bok {m : PyData} {bs : List Str} (h : isTermD m = true) : ∀ r ∈ rowsA m bs, ∀ p bs', r = .part p bs' → bs'.length + 2 * psz p ≤ bs.length + 2 * psz m := by
  intro r hr p bs' e
  have key : ∀ q ∈ kidsD m, r = .part q.1 (bs ++ q.2) → bs'.length + 2 * psz p ≤ bs.length + 2 * psz m := fun q hq e2 => by
    rw [e] at e2
    injection e2 with e3 e4
    have := kids_own h hq
    rw [e3, e4, List.length_append]
    omega
  by_cases c : wordD m = "match"
  · obtain ⟨a, rs, rfl⟩ := view_match (view_of h) c
    rw [rowsA_match] at hr
    rcases List.mem_cons.mp hr with hr | hr
    · exact key (a, []) (by rw [kids_match]; simp) (by rw [List.append_nil]; exact hr)
    · obtain ⟨q, hq, hr⟩ := List.mem_flatMap.mp hr
      rcases List.mem_cons.mp hr with hr | hr
      · rw [e] at hr
        cases hr
      · exact key (q.2.2, q.2.1) (by rw [kids_match]; exact List.mem_cons_of_mem _ (List.mem_map.mpr ⟨q, hq, rfl⟩)) (List.mem_singleton.mp hr)
  · rw [rowsA_kids c] at hr
    obtain ⟨q, hq, rfl⟩ := List.mem_map.mp hr
    exact key q hq rfl
section
variable {P : Program} {w : World} {K : PySem.W.Frag} {mg : Str → Option Value} {base : Heap}
abbrev s_words_of : Stmt := topS 29
abbrev N_words_of : List Str := ["term", "found", "waiting", "part", "bound"]
theorem sc_words_of : FnScope N_words_of ["term"] (defScope s_words_of) := ⟨rfl, rfl, rfl, by decide +kernel, rfl, by decide +kernel, by decide +kernel⟩
def spWordsOf : Sp := fun vs H Q _ => ∃ (t : Addr) (v : V) (m : PyData), vs = [v] ∧ Da t H v m ∧ Trm m ∧ psz m ≤ 1200 ∧
  ∀ H' l us F, Same H H' → H l = none → H' l = some (.lst us) → DaAll t H' us (F.map wordP) → F.length ≤ 2 * psz m → WsOk m F [] → Q (.ref l) H'
/-- what holds ahead of each turn -/
def WsInv (t : Addr) (v : V) (lf lw : Addr) (H : Hp) (m : PyData) (n : Nat) : L2.St → Hp → Prop := fun σ H' => ∃ (fs ws : List V) (F : List (Str × Str)) (R : List Row) (v3 v4 : Option V), σ = [some v, some (.ref lf), some (.ref lw), v3, v4] ∧ Same H H' ∧ H' lf = some (.lst fs) ∧ H' lw = some (.lst ws) ∧
  DaAll t H' fs (F.map wordP) ∧ DaAll t H' ws (R.map Row.d) ∧ (∀ r ∈ R, r.ok) ∧ (∀ r ∈ R, ∀ m1 bs, r = .part m1 bs → bs.length + 2 * psz m1 ≤ 2 * psz m) ∧ WsOk m F R ∧ F.length + wts R ≤ 2 * psz m ∧ n = wts R
theorem ok_words_of {f : Addr} {fd : FuncData} (F : Fun K "words_of" "words_of" s_words_of f fd) (B : Bl mg) (B5 : Bl5 mg) (D_rows_with_arms : Kn P w K mg base 7 "rows_with_arms" ["term", "bound"] spRowsA) : FnOk P w K mg base CX0 8 f fd ["term"] spWordsOf := by
  refine F.ok sc_words_of (fun vs H Q E h => ?_) (fun cdv A outer s H vs Q E hr h => ?_)
  · obtain ⟨t, v, m, rfl, _⟩ := h
    rfl
  · obtain ⟨t, v, m, rfl, hd, ho, hz, k⟩ := h
    have hr_rows_with_arms : Room 7 _ := hr
    refine ⟨_, (pss_cons (ps_set (i := 1) sc_words_of.nd rfl (Or.inl rfl) (pe_lst pa_nil))
  (pss_cons (ps_set (i := 2) sc_words_of.nd rfl (Or.inl rfl) (pe_lst (pa_cons (pe_tup (pa_cons (pv 0) (pa_cons (pe_tup pa_nil) pa_nil))) pa_nil)))
  (pss_cons (ps_while PassesOwn.never (pt_truth (pv 2) (by intro _; rfl))
  (pss_cons (ps_asg (pe_bm0 PySem.F.plainAttrs_list PySem.F.slot_list_pop PySem.F.type_list_pop mt_pop (pv 2)) (pg_tup (by rfl) (pgs_cons (pg_name (i := 3) sc_words_of.nd rfl (Or.inl rfl)) (pgs_cons (pg_name (i := 4) sc_words_of.nd rfl (Or.inl rfl)) pgs_nil))))
  (pss_cons (ps_if (pt_cmpR op_eq (pe_ix ix_tup (pv 3) pe_int (fun _ _ => rfl)) pe_str (nomark _))
  (pss_cons (ps_expr (pe_bm PySem.F.plainAttrs_list PySem.F.slot_list_append PySem.F.type_list_append mt_append (pv 1) (pa_cons (pv 3) pa_nil)))
  (pss_one ps_continue))
  pss_nil)
  (pss_cons (ps_if (PW.pt (pw_and (pt_cmpR op_eq (pe_ix ix_tup (pv 3) pe_int (fun _ _ => rfl)) pe_str (nomark _)) (pw_and1 (pt_cmpR op_notIn_seq (pe_ix ix_tup (pv 3) pe_int (fun _ _ => rfl)) (pv 4) (by rfl)))))
  (pss_one (ps_expr (pe_bm PySem.F.plainAttrs_list PySem.F.slot_list_append PySem.F.type_list_append mt_append (pv 1) (pa_cons (pv 3) pa_nil))))
  pss_nil)
  (pss_one (ps_expr (pe_bm PySem.F.plainAttrs_list PySem.F.slot_list_extend PySem.F.type_list_extend mt_extend (pv 2) (pa_cons (pe_listRev rfl (by rfl) B.list (by rfl) B5.reversed (pe_kn D_rows_with_arms hr_rows_with_arms (pa_cons (pv 3) (pa_cons (pv 4) pa_nil)))) pa_nil))))))))
  (pss_one (ps_ret (pv 1)))))), ?_⟩
    refine ⟨slz rfl, fun lf hlf => ⟨_, rfl, slz rfl, fun pe hpe => ⟨slz rfl, fun pq hpq => ⟨slz rfl, fun lw hlw => ?_⟩⟩⟩⟩
    have sA := same_new (o := .lst []) hlf
    have sB := same_new (o := .tup []) hpe
    have sC := same_new (o := .tup [v, .ref pe]) hpq
    have sD := same_new (o := .lst [.ref pq]) hlw
    have s1 := sA.trans (sB.trans (sC.trans sD))
    have gf1 := sD _ _ (sC _ _ (sB _ _ (upd_same (H := H) (a := lf) (o := .lst []))))
    have gpe := sD _ _ (sC _ _ (upd_same (H := upd H lf (.lst [])) (a := pe) (o := .tup [])))
    have gpq := sD _ _ (upd_same (H := upd (upd H lf (.lst [])) pe (.tup [])) (a := pq) (o := .tup [v, .ref pe]))
    have gw1 := upd_same (H := upd (upd (upd H lf (.lst [])) pe (.tup [])) pq (.tup [v, .ref pe])) (a := lw) (o := .lst [.ref pq])
    have nfw : lf ≠ lw := ne_of_none (sC _ _ (sB _ _ (upd_same (H := H) (a := lf) (o := .lst [])))) hlw
    have hlw0 : H lw = none := (sA.trans (sB.trans sC)).free hlw
    generalize upd (upd (upd (upd H lf (.lst [])) pe (.tup [])) pq (.tup [v, .ref pe])) lw (.lst [.ref pq]) = H1 at s1 gf1 gpe gpq gw1 ⊢
    have nl : ∀ {a : Addr} {o : HO}, H a = some o → a ≠ lf ∧ a ≠ lw := fun z => ⟨ne_of_none z hlf, ne_of_none z hlw0⟩
    refine ⟨WsInv t v lf lw H m, ⟨_, [], [.ref pq], [], [.part m []], none, none, rfl, s1, gf1, gw1, .nil, .cons (.tup gpq (.cons (hd.kp (kp_same s1)) (.cons (.tup gpe .nil) .nil))) .nil, fun r hr => (by rw [List.mem_singleton.mp hr]; exact ho), fun r hr m1 bs e => (by rw [List.mem_singleton.mp hr] at e; cases e; simp), fun x => ⟨fun z => .inr ⟨_, List.mem_singleton.mpr rfl, z⟩, fun z => z.elim (fun z => nomatch z) fun ⟨r, hr, z⟩ => (by rw [List.mem_singleton.mp hr] at z; exact z)⟩, by simp [wts, Row.wt], rfl⟩, ?_⟩
    rintro n σ H2 ⟨fs, ws, F, R, v3, v4, rfl, s2, gf, gw, df, dw, ok, bok, inv, tot, rfl⟩
    refine ⟨_, rfl, _, .inl ⟨ws, SqL.of gw, rfl⟩, ?_⟩
    rcases List.eq_nil_or_concat R with rfl | ⟨R0, r, rfl⟩
    · cases dw
      refine iteF ?_
      refine ⟨_, rfl, k H2 lf fs F s2 hlf gf df (by simp [wts] at tot; omega) inv⟩
    · rw [List.concat_eq_append] at *
      rw [List.map_append] at dw
      obtain ⟨ws0, x, rfl, dw0, dx⟩ := daAll_last dw
      have hne : (!(ws0 ++ [x]).isEmpty) = true := by cases ws0 <;> rfl
      refine iT hne ?_
      have ewt : wts (R0 ++ [r]) = wts R0 + r.wt := by rw [wts_app]; simp [wts]
      refine ⟨fun σ' H' => ∃ n', n' < wts (R0 ++ [r]) ∧ WsInv t v lf lw H m n' σ' H', fun σ' H' h => h, ?_⟩
      refine ⟨_, rfl, .inl ⟨rfl, _, SqL.of gw⟩, lw, ws0 ++ [x], x, rfl, rfl, gw, by simp, ?_⟩
      rw [List.dropLast_concat]
      have tk3 := tk_upd (ys := ws0) gw
      have S3 : Same H (upd H2 lw (.lst ws0)) := fun b o z => by
        rw [upd_ne (nl z).2]
        exact s2 _ _ z
      have gf3 : (upd H2 lw (.lst ws0)) lf = some (.lst fs) := by
        rw [upd_ne nfw]
        exact gf
      have gw3 : (upd H2 lw (.lst ws0)) lw = some (.lst ws0) := upd_same
      have ok0 : ∀ q ∈ R0, q.ok := fun q hq => ok q (List.mem_append_left _ hq)
      have okr : r.ok := ok r (by simp)
      have df3 := daAll_tk tk3 df (words_flt F)
      have dw3 := daAll_tk tk3 dw0 (rows_flt ok0)
      have dx3 := dx.tk tk3 (Row.flat okr)
      generalize upd H2 lw (.lst ws0) = H3 at S3 gf3 gw3 df3 dw3 dx3 ⊢
      have lfs := df3.len
      rw [List.length_map] at lfs
      have lws := dw3.len
      rw [List.length_map] at lws
      have lw2 := wts_len R0
      have wp := r.wt_pos
      rw [ewt] at tot
      obtain ⟨a, xs, rfl, gA, dA⟩ : ∃ a xs, x = .ref a ∧ H3 a = some (.tup xs) ∧ ∃ p b bs, xs = [p, b] ∧ Da t H3 b (nmsD bs) ∧ ((∃ c, r = .arm c bs ∧ Da t H3 p (markD c)) ∨ ∃ m1, r = .part m1 bs ∧ Da t H3 p m1) := by
        cases r with
        | arm c bs =>
          obtain ⟨a, xs, rfl, g, d⟩ := da_row (show Da t H3 x (.tuple [markD c, nmsD bs]) from dx3)
          obtain ⟨p, q, rfl, d1, d⟩ := daAll_cons d
          obtain ⟨b, q, rfl, d2, d⟩ := daAll_cons d
          obtain rfl := daAll_nil d
          exact ⟨a, _, rfl, g, p, b, bs, rfl, d2, .inl ⟨c, rfl, d1⟩⟩
        | part m1 bs =>
          obtain ⟨a, xs, rfl, g, d⟩ := da_row (show Da t H3 x (.tuple [m1, nmsD bs]) from dx3)
          obtain ⟨p, q, rfl, d1, d⟩ := daAll_cons d
          obtain ⟨b, q, rfl, d2, d⟩ := daAll_cons d
          obtain rfl := daAll_nil d
          exact ⟨a, _, rfl, g, p, b, bs, rfl, d2, .inr ⟨m1, rfl, d1⟩⟩
      obtain ⟨p, b, bs, rfl, db, alt⟩ := dA
      refine ⟨a, _, rfl, SqT.of gA, rfl, _, _, rfl, _, _, rfl, rfl, ?_⟩
      rcases alt with ⟨c, rfl, dp⟩ | ⟨m1, rfl, dp⟩
      · obtain ⟨pa, ys, rfl, gp, dy⟩ := da_row (show Da t H3 p (.tuple [.str "arm", .str c]) from dp)
        obtain ⟨y0, q, rfl, dy0, dy⟩ := daAll_cons dy
        obtain ⟨y1, q, rfl, dy1, dy⟩ := daAll_cons dy
        obtain rfl := daAll_nil dy
        cases dy0
        refine ⟨_, rfl, pa, _, 0, _, rfl, rfl, SqT.of gp, rfl, rfl, _, rfl, ?_⟩
        refine iT (str_eqT rfl) ?_
        refine ⟨_, rfl, .inl ⟨rfl, _, SqL.of gf3⟩, _, rfl, lf, fs, .ref pa, rfl, rfl, gf3, szl (by omega), ?_⟩
        have tk4 := tk_upd (ys := fs ++ [.ref pa]) gf3
        refine ⟨wts R0, by rw [ewt]; omega, fs ++ [.ref pa], ws0, F ++ [(("arm" : Str), c)], R0, _, _, rfl, fun b o z => ?_, upd_same, ?_, ?_, daAll_tk tk4 dw3 (rows_flt ok0), ok0, fun r hr => bok r (List.mem_append_left _ hr), wsOk_arm inv, ?_, rfl⟩
        · rw [upd_ne (nl z).1]
          exact S3 _ _ z
        · rw [upd_ne nfw.symm]
          exact gw3
        · rw [List.map_append]
          exact (daAll_tk tk4 df3 (words_flt F)).app (.cons (dp.tk tk4 (flt_mark c)) .nil)
        · rw [List.length_append]
          simp only [List.length_cons, List.length_nil]
          omega
      · have o1 : Trm m1 := okr
        have vw := view_of o1.1
        have bb := bok (.part m1 bs) (by simp) m1 bs rfl
        have pz : 1 ≤ psz m1 := by
          have := psz_mems m1
          omega
        obtain ⟨wd, r1, rfl⟩ : ∃ wd r1, m1 = .tuple (.str wd :: r1) := by
          cases vw <;> exact ⟨_, _, rfl⟩
        obtain ⟨pa, ys, rfl, gp, dy⟩ := da_row dp
        obtain ⟨y0, q, rfl, dy0, dq⟩ := daAll_cons dy
        clear dy
        cases dy0
        have na : wd ≠ "arm" := view_arm vw
        refine ⟨_, rfl, pa, _, 0, _, rfl, rfl, SqT.of gp, at_of (show (0 : Int) = ((0 : Nat) : Int) from rfl) rfl, rfl, _, rfl, ?_⟩
        refine iF (str_eqF na) ?_
        -- behind the two tests: the rows of the part
        have go : ∀ (H4 : Hp) (fs4 : List V) (F4 : List (Str × Str)), Same H H4 → TupsKept H3 H4 → H4 lf = some (.lst fs4) → H4 lw = some (.lst ws0) → DaAll t H4 fs4 (F4.map wordP) → WsOk m F4 (R0 ++ (rowsA (.tuple (.str wd :: r1)) bs).reverse) → F4.length + wts (R0 ++ (rowsA (.tuple (.str wd :: r1)) bs).reverse) ≤ 2 * psz m →
            ∀ Q' : VK, (∀ H' a' xs', H' a' = some (.lst xs') → (∀ q, H' q = none → (upd H' q (.lst xs'.reverse)) lw = some (.lst ws0) ∧ ws0.length + xs'.reverse.length ≤ sizeLine ∧ ∃ n', n' < wts (R0 ++ [Row.part (.tuple (.str wd :: r1)) bs]) ∧ WsInv t v lf lw H m n' [some v, some (.ref lf), some (.ref lw), some (.ref pa), some b] (upd (upd H' q (.lst xs'.reverse)) lw (.lst (ws0 ++ xs'.reverse)))) → Q' (.ref a') H') → spRowsA [.ref pa, b] H4 Q' E0 := fun H4 fs4 F4 S4 tk4 gf4 gw4 df4 inv4 tot4 Q' kQ => by
          refine ⟨t, .ref pa, b, _, bs, rfl, dp.tk tk4 o1.flat, o1, db.tk tk4 (flt_nms bs), by omega, by omega, fun H5 l us s5 hl gl dl => kQ H5 l us gl fun q hq => ?_⟩
          have rw1 := rowsA_wt (bs := bs) o1.1
          have lus := dl.len
          rw [List.length_map] at lus
          have lr := wts_len (rowsA (.tuple (.str wd :: r1)) bs)
          have okR := rowsA_ok (bs := bs) o1
          have s6 := same_new (o := .lst us.reverse) hq
          have gw5 := s5 _ _ gw4
          have tk6 : TupsKept H5 (upd (upd H5 q (.lst us.reverse)) lw (.lst (ws0 ++ us.reverse))) := (tk_same s6).trans (tk_upd (s6 _ _ gw5))
          refine ⟨s6 _ _ gw5, by rw [sizeLine_eq, List.length_reverse]; omega, wts R0 + wts (rowsA (.tuple (.str wd :: r1)) bs), by rw [ewt]; simp only [Row.wt]; omega, fs4, ws0 ++ us.reverse, F4, R0 ++ (rowsA (.tuple (.str wd :: r1)) bs).reverse, _, _, rfl, fun c o z => ?_, ?_, upd_same, ?_, ?_, ?_, ?_, inv4, tot4, by rw [wts_app, wts_rev]⟩
          · rw [upd_ne (nl z).2]
            exact s6 _ _ (s5 _ _ (S4 _ _ z))
          · rw [upd_ne nfw]
            exact s6 _ _ (s5 _ _ gf4)
          · exact daAll_tk ((tk_same s5).trans tk6) df4 (words_flt F4)
          · rw [List.map_append, List.map_reverse]
            exact (daAll_tk (tk4.trans ((tk_same s5).trans tk6)) dw3 (rows_flt ok0)).app (daAll_tk tk6 dl (rows_flt okR)).rev
          · intro r hr
            rcases List.mem_append.mp hr with hr | hr
            · exact ok0 r hr
            · exact okR r (List.mem_reverse.mp hr)
          · intro r hr p' bs' e
            rcases List.mem_append.mp hr with hr | hr
            · exact bok r (List.mem_append_left _ hr) p' bs' e
            · have := rowsA_bok (bs := bs) o1.1 r (List.mem_reverse.mp hr) p' bs' e
              omega
        refine ⟨_, rfl, pa, _, 0, _, rfl, rfl, SqT.of gp, at_of (show (0 : Int) = ((0 : Nat) : Int) from rfl) rfl, rfl, _, rfl, ?_⟩
        by_cases c : wd = "name"
        · refine iT (str_eqT c) ?_
          obtain ⟨z, e⟩ := view_name vw c
          cases e
          obtain ⟨y1, q, rfl, dy1, dq⟩ := daAll_cons dq
          obtain rfl := daAll_nil dq
          cases dy1
          obtain ⟨pb, zs, rfl, gb, dz⟩ := da_row (show Da t H3 b (.tuple (bs.map .str)) from db)
          obtain rfl := daAll_strs0 dz
          refine ⟨_, rfl, pa, _, 1, _, rfl, rfl, SqT.of gp, rfl, _, rfl, pb, _, rfl, .inr (SqT.of gb), rfl, flat_words bs, _, rfl, ?_⟩
          rw [inV_words]
          by_cases cb : z ∈ bs
          · refine iF (by rw [decide_eq_true cb]; rfl) ?_
            refine ⟨_, rfl, .inl ⟨rfl, _, SqL.of gw3⟩, _, rfl, _, rfl, ?_⟩
            have e0 := rowsA_name (bs := bs) o1.1
            have i0 := wsOk_in inv (show nameOf (.tuple [.str "name", .str z]) = some z from rfl) cb
            dsimp only [tNil, List.append_nil]
            refine go H3 fs F S3 (fun _ _ z => z) gf3 gw3 df3 (by rw [e0]; simpa using i0) (by rw [e0]; simp [Row.wt] at tot ⊢; omega) _ fun H5 l us gl fin => ⟨l, us, rfl, SqL.of gl, fun q hq => ?_⟩
            obtain ⟨f1, f2, f3⟩ := fin q hq
            exact ⟨lw, q, ws0, us.reverse, rfl, rfl, f1, upd_same, f2, f3⟩
          · refine iT (by rw [decide_eq_false cb]; rfl) ?_
            refine ⟨_, rfl, .inl ⟨rfl, _, SqL.of gf3⟩, _, rfl, lf, fs, .ref pa, rfl, rfl, gf3, szl (by omega), ?_⟩
            have tk4 := tk_upd (ys := fs ++ [.ref pa]) gf3
            have S4 : Same H (upd H3 lf (.lst (fs ++ [.ref pa]))) := fun b o z => by
              rw [upd_ne (nl z).1]
              exact S3 _ _ z
            have gw4 : (upd H3 lf (.lst (fs ++ [.ref pa]))) lw = some (.lst ws0) := by
              rw [upd_ne nfw.symm]
              exact gw3
            have gf4 : (upd H3 lf (.lst (fs ++ [.ref pa]))) lf = some (.lst (fs ++ [.ref pa])) := upd_same
            have df4 : DaAll t (upd H3 lf (.lst (fs ++ [.ref pa]))) (fs ++ [.ref pa]) ((F ++ [(("name" : Str), z)]).map wordP) := by
              rw [List.map_append]
              exact (daAll_tk tk4 df3 (words_flt F)).app (.cons (dp.tk tk4 o1.flat) .nil)
            refine ⟨_, rfl, .inl ⟨rfl, _, SqL.of gw4⟩, _, rfl, _, rfl, ?_⟩
            have e0 := rowsA_name (bs := bs) o1.1
            have i0 := wsOk_new inv (show nameOf (.tuple [.str "name", .str z]) = some z from rfl) cb
            dsimp only [tNil, List.append_nil]
            refine go _ _ _ S4 tk4 gf4 gw4 df4 (by rw [e0]; simpa using i0) (by rw [e0]; simp [Row.wt] at tot ⊢; omega) _ fun H5 l us gl fin => ⟨l, us, rfl, SqL.of gl, fun q hq => ?_⟩
            obtain ⟨f1, f2, f3⟩ := fin q hq
            exact ⟨lw, q, ws0, us.reverse, rfl, rfl, f1, upd_same, f2, f3⟩
        · refine iF (str_eqF c) ?_
          refine iF rfl ?_
          refine ⟨_, rfl, .inl ⟨rfl, _, SqL.of gw3⟩, _, rfl, _, rfl, ?_⟩
          have n0 : nameOf (.tuple (.str wd :: r1)) = none := by
            unfold nameOf
            rw [if_neg (show wordD (.tuple (.str wd :: r1)) ≠ "name" from c)]
          have rw1 := rowsA_wt (bs := bs) o1.1
          dsimp only [tNil, List.append_nil]
          refine go H3 fs F S3 (fun _ _ z => z) gf3 gw3 df3 (wsOk_none inv n0) (by rw [wts_app, wts_rev]; simp only [Row.wt] at tot; omega) _ fun H5 l us gl fin => ⟨l, us, rfl, SqL.of gl, fun q hq => ?_⟩
          obtain ⟨f1, f2, f3⟩ := fin q hq
          exact ⟨lw, q, ws0, us.reverse, rfl, rfl, f1, upd_same, f2, f3⟩
end
end L3

namespace L3
open PySem PyProof.Rows PySem.Spec L2
/-- the names among words -/
def namesF (F : List (Str × Str)) : List Str := (F.filter fun q => decide (q.1 = ("name" : Str))).map (·.2)
theorem namesF_mem {F : List (Str × Str)} {x : Str} : x ∈ namesF F ↔ (("name" : Str), x) ∈ F := by
  unfold namesF
  rw [List.mem_map]
  constructor
  · rintro ⟨q, hq, rfl⟩
    obtain ⟨h1, h2⟩ := List.mem_filter.mp hq
    have h3 : q.1 = ("name" : Str) := of_decide_eq_true h2
    rw [← h3]
    exact h1
  · intro h
    exact ⟨_, List.mem_filter.mpr ⟨h, decide_eq_true rfl⟩, rfl⟩
theorem namesF_snoc {F : List (Str × Str)} {q : Str × Str} : namesF (F ++ [q]) = namesF F ++ (if q.1 = ("name" : Str) then [q.2] else []) := by
  unfold namesF
  rw [List.filter_append, List.map_append]
  by_cases c : q.1 = ("name" : Str)
  · rw [if_pos c]
    congr 1
    rw [List.filter_cons_of_pos (by rw [decide_eq_true c])]
    rfl
  · rw [if_neg c]
    congr 1
    rw [List.filter_cons_of_neg (by rw [decide_eq_false c]; decide)]
    rfl
theorem namesF_len (F : List (Str × Str)) : (namesF F).length ≤ F.length := by
  unfold namesF
  rw [List.length_map]
  exact List.length_filter_le _ _
/-- what is free, each once, ascending -/
def FreeOf (m : PyData) (ss : List Str) : Prop := ss.Nodup ∧ sortedS ss = true ∧ ∀ x, x ∈ ss ↔ Fre m [] x
theorem freeOf_uniq {m : PyData} {ss ts : List Str} (a : FreeOf m ss) (b : FreeOf m ts) : ss = ts := by
  have ab : ∀ x, x ∈ ss ↔ x ∈ ts := fun x => (a.2.2 x).trans (b.2.2 x).symm
  have p : ss.Perm ts := by
    refine List.perm_iff_count.mpr fun x => ?_
    rw [List.Nodup.count a.1, List.Nodup.count b.1]
    by_cases c : x ∈ ss
    · rw [if_pos c, if_pos ((ab x).mp c)]
    · rw [if_neg c, if_neg fun z => c ((ab x).mpr z)]
  exact sorted_uniq p a.2.1 b.2.1
section
variable {P : Program} {w : World} {K : PySem.W.Frag} {mg : Str → Option Value} {base : Heap}
abbrev s_free_names : Stmt := topS 31
abbrev N_free_names : List Str := ["term", "sort", "word"]
theorem sc_free_names : FnScope N_free_names ["term"] (defScope s_free_names) := ⟨rfl, rfl, rfl, by decide +kernel, rfl, by decide +kernel, by decide +kernel⟩
def spFree : Sp := fun vs H Q _ => ∃ (t : Addr) (v : V) (m : PyData), vs = [v] ∧ Da t H v m ∧ Trm m ∧ psz m ≤ 1200 ∧ ∀ H' p ss, Same H H' → H' p = some (.tup (ss.map V.str)) → ss.length ≤ 3000 → FreeOf m ss → Q (.ref p) H'
theorem ok_free {f : Addr} {fd : FuncData} (F : Fun K "free_names" "free_names" s_free_names f fd) (B : Bl mg) (D_words_of : Kn P w K mg base 8 "words_of" ["term"] spWordsOf) : FnOk P w K mg base CX0 9 f fd ["term"] spFree := by
  refine F.ok sc_free_names (fun vs H Q E h => ?_) (fun cdv A outer s H vs Q E hr h => ?_)
  · obtain ⟨t, v, m, rfl, _⟩ := h
    rfl
  · obtain ⟨t, v, m, rfl, hd, ho, hz, k⟩ := h
    have hr_words_of : Room 8 _ := hr
    refine ⟨_, (pss_one (ps_ret (pe_callTy call_tuple_of (by rfl) B.tuple (by decide +kernel) (pa_cons (pe_callB (cr_sortTx rfl) (by rfl) B.sorted (by decide +kernel) (pa_cons (pe_scT (own := [("sort", 1), ("word", 2)]) (g := gTup K 2 (gCons (gName 1) (gCons (gName 2) gNil))) rfl sc_free_names.nd (pi_list (pe_kn D_words_of hr_words_of (pa_cons (pv 0) pa_nil))) (blkOk_by (N := N_free_names) (sc := (defScope s_free_names)) (own := [("sort", 1), ("word", 2)]) (by decide +kernel)) (fun _ _ _ _ _ => (pg_tup (by rfl) (pgs_cons (pg_name (i := 1) sc_free_names.nd rfl (Or.inl rfl)) (pgs_cons (pg_name (i := 2) sc_free_names.nd rfl (Or.inl rfl)) pgs_nil)))) (fun _ _ _ _ _ => (pts_one (pt_cmpR op_eq (pv 1) pe_str (nomark _)))) (fun _ _ _ _ _ => (pv 2))) pa_nil)) pa_nil)))), ?_⟩
    refine ⟨_, rfl, t, v, m, rfl, hd, ho, hz, fun H1 l us W s1 nl gl dl lW inv => ?_⟩
    have lus := dl.len
    rw [List.length_map] at lus
    refine ⟨l, rfl, ⟨_, SqL.of gl⟩, fun D hD => sc_it walk_list (fun i H' => Same H1 H' ∧ H' D = some (TxO P w D (setL [] (namesF (W.take i))))) ⟨same_new hD, upd_same⟩ (fun i H' _ h => SqL.of (h.1 _ _ gl)) ?_ ?_⟩
    · rintro i y H2 H3 hi ⟨s2, g2⟩ ⟨rfl, ey⟩
      obtain ⟨e, he, de⟩ := da_at dl ey
      rw [List.getElem?_map] at he
      obtain ⟨q, hq, rfl⟩ := Option.map_eq_some_iff.mp he
      obtain ⟨a, ys, rfl, ga, dy⟩ := da_row (show Da t H1 y (.tuple [.str q.1, .str q.2]) from de)
      obtain ⟨y0, r0, rfl, dy0, dq1⟩ := daAll_cons dy
      obtain ⟨y1, r1, rfl, dy1, dy2⟩ := daAll_cons dq1
      obtain rfl := daAll_nil dy2
      clear dy dq1
      cases dy0
      cases dy1
      have ts : namesF (W.take (i + 1)) = namesF (W.take i) ++ (if q.1 = ("name" : Str) then [q.2] else []) := by
        rw [List.take_add_one, hq]
        exact namesF_snoc
      refine ⟨a, _, rfl, SqT.of (s2 _ _ ga), rfl, _, _, rfl, _, _, rfl, rfl, rfl, ?_⟩
      refine ⟨_, rfl, rfl, _, rfl, ?_⟩
      by_cases c : q.1 = ("name" : Str)
      · refine iT (str_eqT c) ?_
        have lL := setL_len (xs := namesF (W.take i)) (L := [])
        have lN := namesF_len (W.take i)
        rw [List.length_take] at lN
        rw [List.length_nil] at lL
        refine ⟨_, rfl, q.2, _, rfl, g2, by omega, fun b o z => ?_, ?_⟩
        · rw [upd_ne (ne_of_none z hD)]
          exact s2 _ _ z
        · rw [upd_same, ts, if_pos c, setL_snoc]
          rfl
      · refine iF (str_eqF c) ?_
        rw [ts, if_neg c, List.append_nil]
        exact ⟨s2, g2⟩
    · rintro H2 ⟨s2, g2⟩
      rw [lus, List.take_length] at g2
      have lL := setL_len (xs := namesF W) (L := [])
      have lN := namesF_len W
      rw [List.length_nil] at lL
      refine ⟨D, _, rfl, g2, by omega, fun p ss hp asc => ?_⟩
      refine ⟨p, _, rfl, .inl ⟨SqL.of upd_same, fun q hq => ?_⟩⟩
      have s3 := same_new (o := .lst (ss.map V.str)) hp
      have s4 := same_new (o := .tup (ss.map V.str)) hq
      refine k _ q ss (s1.trans (s2.trans (s3.trans s4))) upd_same (by rw [asc.1.length_eq]; omega) ⟨asc.1.nodup_iff.mpr (setL_nodup List.nodup_nil), asc.2, fun x => ?_⟩
      rw [asc.1.mem_iff, setL_mem, namesF_mem]
      rw [inv x]
      exact ⟨fun z => z.elim .inl fun z => (nomatch z), fun z => z.elim .inl fun ⟨r, hr, _⟩ => (nomatch hr)⟩
end
end L3

/-! the places of a term -/
namespace L3
open PySem PyProof.Rows PySem.Spec L2
abbrev Spot := List Nat × PyData
def kidsP (p : List Nat) : Nat → List PyData → List Spot
  | _, [] => []
  | k, d :: ds => (p ++ [k], d) :: kidsP p (k + 1) ds
def spotsN : Nat → Spot → List Spot
  | 0, _ => []
  | n + 1, q => q :: (kidsP q.1 0 (ptsD q.2)).flatMap (spotsN n)
/-- all places, and what stands there, in reading order -/
def spots (q : Spot) : List Spot := spotsN (psz q.2) q
theorem kidsP_snd (p : List Nat) : ∀ (k : Nat) (ds : List PyData), (kidsP p k ds).map (·.2) = ds
  | _, [] => rfl
  | k, d :: ds => by
    rw [kidsP, List.map_cons, kidsP_snd p (k + 1) ds]
theorem kidsP_len (p : List Nat) (k : Nat) (ds : List PyData) : (kidsP p k ds).length = ds.length := by
  rw [← List.length_map (f := (·.2)), kidsP_snd]
theorem kidsP_get (p : List Nat) : ∀ (k i : Nat) (ds : List PyData), (kidsP p k ds)[i]? = (ds[i]?).map fun d => (p ++ [k + i], d)
  | _, _, [] => rfl
  | k, 0, d :: ds => rfl
  | k, i + 1, d :: ds => by
    show (kidsP p (k + 1) ds)[i]? = (ds[i]?).map _
    rw [kidsP_get p (k + 1) i ds, show k + 1 + i = k + (i + 1) by omega]
theorem kidsP_mem {p : List Nat} {k : Nat} {ds : List PyData} {q : Spot} (h : q ∈ kidsP p k ds) : q.2 ∈ ds ∧ q.1.length = p.length + 1 := by
  obtain ⟨i, e⟩ := List.mem_iff_getElem?.mp h
  rw [kidsP_get] at e
  obtain ⟨d, hd, rfl⟩ := Option.map_eq_some_iff.mp e
  exact ⟨List.mem_of_getElem? hd, by simp⟩
theorem psz_pts {m d : PyData} (h : isTermD m = true) (hd : d ∈ ptsD m) : psz d < psz m := by
  have h1 := partsD_lt (pts_some h)
  have h2 := psz_in hd
  omega
theorem pts_term {m d : PyData} (h : isTermD m = true) (hd : d ∈ ptsD m) : isTermD d = true := by
  have y := isTerm_yes (pts_some h)
  rw [h] at y
  exact List.all_eq_true.mp y.symm d hd
theorem spotsN_fuel : ∀ (n : Nat) {q : Spot}, isTermD q.2 = true → psz q.2 ≤ n → spotsN n q = spots q := by
  intro n
  induction n using Nat.strongRecOn with
  | ind n ih =>
    intro q h hn
    have p1 : 1 ≤ psz q.2 := by
      have := psz_mems q.2
      omega
    obtain ⟨m, rfl⟩ : ∃ m, n = m + 1 := ⟨n - 1, by omega⟩
    obtain ⟨z, ez⟩ : ∃ z, psz q.2 = z + 1 := ⟨psz q.2 - 1, by omega⟩
    unfold spots
    rw [ez]
    show q :: _ = q :: _
    congr 1
    have e : ∀ r ∈ kidsP q.1 0 (ptsD q.2), spotsN m r = spotsN z r := fun r hr => by
      have hm := (kidsP_mem hr).1
      have l := psz_pts h hm
      rw [ih m (by omega) (pts_term h hm) (by omega)]
      by_cases c : z < m + 1
      · rw [ih z c (pts_term h hm) (by omega)]
      · omega
    generalize kidsP q.1 0 (ptsD q.2) = rs at e
    induction rs with
    | nil => rfl
    | cons r rs ih2 =>
      rw [List.flatMap_cons, List.flatMap_cons, e r List.mem_cons_self, ih2 fun x hx => e x (List.mem_cons_of_mem _ hx)]
def flat (st : List Spot) : List Spot := st.flatMap spots
theorem flat_app (a b : List Spot) : flat (a ++ b) = flat a ++ flat b := List.flatMap_append
theorem flat_cons (a : Spot) (b : List Spot) : flat (a :: b) = spots a ++ flat b := List.flatMap_cons
theorem spots_step {q : Spot} (h : isTermD q.2 = true) : spots q = q :: flat (kidsP q.1 0 (ptsD q.2)) := by
  have p1 : 1 ≤ psz q.2 := by
    have := psz_mems q.2
    omega
  rw [← spotsN_fuel (psz q.2 + 1) h (by omega)]
  show q :: (kidsP q.1 0 (ptsD q.2)).flatMap (spotsN (psz q.2)) = q :: (kidsP q.1 0 (ptsD q.2)).flatMap spots
  congr 1
  have e : ∀ r ∈ kidsP q.1 0 (ptsD q.2), spotsN (psz q.2) r = spots r := fun r hr => by
    have hm := (kidsP_mem hr).1
    have l := psz_pts h hm
    exact spotsN_fuel _ (pts_term h hm) (by omega)
  generalize kidsP q.1 0 (ptsD q.2) = rs at e
  induction rs with
  | nil => rfl
  | cons r rs ih2 =>
    rw [List.flatMap_cons, List.flatMap_cons, e r List.mem_cons_self, ih2 fun x hx => e x (List.mem_cons_of_mem _ hx)]
def stZ (st : List Spot) : Nat := pszL (st.map (·.2))
theorem stZ_app (a b : List Spot) : stZ (a ++ b) = stZ a + stZ b := by
  unfold stZ
  rw [List.map_append, pszL_app]
theorem stZ_rev (a : List Spot) : stZ a.reverse = stZ a := by
  induction a with
  | nil => rfl
  | cons r a ih =>
    rw [List.reverse_cons, stZ_app, ih]
    simp only [stZ, List.map_cons, List.map_nil, pszL]
    omega
theorem stZ_len (a : List Spot) : a.length ≤ stZ a := by
  have := pszL_len (a.map (·.2))
  rw [List.length_map] at this
  exact this
theorem stZ_kids {p : List Nat} {m : PyData} (h : isTermD m = true) : stZ (kidsP p 0 (ptsD m)) < psz m := by
  unfold stZ
  rw [kidsP_snd]
  exact partsD_lt (pts_some h)
def spotP (q : Spot) : PyData := .tuple [plD q.1, q.2]
theorem flt_pl (p : List Nat) : Flt (plD p) := flt_tup fun d hd => by
  obtain ⟨k, _, rfl⟩ := List.mem_map.mp hd
  exact ⟨by simp [noList], by simp [PyData.hasDict]⟩
theorem flt_spot {q : Spot} (h : Flt q.2) : Flt (spotP q) := flt_two (flt_pl _) h
theorem cat_tup {K : PySem.W.Frag} {t : Addr} {H : Hp} {u y : V} {ds es : List PyData} {Q : VK} (hu : Da t H u (.tuple ds)) (hy : Da t H y (.tuple es)) (hz : ds.length + es.length ≤ 100000) (k : ∀ x H', Same H H' → Da t H' x (.tuple (ds ++ es)) → Q x H') : rCatA K u y H Q := by
  obtain ⟨a, xs, rfl, ga, da⟩ := da_row hu
  obtain ⟨b, ys, rfl, gb, db⟩ := da_row hy
  have l1 := da.len
  have l2 := db.len
  refine ⟨a, b, xs, ys, rfl, rfl, SqT.of ga, SqT.of gb, by rw [sizeLine_eq]; omega, fun e => ?_, fun e e2 => ?_, fun e e2 p hp => ?_⟩
  · have : ds = [] := List.length_eq_zero_iff.mp (by rw [← l1, e]; rfl)
    subst this
    exact k _ H (Same.refl H) hy
  · have : es = [] := List.length_eq_zero_iff.mp (by rw [← l2, e2]; rfl)
    subst this
    rw [List.append_nil] at k
    exact k _ H (Same.refl H) hu
  · have s1 := same_new (o := .tup (xs ++ ys)) hp
    exact k _ _ s1 (.tup upd_same ((da.kp (kp_same s1)).app (db.kp (kp_same s1))))
theorem plD_app (p q : List Nat) : plD (p ++ q) = .tuple (p.map (fun n : Nat => PyData.int (n : Int)) ++ q.map fun n : Nat => .int (n : Int)) := by
  unfold plD
  rw [List.map_append]
section
variable {P : Program} {w : World} {K : PySem.W.Frag} {mg : Str → Option Value} {base : Heap}
abbrev s_places : Stmt := topS 26
abbrev N_places : List Str := ["term", "waiting", "place", "part", "rows", "k", "inner"]
theorem sc_places : GScope N_places ["term"] (defScope s_places) := ⟨rfl, rfl, rfl, by decide +kernel, rfl, by decide +kernel, by decide +kernel⟩
def spPlaces : List V → Hp → (List V → Hp → Prop) → XK → Prop := fun vs H Q _ => ∃ (t : Addr) (v : V) (m : PyData), vs = [v] ∧ Da t H v m ∧ Trm m ∧ psz m ≤ 1200 ∧ ∀ ys H', Same H H' → DaAll t H' ys ((spots ([], m)).map fun q => plD q.1) → Q ys H'
/-- what holds ahead of each turn -/
def PlInv (t : Addr) (v : V) (lw : Addr) (H : Hp) (m : PyData) (n : Nat) (ys : List V) : L2.St → Hp → Prop := fun σ H' => ∃ (ws : List V) (os st : List Spot) (v2 v3 v4 v5 v6 : Option V), σ = [some v, some (.ref lw), v2, v3, v4, v5, v6] ∧ Same H H' ∧ H' lw = some (.lst ws) ∧
  DaAll t H' ys (os.map fun q => plD q.1) ∧ DaAll t H' ws (st.reverse.map spotP) ∧ (∀ q ∈ st, Trm q.2 ∧ q.1.length + psz q.2 ≤ psz m) ∧ os ++ flat st = spots ([], m) ∧ os.length + stZ st ≤ psz m ∧ n = stZ st
theorem ok_places {f : Addr} {fd : FuncData} (F : Fun K "places" "places" s_places f fd) (B : Bl mg) (B5 : Bl5 mg) (D_parts_in : Kn P w K mg base 5 "parts_in" ["value"] spParts) : GFn P w K mg base 6 f fd ["term"] spPlaces := by
  obtain ⟨oc, od, kV, doc, pm, an, cdv, ct, osl, rfl, lk, hcd⟩ := F.ex
  refine gfn_of lk hcd sc_places (fun vs H Q E h => ?_) fun A outer s H vs Q E pn hr h => ?_
  · obtain ⟨t, v, m, rfl, _⟩ := h
    rfl
  · obtain ⟨t, v, m, rfl, hd, ho, hz, k⟩ := h
    have hr_parts_in : Room 5 _ := hr
    refine ⟨_, (gss_cons (gs_ps (ps_set (i := 1) sc_places.nd rfl (Or.inl rfl) (pe_lst (pa_cons (pe_tup (pa_cons (pe_tup pa_nil) (pa_cons (pv 0) pa_nil))) pa_nil))))
  (gss_cons (gs_while owns_gcx (pt_truth (pv 1) (by intro _; rfl))
  (gss_cons (gs_ps (ps_asg (pe_bm0 PySem.F.plainAttrs_list PySem.F.slot_list_pop PySem.F.type_list_pop mt_pop (pv 1)) (pg_tup (by rfl) (pgs_cons (pg_name (i := 2) sc_places.nd rfl (Or.inr rfl)) (pgs_cons (pg_name (i := 3) sc_places.nd rfl (Or.inl rfl)) pgs_nil)))))
  (gss_cons (gs_yield (pv 2))
  (gss_pss (pss_cons (ps_setLc (i := 4) (own := [("k", 5), ("inner", 6)]) (g := gTup K 2 (gCons (gName 5) (gCons (gName 6) gNil))) rfl sc_places.nd rfl rfl (sw_true rfl rfl rfl (by decide +kernel)) (pi_enum (by rfl) B5.enum (pa_cons (pe_kn D_parts_in hr_parts_in (pa_cons (pv 3) pa_nil)) pa_nil)) (blkOk_by (N := N_places) (sc := (defScope s_places)) (own := [("k", 5), ("inner", 6)]) (by decide +kernel)) (fun _ _ _ _ _ => (pg_tup (by rfl) (pgs_cons (pg_name (i := 5) sc_places.nd rfl (Or.inl rfl)) (pgs_cons (pg_name (i := 6) sc_places.nd rfl (Or.inl rfl)) pgs_nil)))) (fun _ _ _ _ _ => pts_nil) (fun _ _ _ _ _ => (pe_tup (pa_cons (pe_op (show OpR _ _ (rCatA K) from op_catA) (pv 2) (pe_tup (pa_cons (pv 5) pa_nil))) (pa_cons (pv 6) pa_nil)))))
  (pss_one (ps_expr (pe_bm PySem.F.plainAttrs_list PySem.F.slot_list_extend PySem.F.type_list_extend mt_extend (pv 1) (pa_cons (pe_listRev rfl (by rfl) B.list (by rfl) B5.reversed (pv 4)) pa_nil)))))))))
  gss_nil)), ?_⟩
    refine ⟨slz rfl, fun pe hpe => ⟨_, rfl, slz rfl, fun pq hpq => ⟨slz rfl, fun lw hlw => ?_⟩⟩⟩
    have sB := same_new (o := .tup []) hpe
    have sC := same_new (o := .tup [.ref pe, v]) hpq
    have sD := same_new (o := .lst [.ref pq]) hlw
    have s1 := sB.trans (sC.trans sD)
    have gpe := sD _ _ (sC _ _ (upd_same (H := H) (a := pe) (o := .tup [])))
    have gpq := sD _ _ (upd_same (H := upd H pe (.tup [])) (a := pq) (o := .tup [.ref pe, v]))
    have gw1 := upd_same (H := upd (upd H pe (.tup [])) pq (.tup [.ref pe, v])) (a := lw) (o := .lst [.ref pq])
    have hlw0 : H lw = none := (sB.trans sC).free hlw
    generalize upd (upd (upd H pe (.tup [])) pq (.tup [.ref pe, v])) lw (.lst [.ref pq]) = H1 at s1 gpe gpq gw1 ⊢
    have nl : ∀ {a : Addr} {o : HO}, H a = some o → a ≠ lw := fun z => ne_of_none z hlw0
    refine ⟨PlInv t v lw H m, ⟨_, [.ref pq], [], [([], m)], none, none, none, none, none, rfl, s1, gw1, .nil, .cons (.tup gpq (.cons (.tup gpe .nil) (.cons (hd.kp (kp_same s1)) .nil))) .nil, fun q hq => (by rw [List.mem_singleton.mp hq]; exact ⟨ho, by simp⟩), by simp [flat], by simp [stZ, pszL], rfl⟩, ?_⟩
    rintro n ys σ H2 ⟨ws, os, st, v2, v3, v4, v5, v6, rfl, s2, gw, dys, dws, ok, eq, tot, rfl⟩
    refine ⟨_, rfl, _, .inl ⟨ws, SqL.of gw, rfl⟩, ?_⟩
    cases st with
    | nil =>
      cases dws
      refine iteF ?_
      have e : os = spots ([], m) := by
        rw [← eq]
        simp [flat]
      rw [e] at dys
      exact k ys H2 s2 dys
    | cons q st =>
      obtain ⟨p, m1⟩ := q
      rw [List.reverse_cons, List.map_append] at dws
      obtain ⟨ws0, x, rfl, dw0, dx⟩ := daAll_last dws
      have hne : (!(ws0 ++ [x]).isEmpty) = true := by cases ws0 <;> rfl
      refine iT hne ?_
      obtain ⟨o1, lp⟩ := ok (p, m1) List.mem_cons_self
      have o1 : Trm m1 := o1
      have lp : p.length + psz m1 ≤ psz m := lp
      have ok0 : ∀ q ∈ st, Trm q.2 ∧ q.1.length + psz q.2 ≤ psz m := fun q hq => ok q (List.mem_cons_of_mem _ hq)
      have fl0 : ∀ d ∈ st.reverse.map spotP, Flt d := fun d hd => by
        obtain ⟨q, hq, rfl⟩ := List.mem_map.mp hd
        exact flt_spot (ok0 q (List.mem_reverse.mp hq)).1.flat
      have flo : ∀ (os : List Spot), ∀ d ∈ os.map (fun q => plD q.1), Flt d := fun os d hd => by
        obtain ⟨q, _, rfl⟩ := List.mem_map.mp hd
        exact flt_pl q.1
      have ez : stZ ((p, m1) :: st) = psz m1 + stZ st := rfl
      refine ⟨fun ys' σ' H' => ∃ n', n' < stZ ((p, m1) :: st) ∧ PlInv t v lw H m n' ys' σ' H', fun ys' σ' H' h => h, ?_⟩
      refine ⟨_, rfl, .inl ⟨rfl, _, SqL.of gw⟩, lw, ws0 ++ [x], x, rfl, rfl, gw, by simp, ?_⟩
      rw [List.dropLast_concat]
      have tk3 := tk_upd (ys := ws0) gw
      have S3 : Same H (upd H2 lw (.lst ws0)) := fun b o z => by
        rw [upd_ne (nl z)]
        exact s2 _ _ z
      have gw3 : (upd H2 lw (.lst ws0)) lw = some (.lst ws0) := upd_same
      have dys3 := daAll_tk tk3 dys (flo os)
      have dw3 := daAll_tk tk3 dw0 fl0
      have dx3 := dx.tk tk3 (flt_spot o1.flat)
      generalize upd H2 lw (.lst ws0) = H3 at S3 gw3 dys3 dw3 dx3 ⊢
      obtain ⟨a, xs, rfl, gA, dA⟩ := da_row (show Da t H3 x (.tuple [plD p, m1]) from dx3)
      obtain ⟨pp, q0, rfl, dp, dA1⟩ := daAll_cons dA
      obtain ⟨y, q1, rfl, dy, dA2⟩ := daAll_cons dA1
      obtain rfl := daAll_nil dA2
      clear dA dA1 dA2
      refine ⟨a, _, rfl, SqT.of gA, rfl, _, _, rfl, _, _, rfl, rfl, ?_⟩
      have lys := dys3.len
      rw [List.length_map] at lys
      refine ⟨by rw [sizeLine_eq]; omega, _, rfl, ?_⟩
      refine ⟨_, rfl, t, y, m1, H3, rfl, Same.refl H3, dy, o1.2, fun z => (by rw [pts_some o1.1] at z; cases z), fun ps eps H4 l us s4 hl gl dl => ?_⟩
      obtain rfl : ps = ptsD m1 := by rw [pts_some o1.1] at eps; exact (Option.some.inj eps).symm
      have lus := dl.len
      have lz : (ptsD m1).length ≤ psz m1 := by
        have h1 := partsD_lt (pts_some o1.1)
        have h2 := pszL_len (ptsD m1)
        omega
      have S4 := S3.trans s4
      have flk : ∀ d ∈ (kidsP p 0 (ptsD m1)).map spotP, Flt d := fun d hd => by
        obtain ⟨q, hq, rfl⟩ := List.mem_map.mp hd
        exact flt_spot ((trm_parts o1).2 q.2 (kidsP_mem hq).1).flat
      refine ⟨l, us, rfl, SqL.of gl, fun D hD => lc_it walk_enumL (fun i H' => Same H4 H' ∧ ∃ zs, H' D = some (.lst zs) ∧ DaAll t H' zs (((kidsP p 0 (ptsD m1)).take i).map spotP)) ⟨same_new hD, [], upd_same, .nil⟩ (fun i H' _ h => SqL.of (h.1 _ _ gl)) ?_ ?_⟩
      · rintro i z H5 H6 hi ⟨s5, zs, gD, dz⟩ ⟨T, y1, y2, rfl, hT, rfl, e1, e2⟩
        cases e1
        obtain ⟨d, ed, dd⟩ := da_at dl e2
        have dT : Trm d := (trm_parts o1).2 d (List.mem_of_getElem? ed)
        have ek : (kidsP p 0 (ptsD m1))[i]? = some (p ++ [i], d) := by
          rw [kidsP_get, ed]
          simp
        have s6 := same_new (o := .tup [.int (i : Nat), y2]) hT
        have lzs := dz.len
        rw [List.length_map, List.length_take, kidsP_len] at lzs
        refine ⟨T, _, rfl, SqT.of upd_same, rfl, _, _, rfl, _, _, rfl, rfl, rfl, ?_⟩
        refine ⟨_, rfl, _, rfl, slz rfl, fun r hr => ?_⟩
        have s7 := same_new (o := .tup [.int (i : Nat)]) hr
        have S57 := s6.trans s7
        have dr : Da t (upd (upd H5 T (.tup [.int (i : Nat), y2])) r (.tup [.int (i : Nat)])) (.ref r) (.tuple ([i].map fun n : Nat => PyData.int (n : Int))) := .tup upd_same (.cons (.int _) .nil)
        refine cat_tup (t := t) (show Da t _ pp (.tuple (p.map fun n : Nat => PyData.int (n : Int))) from dp.kp (kp_same (s4.trans (s5.trans S57)))) dr (by simp; omega) fun xv H7 s8 dx7 => ⟨_, rfl, slz rfl, fun r2 hr2 => ?_⟩
        have s9 := same_new (o := .tup [xv, y2]) hr2
        have S59 := S57.trans (s8.trans s9)
        have gD9 := S59 _ _ gD
        have tk := tk_upd (ys := zs ++ [.ref r2]) gD9
        refine ⟨zs, gD9, szl (by omega), fun b o e => ?_, _, upd_same, ?_⟩
        · rw [upd_ne (ne_of_none e hD)]
          exact S59 _ _ (s5 _ _ e)
        · rw [List.take_add_one, ek, List.map_append]
          refine (daAll_tk ((tk_same S59).trans tk) dz fun e he => ?_).app (.cons (.tup (tk _ _ upd_same) (.cons ?_ (.cons (dd.tk ((tk_same (s4.trans (s5.trans S59))).trans tk) dT.flat) .nil))) .nil)
          · obtain ⟨q, hq, rfl⟩ := List.mem_map.mp he
            exact flk _ (List.mem_map.mpr ⟨q, List.mem_of_mem_take hq, rfl⟩)
          · show Da t _ xv (plD (p ++ [i]))
            rw [plD_app] at *
            have dx8 : Da t H7 xv (plD (p ++ [i])) := by rw [plD_app]; exact dx7
            rw [← plD_app]
            exact dx8.tk ((tk_same s9).trans tk) (flt_pl _)
      · rintro H5 ⟨s5, zs, gD, dz⟩
        rw [lus, List.take_of_length_le (by rw [kidsP_len]; exact Nat.le_refl _)] at dz
        have lzs := dz.len
        rw [List.length_map, kidsP_len] at lzs
        have lws := dw3.len
        rw [List.length_map, List.length_reverse] at lws
        have lst := stZ_len st
        have S5 := S4.trans s5
        have gw5 := s5 _ _ (s4 _ _ gw3)
        have kz := stZ_kids (p := p) o1.1
        rw [ez] at tot
        refine ⟨_, rfl, .inl ⟨rfl, _, SqL.of gw5⟩, _, rfl, D, zs, rfl, SqL.of gD, fun q hq => ?_⟩
        have s6 := same_new (o := .lst zs.reverse) hq
        have gw6 := s6 _ _ gw5
        have tk6 : TupsKept H3 (upd (upd H5 q (.lst zs.reverse)) lw (.lst (ws0 ++ zs.reverse))) := (tk_same (s4.trans (s5.trans s6))).trans (tk_upd gw6)
        refine ⟨lw, q, ws0, zs.reverse, rfl, rfl, gw6, upd_same, by rw [sizeLine_eq, List.length_reverse]; omega, ?_⟩
        refine ⟨stZ (kidsP p 0 (ptsD m1) ++ st), by rw [stZ_app, ez]; omega, ws0 ++ zs.reverse, os ++ [(p, m1)], kidsP p 0 (ptsD m1) ++ st, _, _, _, _, _, rfl, fun b o z => ?_, upd_same, ?_, ?_, ?_, ?_, ?_, rfl⟩
        · rw [upd_ne (nl z)]
          exact s6 _ _ (S5 _ _ z)
        · rw [List.map_append]
          exact (daAll_tk tk6 dys3 (flo os)).app (.cons (dp.tk tk6 (flt_pl p)) .nil)
        · rw [List.reverse_append, List.map_append, List.map_reverse (l := kidsP p 0 (ptsD m1))]
          exact (daAll_tk tk6 dw3 fl0).app (daAll_tk ((tk_same s6).trans (tk_upd gw6)) dz flk).rev
        · intro q hq
          rcases List.mem_append.mp hq with hq | hq
          · obtain ⟨h1, h2⟩ := kidsP_mem hq
            refine ⟨(trm_parts o1).2 q.2 h1, ?_⟩
            have := psz_pts o1.1 h1
            omega
          · exact ok0 q hq
        · rw [← eq, flat_cons, spots_step (q := (p, m1)) o1.1, flat_app]
          simp
        · rw [stZ_app, List.length_append]
          simp
          omega
end
end L3

namespace L3
open PySem PyProof.Rows PySem.Spec L2
theorem view_use {m : PyData} (h : View m) (e : wordD m = "use") : ∃ (a b : PyData), m = .tuple [.str "use", a, b] := by
  cases h with
  | use a b ha hb => exact ⟨a, b, rfl⟩
  | name x h => exact absurd (show ("name" : Str) = "use" from e) (by decide)
  | given x a h ha => exact absurd (show ("given" : Str) = "use" from e) (by decide)
  | whole x h => exact absurd (show ("whole" : Str) = "use" from e) (by decide)
  | text x h => exact absurd (show ("text" : Str) = "use" from e) (by decide)
  | hole => exact absurd (show ("hole" : Str) = "use" from e) (by decide)
  | lett rs a hr ne ha => exact absurd (show ("let" : Str) = "use" from e) (by decide)
  | matc a rs ha ne hr => exact absurd (show ("match" : Str) = "use" from e) (by decide)
theorem kids_leaf {m : PyData} (h : isTermD m = true) (h1 : wordD m ≠ "use") (h2 : wordD m ≠ "given") (h3 : wordD m ≠ "let") (h4 : wordD m ≠ "match") : kidsD m = [] := by
  have e : (kidsD m).map (·.1) = [] := by
    rw [kids_fst h]
    cases view_of h with
    | use a b ha hb => exact absurd rfl h1
    | given x a h ha => exact absurd rfl h2
    | lett rs a hr ne ha => exact absurd rfl h3
    | matc a rs ha ne hr => exact absurd rfl h4
    | name x hx =>
      refine pts_of (show (if isNameD (.str x) then some [] else none) = some [] from ?_)
      rw [hx]
      rfl
    | whole x hx =>
      refine pts_of (show (if isWholeD x then some [] else none) = some [] from ?_)
      rw [hx]
      rfl
    | text x hx =>
      refine pts_of (show (if isTextD x then some [] else none) = some [] from ?_)
      rw [hx]
      rfl
    | hole => rfl
  exact List.map_eq_nil_iff.mp e
section
variable {P : Program} {w : World} {K : PySem.W.Frag} {mg : Str → Option Value} {base : Heap}
abbrev s__law_parts : Stmt := topS 40
abbrev N__law_parts : List Str := ["_law_term_here", "_law_own", "_law_name", "_law_one", "_law_arm"]
theorem sc__law_parts : FnScope N__law_parts ["_law_term_here"] (defScope s__law_parts) := ⟨rfl, rfl, rfl, by decide +kernel, rfl, by decide +kernel, by decide +kernel⟩
def spLParts : Sp := fun vs H Q _ => ∃ (t : Addr) (v : V) (m : PyData), vs = [v] ∧ Da t H v m ∧ Trm m ∧ psz m ≤ 5000 ∧
  ∀ H' l us, Same H H' → H l = none → H' l = some (.lst us) → DaAll t H' us ((kidsD m).map fun q => pairD q.1 q.2) → Q (.ref l) H'
theorem ok_lparts {f : Addr} {fd : FuncData} (F : Fun K "_law_parts" "_law_parts" s__law_parts f fd) (B : Bl mg) : FnOk P w K mg base CX0 1 f fd ["_law_term_here"] spLParts := by
  refine F.ok sc__law_parts (fun vs H Q E h => ?_) (fun cdv A outer s H vs Q E hr h => ?_)
  · obtain ⟨t, v, m, rfl, _⟩ := h
    rfl
  · obtain ⟨t, v, m, rfl, hd, ho, hz, k⟩ := h
    refine ⟨_, (pss_cons (ps_if (pt_cmpR op_eq (pe_ix ix_tup (pv 0) pe_int (fun _ _ => rfl)) pe_str (nomark _))
  (pss_one (ps_ret (pe_lst (pa_cons (pe_tup (pa_cons (pe_ix ix_tup (pv 0) pe_int (fun _ _ => rfl)) (pa_cons (pe_tup pa_nil) pa_nil))) (pa_cons (pe_tup (pa_cons (pe_ix ix_tup (pv 0) pe_int (fun _ _ => rfl)) (pa_cons (pe_tup pa_nil) pa_nil))) pa_nil)))))
  pss_nil)
  (pss_cons (ps_if (pt_cmpR op_eq (pe_ix ix_tup (pv 0) pe_int (fun _ _ => rfl)) pe_str (nomark _))
  (pss_one (ps_ret (pe_lst (pa_cons (pe_tup (pa_cons (pe_ix ix_tup (pv 0) pe_int (fun _ _ => rfl)) (pa_cons (pe_tup (pa_cons (pe_ix ix_tup (pv 0) pe_int (fun _ _ => rfl)) pa_nil)) pa_nil))) pa_nil))))
  pss_nil)
  (pss_cons (ps_if (pt_cmpR op_eq (pe_ix ix_tup (pv 0) pe_int (fun _ _ => rfl)) pe_str (nomark _))
  (pss_cons (ps_set (i := 1) sc__law_parts.nd rfl (Or.inr rfl) (pe_callTy call_tuple_of (by rfl) B.tuple (by decide +kernel) (pa_cons (pe_lc (own := [("_law_name", 2), ("_law_one", 3)]) (g := gTup K 2 (gCons (gName 2) (gCons (gName 3) gNil))) rfl sc__law_parts.nd (pi_tup (pe_ix ix_tup (pv 0) pe_int (fun _ _ => rfl))) (blkOk_by (N := N__law_parts) (sc := (defScope s__law_parts)) (own := [("_law_name", 2), ("_law_one", 3)]) (by decide +kernel)) (fun _ _ _ _ _ => (pg_tup (by rfl) (pgs_cons (pg_name (i := 2) sc__law_parts.nd rfl (Or.inl rfl)) (pgs_cons (pg_name (i := 3) sc__law_parts.nd rfl (Or.inl rfl)) pgs_nil)))) (fun _ _ _ _ _ => pts_nil) (fun _ _ _ _ _ => (pv 2))) pa_nil)))
  (pss_one (ps_ret (pe_op op_cat (pe_lc (own := [("_law_name", 2), ("_law_one", 3)]) (g := gTup K 2 (gCons (gName 2) (gCons (gName 3) gNil))) rfl sc__law_parts.nd (pi_tup (pe_ix ix_tup (pv 0) pe_int (fun _ _ => rfl))) (blkOk_by (N := N__law_parts) (sc := (defScope s__law_parts)) (own := [("_law_name", 2), ("_law_one", 3)]) (by decide +kernel)) (fun _ _ _ _ _ => (pg_tup (by rfl) (pgs_cons (pg_name (i := 2) sc__law_parts.nd rfl (Or.inl rfl)) (pgs_cons (pg_name (i := 3) sc__law_parts.nd rfl (Or.inl rfl)) pgs_nil)))) (fun _ _ _ _ _ => pts_nil) (fun _ _ _ _ _ => (pe_tup (pa_cons (pv 3) (pa_cons (pv 1) pa_nil))))) (pe_lst (pa_cons (pe_tup (pa_cons (pe_ix ix_tup (pv 0) pe_int (fun _ _ => rfl)) (pa_cons (pv 1) pa_nil))) pa_nil))))))
  pss_nil)
  (pss_one (ps_ret (pe_ifExp (pt_cmpR op_eq (pe_ix ix_tup (pv 0) pe_int (fun _ _ => rfl)) pe_str (nomark _)) (pe_op op_cat (pe_lst (pa_cons (pe_tup (pa_cons (pe_ix ix_tup (pv 0) pe_int (fun _ _ => rfl)) (pa_cons (pe_tup pa_nil) pa_nil))) pa_nil)) (pe_lc (own := [("_law_arm", 4)]) rfl sc__law_parts.nd (pi_tup (pe_ix ix_tup (pv 0) pe_int (fun _ _ => rfl))) (blkOk_by (N := N__law_parts) (sc := (defScope s__law_parts)) (own := [("_law_arm", 4)]) (by decide +kernel)) (fun _ _ _ _ _ => (pg_name (i := 4) sc__law_parts.nd rfl (Or.inl rfl))) (fun _ _ _ _ _ => pts_nil) (fun _ _ _ _ _ => (pe_tup (pa_cons (pe_ix (show IxR _ (rIxT K) from ix_tup) (pv 4) pe_int (fun _ _ => rfl)) (pa_cons (pe_ix (show IxR _ (rIxT K) from ix_tup) (pv 4) pe_int (fun _ _ => rfl)) pa_nil)))))) (pe_lst pa_nil))))))), ?_⟩
    have vw := view_of ho.1
    obtain ⟨wd, r, rfl⟩ : ∃ wd r, m = .tuple (.str wd :: r) := by
      cases vw <;> exact ⟨_, _, rfl⟩
    obtain ⟨ad, xs, rfl, ga, da⟩ := da_row hd
    obtain ⟨x0, xr, rfl, d0, dr⟩ := daAll_cons da
    clear da
    cases d0
    have g0 : ∀ {H1 : Hp}, Same H H1 → SqT K H1 ad (.str wd :: xr) := fun s1 => SqT.of (s1 _ _ ga)
    refine ⟨_, rfl, ad, _, 0, _, rfl, rfl, g0 (Same.refl H), at_of (show (0 : Int) = ((0 : Nat) : Int) from rfl) rfl, rfl, _, rfl, ?_⟩
    by_cases c1 : wd = "use"
    · refine iT (str_eqT c1) ?_
      obtain ⟨a, b, e⟩ := view_use vw c1
      cases e
      obtain ⟨x1, r1, rfl, d1, dr⟩ := daAll_cons dr
      obtain ⟨x2, r2, rfl, d2, dr⟩ := daAll_cons dr
      obtain rfl := daAll_nil dr
      refine ⟨_, rfl, ad, _, 1, _, rfl, rfl, g0 (Same.refl H), rfl, slz rfl, fun e1 he1 => ⟨slz rfl, fun p1 hp1 => ?_⟩⟩
      have s1 := same_new (o := .tup []) he1
      have s2 := same_new (o := .tup [x1, .ref e1]) hp1
      have S2 := s1.trans s2
      have dp1 : Da t (upd (upd H e1 (.tup [])) p1 (.tup [x1, .ref e1])) (.ref p1) (pairD a []) := .tup upd_same (.cons (d1.kp (kp_same S2)) (.cons (.tup (s2 _ _ upd_same) .nil) .nil))
      generalize upd (upd H e1 (.tup [])) p1 (.tup [x1, .ref e1]) = H2 at S2 dp1 ⊢
      refine ⟨_, rfl, ad, _, 2, _, rfl, rfl, g0 S2, rfl, slz rfl, fun e2 he2 => ⟨slz rfl, fun p2 hp2 => ⟨slz rfl, fun l hl => ?_⟩⟩⟩
      have s3 := same_new (o := .tup []) he2
      have s4 := same_new (o := .tup [x2, .ref e2]) hp2
      have s5 := same_new (o := .lst [.ref p1, .ref p2]) hl
      have S5 := s3.trans (s4.trans s5)
      refine k _ l _ (S2.trans S5) ((S2.trans (s3.trans s4)).free hl) upd_same ?_
      exact .cons (dp1.kp (kp_same S5)) (.cons (.tup (s5 _ _ upd_same) (.cons (d2.kp (kp_same (S2.trans S5))) (.cons (.tup (s5 _ _ (s4 _ _ upd_same)) .nil) .nil))) .nil)
    refine iF (str_eqF c1) ?_
    refine ⟨_, rfl, ad, _, 0, _, rfl, rfl, g0 (Same.refl H), at_of (show (0 : Int) = ((0 : Nat) : Int) from rfl) rfl, rfl, _, rfl, ?_⟩
    by_cases c2 : wd = "given"
    · refine iT (str_eqT c2) ?_
      obtain ⟨x, a, e⟩ := view_given vw c2
      cases e
      obtain ⟨x1, r1, rfl, d1, dr⟩ := daAll_cons dr
      obtain ⟨x2, r2, rfl, d2, dr⟩ := daAll_cons dr
      obtain rfl := daAll_nil dr
      refine ⟨_, rfl, ad, _, 2, _, rfl, rfl, g0 (Same.refl H), rfl, _, rfl, ad, _, 1, _, rfl, rfl, g0 (Same.refl H), rfl, slz rfl, fun e1 he1 => ⟨slz rfl, fun p1 hp1 => ⟨slz rfl, fun l hl => ?_⟩⟩⟩
      have s1 := same_new (o := .tup [x1]) he1
      have s2 := same_new (o := .tup [x2, .ref e1]) hp1
      have s3 := same_new (o := .lst [.ref p1]) hl
      have S3 := s1.trans (s2.trans s3)
      refine k _ l _ S3 ((s1.trans s2).free hl) upd_same ?_
      exact .cons (.tup (s3 _ _ upd_same) (.cons (d2.kp (kp_same S3)) (.cons (.tup (s3 _ _ (s2 _ _ upd_same)) (.cons (d1.kp (kp_same S3)) .nil)) .nil))) .nil
    refine iF (str_eqF c2) ?_
    refine ⟨_, rfl, ad, _, 0, _, rfl, rfl, g0 (Same.refl H), at_of (show (0 : Int) = ((0 : Nat) : Int) from rfl) rfl, rfl, _, rfl, ?_⟩
    by_cases c3 : wd = "let"
    · refine iT (str_eqT c3) ?_
      obtain ⟨rs, a, e⟩ := view_let vw c3
      cases e
      obtain ⟨x1, r1, rfl, d1, dr⟩ := daAll_cons dr
      obtain ⟨x2, r2, rfl, d2, dr⟩ := daAll_cons dr
      obtain rfl := daAll_nil dr
      obtain ⟨a1, ys, rfl, g1, dys⟩ := da_row d1
      have lys := dys.len
      rw [List.length_map] at lys
      have lps := psz_parts ho.1
      have ep := pts_let (pts_some ho.1)
      have lrs : rs.length ≤ 5000 := by
        rw [ep, List.length_append, List.length_map] at lps
        omega
      have row : ∀ (i : Nat) (y : V), ys[i]? = some y → ∃ q ar z1, rs[i]? = some q ∧ y = .ref ar ∧ H ar = some (.tup [.str q.1, z1]) ∧ Da t H z1 q.2 ∧ Trm q.2 := fun i y ey => by
        obtain ⟨e, he, de⟩ := da_at dys ey
        rw [List.getElem?_map] at he
        obtain ⟨q, hq, rfl⟩ := Option.map_eq_some_iff.mp he
        obtain ⟨ar, zs, rfl, gr, dz⟩ := da_row (show Da t H y (.tuple [.str q.1, q.2]) from de)
        obtain ⟨z0, q0, rfl, dz0, dz⟩ := daAll_cons dz
        obtain ⟨z1, q1, rfl, dz1, dz⟩ := daAll_cons dz
        obtain rfl := daAll_nil dz
        cases dz0
        exact ⟨q, ar, z1, hq, rfl, gr, dz1, (trm_parts ho).2 q.2 (by rw [ep]; exact List.mem_append_left _ (List.mem_map_of_mem (List.mem_of_getElem? hq)))⟩
      refine ⟨_, rfl, ad, _, 1, _, rfl, rfl, g0 (Same.refl H), rfl, a1, rfl, ⟨_, SqT.of g1⟩, fun D hD => lc_it walk_tup (fun i H' => Same H H' ∧ H' D = some (.lst (((rs.take i).map (·.1)).map V.str))) ⟨same_new hD, upd_same⟩ (fun i H' _ h => SqT.of (h.1 _ _ g1)) ?_ ?_⟩
      · rintro i y H1 H2 hi ⟨s1, gD⟩ ⟨rfl, ey⟩
        obtain ⟨q, ar, z1, hq, rfl, gr, dz1, tq⟩ := row i y ey
        refine ⟨ar, _, rfl, SqT.of (s1 _ _ gr), rfl, _, _, rfl, _, _, rfl, rfl, rfl, ?_⟩
        refine ⟨_, rfl, _, gD, szl (by rw [List.length_map, List.length_map, List.length_take]; omega), fun b o e => ?_, ?_⟩
        · rw [upd_ne (ne_of_none e hD)]
          exact s1 _ _ e
        · rw [upd_same, List.take_add_one, hq, List.map_append, List.map_append]
          rfl
      rintro H1 ⟨s1, gD⟩
      rw [lys, List.take_length] at gD
      refine ⟨D, _, rfl, .inl ⟨SqL.of gD, fun q hq => ?_⟩⟩
      have s2 := same_new (o := .tup ((rs.map (·.1)).map V.str)) hq
      have dq : Da t (upd H1 q (.tup ((rs.map (·.1)).map V.str))) (.ref q) (nmsD (rs.map (·.1))) := .tup upd_same (da_strs _)
      have S2 := s1.trans s2
      generalize upd H1 q (.tup ((rs.map (·.1)).map V.str)) = H2 at S2 dq ⊢
      have flr : ∀ (i : Nat), ∀ e ∈ ((rs.take i).map fun q => pairD q.2 (rs.map (·.1))), Flt e := fun i e he => by
        obtain ⟨p, hp, rfl⟩ := List.mem_map.mp he
        exact flt_pair ((trm_parts ho).2 p.2 (by rw [ep]; exact List.mem_append_left _ (List.mem_map_of_mem (List.mem_of_mem_take hp)))).flat
      refine ⟨_, rfl, ad, _, 1, _, rfl, rfl, g0 S2, rfl, a1, rfl, ⟨_, SqT.of (S2 _ _ g1)⟩, fun D2 hD2 => lc_it walk_tup (fun i H' => Same H2 H' ∧ ∃ us, H' D2 = some (.lst us) ∧ DaAll t H' us ((rs.take i).map fun q => pairD q.2 (rs.map (·.1)))) ⟨same_new hD2, [], upd_same, .nil⟩ (fun i H' _ h => SqT.of (h.1 _ _ (S2 _ _ g1))) ?_ ?_⟩
      · rintro i y H3 H4 hi ⟨s3, us, gD2, kD⟩ ⟨rfl, ey⟩
        obtain ⟨q', ar, z1, hq', rfl, gr, dz1, tq⟩ := row i y ey
        have lu := kD.len
        rw [List.length_map, List.length_take] at lu
        refine ⟨ar, _, rfl, SqT.of (s3 _ _ (S2 _ _ gr)), rfl, _, _, rfl, _, _, rfl, rfl, rfl, ?_⟩
        refine ⟨_, rfl, _, rfl, slz rfl, fun p hp => ?_⟩
        have s4 := same_new (o := .tup [z1, .ref q]) hp
        have g4 := s4 _ _ gD2
        have tk := tk_upd (ys := us ++ [.ref p]) g4
        refine ⟨us, g4, szl (by omega), fun b o e => ?_, _, upd_same, ?_⟩
        · rw [upd_ne (ne_of_none e hD2)]
          exact s4 _ _ (s3 _ _ e)
        · rw [List.take_add_one, hq', List.map_append]
          exact (daAll_tk ((tk_same s4).trans tk) kD (flr i)).app (.cons (.tup (tk _ _ upd_same) (.cons (dz1.tk ((tk_same (S2.trans (s3.trans s4))).trans tk) tq.flat) (.cons (dq.tk ((tk_same (s3.trans s4)).trans tk) (flt_nms _)) .nil))) .nil)
      rintro H3 ⟨s3, us, gD2, kD⟩
      rw [lys, List.take_length] at kD
      have lu := kD.len
      rw [List.length_map] at lu
      have S3 := S2.trans s3
      refine ⟨_, rfl, ad, _, 2, _, rfl, rfl, g0 S3, rfl, _, rfl, slz rfl, fun p1 hp1 => ⟨slz rfl, fun l hl2 => ?_⟩⟩
      have s4 := same_new (o := .tup [x2, .ref q]) hp1
      have s5 := same_new (o := .lst [.ref p1]) hl2
      refine ⟨D2, l, us, [.ref p1], rfl, rfl, s5 _ _ (s4 _ _ gD2), upd_same, by rw [sizeLine_eq]; show us.length + 1 ≤ _; omega, fun p hp => ?_⟩
      have s6 := same_new (o := .lst (us ++ [.ref p1])) hp
      have S456 := s4.trans (s5.trans s6)
      refine k _ p _ (S3.trans S456) ((S3.trans (s4.trans s5)).free hp) upd_same ?_
      rw [kids_let ho.1, List.map_append, List.map_map]
      exact (kD.kp (kp_same S456)).app (.cons (.tup (s6 _ _ (s5 _ _ upd_same)) (.cons (d2.kp (kp_same (S3.trans S456))) (.cons (dq.kp (kp_same (s3.trans S456))) .nil))) .nil)
    refine iF (str_eqF c3) ?_
    refine ⟨_, rfl, ad, _, 0, _, rfl, rfl, g0 (Same.refl H), at_of (show (0 : Int) = ((0 : Nat) : Int) from rfl) rfl, rfl, _, rfl, ?_⟩
    by_cases c4 : wd = "match"
    · refine iT (str_eqT c4) ?_
      obtain ⟨a, rs, e⟩ := view_match vw c4
      cases e
      obtain ⟨x1, r1, rfl, d1, dr⟩ := daAll_cons dr
      obtain ⟨x2, r2, rfl, d2, dr⟩ := daAll_cons dr
      obtain rfl := daAll_nil dr
      obtain ⟨a1, ys, rfl, g1, dys⟩ := da_row d2
      have lys := dys.len
      rw [List.length_map] at lys
      have lps := psz_parts ho.1
      have ep := pts_match (pts_some ho.1)
      have lrs : rs.length ≤ 5000 := by
        rw [ep, List.length_cons, List.length_map] at lps
        omega
      have tq : ∀ q ∈ rs, Trm q.2.2 := fun q hq => (trm_parts ho).2 q.2.2 (by rw [ep]; exact List.mem_cons_of_mem _ (List.mem_map.mpr ⟨q, hq, rfl⟩))
      refine ⟨_, rfl, ad, _, 1, _, rfl, rfl, g0 (Same.refl H), rfl, slz rfl, fun e1 he1 => ⟨slz rfl, fun p1 hp1 => ⟨slz rfl, fun l0 hl0 => ?_⟩⟩⟩
      have sA := same_new (o := .tup []) he1
      have sB := same_new (o := .tup [x1, .ref e1]) hp1
      have sC := same_new (o := .lst [.ref p1]) hl0
      have s1 := sA.trans (sB.trans sC)
      have gl0 := upd_same (H := upd (upd H e1 (.tup [])) p1 (.tup [x1, .ref e1])) (a := l0) (o := .lst [.ref p1])
      have da0 : Da t (upd (upd (upd H e1 (.tup [])) p1 (.tup [x1, .ref e1])) l0 (.lst [.ref p1])) (.ref p1) (pairD a []) := .tup (sC _ _ upd_same) (.cons (d1.kp (kp_same s1)) (.cons (.tup (sC _ _ (sB _ _ upd_same)) .nil) .nil))
      generalize upd (upd (upd H e1 (.tup [])) p1 (.tup [x1, .ref e1])) l0 (.lst [.ref p1]) = H1 at s1 gl0 da0 ⊢
      refine ⟨_, rfl, ad, _, 2, _, rfl, rfl, g0 s1, rfl, a1, rfl, ⟨_, SqT.of (s1 _ _ g1)⟩, fun D hD => lc_it walk_tup (fun i H' => Same H1 H' ∧ ∃ us, H' D = some (.lst us) ∧ DaAll t H' us ((rs.take i).map fun q => pairD q.2.2 q.2.1)) ⟨same_new hD, [], upd_same, .nil⟩ (fun i H' _ h => SqT.of (h.1 _ _ (s1 _ _ g1))) ?_ ?_⟩
      · rintro i z H2 H3 hi ⟨s2, us, gD, kD⟩ ⟨rfl, ez⟩
        obtain ⟨e, he, de⟩ := da_at dys ez
        rw [List.getElem?_map] at he
        obtain ⟨q, hq, rfl⟩ := Option.map_eq_some_iff.mp he
        have mq := List.mem_of_getElem? hq
        obtain ⟨ar, zs, rfl, gr, dz⟩ := da_row (show Da t H z (.tuple [.str q.1, nmsD q.2.1, q.2.2]) from de)
        obtain ⟨z0, q0, rfl, dz0, dz⟩ := daAll_cons dz
        obtain ⟨z1, q1, rfl, dz1, dz⟩ := daAll_cons dz
        obtain ⟨z2, q2, rfl, dz2, dz⟩ := daAll_cons dz
        obtain rfl := daAll_nil dz
        have S2 := s1.trans s2
        have lu := kD.len
        rw [List.length_map, List.length_take] at lu
        refine ⟨rfl, _, rfl, ar, _, 2, _, rfl, rfl, SqT.of (S2 _ _ gr), rfl, _, rfl, ar, _, 1, _, rfl, rfl, SqT.of (S2 _ _ gr), rfl, slz rfl, fun p hp => ?_⟩
        have s4 := same_new (o := .tup [z2, z1]) hp
        have g4 := s4 _ _ gD
        have tk := tk_upd (ys := us ++ [.ref p]) g4
        refine ⟨us, g4, szl (by omega), fun b o e => ?_, _, upd_same, ?_⟩
        · rw [upd_ne (ne_of_none e hD)]
          exact s4 _ _ (s2 _ _ e)
        · rw [List.take_add_one, hq, List.map_append]
          refine (daAll_tk ((tk_same s4).trans tk) kD fun e he => ?_).app (.cons (.tup (tk _ _ upd_same) (.cons (dz2.tk ((tk_same (S2.trans s4)).trans tk) (tq q mq).flat) (.cons (dz1.tk ((tk_same (S2.trans s4)).trans tk) (flt_nms _)) .nil))) .nil)
          obtain ⟨q', hq', rfl⟩ := List.mem_map.mp he
          exact flt_pair (tq q' (List.mem_of_mem_take hq')).flat
      · rintro H2 ⟨s2, us, gD, kD⟩
        rw [lys, List.take_length] at kD
        have lu := kD.len
        rw [List.length_map] at lu
        refine ⟨l0, D, [.ref p1], us, rfl, rfl, s2 _ _ gl0, gD, by rw [sizeLine_eq]; show 1 + us.length ≤ _; omega, fun p hp => ?_⟩
        have s3 := same_new (o := .lst ([.ref p1] ++ us)) hp
        refine k _ p _ (s1.trans (s2.trans s3)) ((s1.trans s2).free hp) upd_same ?_
        rw [kids_match, List.map_cons, List.map_map]
        exact (DaAll.cons (da0.kp (kp_same (s2.trans s3))) .nil).app (kD.kp (kp_same s3))
    · refine iF (str_eqF c4) ?_
      refine ⟨slz rfl, fun l hl => ?_⟩
      refine k _ l _ (same_new hl) hl upd_same ?_
      rw [kids_leaf (m := .tuple (.str wd :: r)) ho.1 c1 c2 c3 c4]
      exact .nil
end
end L3

namespace L3
open PySem PyProof.Rows PySem.Spec L2
/-- at most n deep -/
def Dep : Nat → PyData → Prop
  | 0, _ => False
  | n + 1, m => ∀ p ∈ ptsD m, Dep n p
theorem flat_len : ∀ (n : Nat) {st : List Spot}, stZ st ≤ n → (∀ q ∈ st, isTermD q.2 = true) → (flat st).length ≤ stZ st := by
  intro n
  induction n with
  | zero =>
    intro st hz _
    have := stZ_len st
    have : st = [] := List.length_eq_zero_iff.mp (by omega)
    subst this
    exact Nat.le_refl _
  | succ n ih =>
    intro st hz h
    cases st with
    | nil => exact Nat.le_refl _
    | cons q st =>
      have h1 := h q List.mem_cons_self
      have e : stZ (q :: st) = psz q.2 + stZ st := rfl
      have hk := stZ_kids (p := q.1) h1
      have h2 := ih (st := kidsP q.1 0 (ptsD q.2)) (by omega) fun r hr => pts_term h1 (kidsP_mem hr).1
      have p1 : 1 ≤ psz q.2 := by
        have := psz_mems q.2
        omega
      have h3 := ih (st := st) (by omega) fun r hr => h r (List.mem_cons_of_mem _ hr)
      rw [flat_cons, spots_step h1, List.length_append, List.length_cons]
      omega
theorem spots_len {q : Spot} (h : isTermD q.2 = true) : (spots q).length ≤ psz q.2 := by
  have := flat_len (stZ [q]) (st := [q]) (Nat.le_refl _) fun r hr => by rw [List.mem_singleton.mp hr]; exact h
  rw [show flat [q] = spots q from by simp [flat]] at this
  simp only [stZ, List.map_cons, List.map_nil, pszL] at this
  omega
theorem flat_trm : ∀ (n : Nat) {st : List Spot}, stZ st ≤ n → (∀ q ∈ st, Trm q.2) → ∀ q ∈ flat st, Trm q.2 := by
  intro n
  induction n with
  | zero =>
    intro st hz _ q hq
    have := stZ_len st
    have : st = [] := List.length_eq_zero_iff.mp (by omega)
    subst this
    cases hq
  | succ n ih =>
    intro st hz h q hq
    cases st with
    | nil => cases hq
    | cons r st =>
      have h1 := h r List.mem_cons_self
      have e : stZ (r :: st) = psz r.2 + stZ st := rfl
      have hk := stZ_kids (p := r.1) h1.1
      have p1 : 1 ≤ psz r.2 := by
        have := psz_mems r.2
        omega
      rw [flat_cons, spots_step h1.1] at hq
      rcases List.mem_append.mp hq with hq | hq
      · rcases List.mem_cons.mp hq with rfl | hq
        · exact h1
        · exact ih (st := kidsP r.1 0 (ptsD r.2)) (by omega) (fun x hx => (trm_parts h1).2 x.2 (kidsP_mem hx).1) q hq
      · exact ih (st := st) (by omega) (fun x hx => h x (List.mem_cons_of_mem _ hx)) q hq
theorem spots_trm {q r : Spot} (h : Trm q.2) (hr : r ∈ spots q) : Trm r.2 := by
  refine flat_trm (stZ [q]) (st := [q]) (Nat.le_refl _) (fun x hx => by rw [List.mem_singleton.mp hx]; exact h) r ?_
  rw [show flat [q] = spots q from by simp [flat]]
  exact hr
theorem spots_flt {q : Spot} (h : Trm q.2) : ∀ d ∈ (spots q).map spotP, Flt d := fun d hd => by
  obtain ⟨r, hr, rfl⟩ := List.mem_map.mp hd
  exact flt_spot (spots_trm h hr).flat
section
variable {P : Program} {w : World} {K : PySem.W.Frag} {mg : Str → Option Value} {base : Heap}
abbrev s__law_spots : Stmt := topS 41
abbrev N__law_spots : List Str := ["_law_term_here", "_law_spot", "_law_found", "_law_k", "_law_pair"]
theorem sc__law_spots : FnScope N__law_spots ["_law_term_here", "_law_spot"] (defScope s__law_spots) := ⟨rfl, rfl, rfl, by decide +kernel, rfl, by decide +kernel, by decide +kernel⟩
def spSpots (n : Nat) : Sp := fun vs H Q _ => ∃ (t : Addr) (v u : V) (m : PyData) (p : List Nat), vs = [v, u] ∧ Da t H v m ∧ Trm m ∧ psz m ≤ 1200 ∧ Dep n m ∧ Da t H u (plD p) ∧ p.length + n ≤ 100 ∧
  ∀ H' l us, Same H H' → H l = none → H' l = some (.lst us) → DaAll t H' us ((spots (p, m)).map spotP) → Q (.ref l) H'
theorem ok_lspots {n k : Nat} (hk : 1 ≤ k) {f : Addr} {fd : FuncData} (F : Fun K "_law_spots" "_law_spots" s__law_spots f fd) (B : Bl mg) (B5 : Bl5 mg) (D__law_parts : Kn P w K mg base 1 "_law_parts" ["_law_term_here"] spLParts)
    (D__law_spots : Kn P w K mg base k "_law_spots" ["_law_term_here", "_law_spot"] (spSpots n)) : FnOk P w K mg base CX0 (k + 1) f fd ["_law_term_here", "_law_spot"] (spSpots (n + 1)) := by
  refine F.ok sc__law_spots (fun vs H Q E h => ?_) (fun cdv A outer s H vs Q E hr h => ?_)
  · obtain ⟨t, v, u, m, p, rfl, _⟩ := h
    rfl
  · obtain ⟨t, v, u, m, p, rfl, hd, ho, hz, hn, hu, hp, kk⟩ := h
    have hr__law_parts : Room 1 _ := hr.mono hk
    have hr__law_spots : Room k _ := hr
    refine ⟨_, (pss_cons (ps_set (i := 2) sc__law_spots.nd rfl (Or.inl rfl) (pe_lst (pa_cons (pe_tup (pa_cons (pv 1) (pa_cons (pv 0) pa_nil))) pa_nil)))
  (pss_cons (ps_for PassesOwn.never rfl (pi_enum (by rfl) B5.enum (pa_cons (pe_kn D__law_parts hr__law_parts (pa_cons (pv 0) pa_nil)) pa_nil)) (pg_tup (by rfl) (pgs_cons (pg_name (i := 3) sc__law_spots.nd rfl (Or.inl rfl)) (pgs_cons (pg_name (i := 4) sc__law_spots.nd rfl (Or.inl rfl)) pgs_nil)))
  (pss_one (ps_set (i := 2) sc__law_spots.nd rfl (Or.inl rfl) (pe_op op_cat (pv 2) (pe_kn D__law_spots hr__law_spots (pa_cons (pe_ix ix_tup (pv 4) pe_int (fun _ _ => rfl)) (pa_cons (pe_op op_catA (pv 1) (pe_tup (pa_cons (pv 3) pa_nil))) pa_nil)))))))
  (pss_one (ps_ret (pv 2))))), ?_⟩
    refine ⟨_, rfl, _, rfl, slz rfl, fun pr hpr => ⟨slz rfl, fun l0 hl0 => ?_⟩⟩
    have sA := same_new (o := .tup [u, v]) hpr
    have sB := same_new (o := .lst [.ref pr]) hl0
    have s1 := sA.trans sB
    have gl0 := upd_same (H := upd H pr (.tup [u, v])) (a := l0) (o := .lst [.ref pr])
    have nl0 : H l0 = none := sA.free hl0
    have d0 : Da t (upd (upd H pr (.tup [u, v])) l0 (.lst [.ref pr])) (.ref pr) (spotP (p, m)) := .tup (sB _ _ upd_same) (.cons (hu.kp (kp_same s1)) (.cons (hd.kp (kp_same s1)) .nil))
    generalize upd (upd H pr (.tup [u, v])) l0 (.lst [.ref pr]) = H1 at s1 gl0 d0 ⊢
    refine ⟨_, rfl, t, v, m, rfl, hd.kp (kp_same s1), ho, by omega, fun H2 l us s2 hl gl dl => ?_⟩
    have lus := dl.len
    rw [List.length_map] at lus
    have S2 := s1.trans s2
    have ek := kids_fst ho.1
    have lk : (kidsD m).length = (ptsD m).length := by rw [← ek, List.length_map]
    have flS : ∀ i, ∀ d ∈ ((p, m) :: flat ((kidsP p 0 (ptsD m)).take i)).map spotP, Flt d := fun i d hd => by
      obtain ⟨r, hr, rfl⟩ := List.mem_map.mp hd
      rcases List.mem_cons.mp hr with rfl | hr
      · exact flt_spot ho.flat
      · refine flt_spot (flat_trm _ (Nat.le_refl _) (fun x hx => ?_) r hr).flat
        exact (trm_parts ho).2 x.2 (kidsP_mem (List.mem_of_mem_take hx)).1
    refine ⟨l, us, rfl, SqL.of gl, for_it walk_enumL (fun i σ H' => Same H2 H' ∧ ∃ (lf : Addr) (fs : List V) (v3 v4 : Option V), σ = [some v, some u, some (.ref lf), v3, v4] ∧ H lf = none ∧ H' lf = some (.lst fs) ∧ DaAll t H' fs (((p, m) :: flat ((kidsP p 0 (ptsD m)).take i)).map spotP)) ⟨Same.refl _, l0, [.ref pr], none, none, rfl, nl0, s2 _ _ gl0, .cons (d0.kp (kp_same s2)) .nil⟩ (fun i σ H' _ h => SqL.of (h.1 _ _ gl)) ?_ ?_⟩
    · rintro i z σ H4 H5 hi ⟨s4, lf, fs, v3, v4, rfl, nlf, gf, df⟩ ⟨T, y1, y2, rfl, hT, rfl, e1, e2⟩
      cases e1
      obtain ⟨d, ed, dd⟩ := da_at dl e2
      rw [List.getElem?_map] at ed
      obtain ⟨q, hq, rfl⟩ := Option.map_eq_some_iff.mp ed
      have mq := List.mem_of_getElem? hq
      have ep : (ptsD m)[i]? = some q.1 := by rw [← ek, List.getElem?_map, hq]; rfl
      have eq : (kidsP p 0 (ptsD m))[i]? = some (p ++ [i], q.1) := by
        rw [kidsP_get, ep]
        simp
      have s5 := same_new (o := .tup [.int (i : Nat), y2]) hT
      have S4 := S2.trans s4
      have tq := kids_sh ho q mq
      refine ⟨T, _, rfl, SqT.of upd_same, rfl, _, _, rfl, _, _, rfl, rfl, ?_⟩
      obtain ⟨ar, zs, rfl, gr, dz⟩ := da_row (show Da t H2 y2 (.tuple [q.1, nmsD q.2]) from dd)
      obtain ⟨z0, q0, rfl, dz0, dz1⟩ := daAll_cons dz
      obtain ⟨z1, q1, rfl, dz2, dz3⟩ := daAll_cons dz1
      obtain rfl := daAll_nil dz3
      clear dz dz1
      have gr5 := s5 _ _ (s4 _ _ gr)
      refine ⟨_, rfl, _, rfl, ar, _, 0, _, rfl, rfl, SqT.of gr5, rfl, _, rfl, _, rfl, slz rfl, fun r hr => ?_⟩
      have s6 := same_new (o := .tup [.int (i : Nat)]) hr
      have S56 := s5.trans s6
      have dr : Da t (upd (upd H4 T (.tup [.int (i : Nat), .ref ar])) r (.tup [.int (i : Nat)])) (.ref r) (.tuple ([i].map fun n : Nat => PyData.int (n : Int))) := .tup upd_same (.cons (.int _) .nil)
      refine cat_tup (t := t) (show Da t _ u (.tuple (p.map fun n : Nat => PyData.int (n : Int))) from hu.kp (kp_same (S4.trans S56))) dr (by simp; omega) fun xv H7 s7 dx7 => ?_
      have S57 := S56.trans s7
      have zq := psz_pts ho.1 (List.mem_of_getElem? ep)
      refine ⟨t, z0, xv, q.1, p ++ [i], rfl, dz0.kp (kp_same (s4.trans S57)), tq, by omega, hn q.1 (List.mem_of_getElem? ep), by rw [plD_app]; exact dx7, by rw [List.length_append]; simp; omega, fun H8 l2 us2 s8 hl2 gl2 dl2 => ?_⟩
      have gf8 := s8 _ _ (S57 _ _ gf)
      have S58 := S57.trans s8
      have lf1 := df.len
      rw [List.length_map, List.length_cons] at lf1
      have lf2 := flat_len _ (st := (kidsP p 0 (ptsD m)).take i) (Nat.le_refl _) fun x hx => pts_term ho.1 (kidsP_mem (List.mem_of_mem_take hx)).1
      have lf3 : stZ ((kidsP p 0 (ptsD m)).take i) ≤ psz m := by
        have h1 := stZ_kids (p := p) ho.1
        have h2 : stZ ((kidsP p 0 (ptsD m)).take i) + stZ ((kidsP p 0 (ptsD m)).drop i) = stZ (kidsP p 0 (ptsD m)) := by rw [← stZ_app, List.take_append_drop]
        omega
      have lu2 := dl2.len
      rw [List.length_map] at lu2
      have lu3 := spots_len (q := (p ++ [i], q.1)) tq.1
      have lu3 : (spots (p ++ [i], q.1)).length ≤ psz q.1 := lu3
      refine ⟨lf, l2, fs, us2, rfl, rfl, gf8, gl2, by rw [sizeLine_eq]; omega, fun pf hpf => ?_⟩
      have s9 := same_new (o := .lst (fs ++ us2)) hpf
      have S4all := s4.trans (S58.trans s9)
      refine ⟨S4all, pf, fs ++ us2, _, _, rfl, (S4.trans S58).free hpf, upd_same, ?_⟩
      rw [List.take_add_one, eq, flat_app, ← List.cons_append, List.map_append, show flat (some (p ++ [i], q.1)).toList = spots (p ++ [i], q.1) from by simp [flat]]
      exact (df.kp (kp_same (S58.trans s9))).app (dl2.kp (kp_same s9))
    · rintro σ H4 ⟨s4, lf, fs, v3, v4, rfl, nlf, gf, df⟩
      rw [lus, lk, List.take_of_length_le (by rw [kidsP_len]; exact Nat.le_refl _), ← spots_step (q := (p, m)) ho.1] at df
      exact ⟨_, rfl, kk H4 lf fs (S2.trans s4) nlf gf df⟩
end
end L3

/-! sum of a list of lists, with a list to begin with -/
namespace L3
open PySem L2
theorem args_sum2 (a b : Value) : argsOk "sum" ⟨[a, b], []⟩ := by unfold argsOk; kernel_rfl
theorem sub_l_str : isSubtype (.type "list") (.type "str") = pure false := by rw [isSubtype_type]; kernel_rfl
theorem sub_l_bytes : isSubtype (.type "list") (.type "bytes") = pure false := by rw [isSubtype_type]; kernel_rfl
theorem sub_l_ba : isSubtype (.type "list") (.type "bytearray") = pure false := by rw [isSubtype_type]; kernel_rfl
section
variable {prog : Program} {w : World} {A : Around} {R : Result → Shared → Prop} {I l : Addr}
abbrev lobj (vs : List Value) (n : Nat) : Obj := { cls := .type "list", data := .seq vs.toArray n }
theorem sum_lists_loop {items : Array Value} (W : Walks prog w A.in1 I [I, l] [I] items.size (fun i v => items[i]? = some v) (fun i h => h.IsListIter I l i ∧ h.IsList l items)) (S : Addr) (hS0 : S ∉ [I, l]) (lv : List (List Value)) (hlen : lv.length = items.size)
    (loc : Nat → Addr) (cap : Nat → Nat) (hval : ∀ (i : Nat) (v : Value), items[i]? = some v → v = .ref (loc i)) (hI : ∀ i, loc i ≠ I ∧ loc i ≠ S) :
    ∀ (k i : Nat) (s : Shared) (T : Addr) (acc : List Value) (c n : Nat), items.size - i = k → i ≤ items.size → (s.heap.IsListIter I l i ∧ s.heap.IsList l items) →
      (∀ j xs, i ≤ j → lv[j]? = some xs → s.heap.get? (loc j) = some (lobj xs (cap j))) →
      s.heap.get? S = some { cls := .type "list", dict := none, data := .seq #[.ref T] c, slots := #[] } → s.heap.get? T = some (lobj acc n) → T ≠ I → T ≠ S → acc.length + (lv.drop i).flatten.length ≤ sizeLine →
      (∀ h' tk T', (∀ b o, b ≠ I → b ≠ S → s.heap.get? b = some o → h'.get? b = some o) → (k = 0 → T' = T) → (k ≠ 0 → I < T' ∧ ∃ m, h'.get? T' = some (lobj (acc ++ (lv.drop i).flatten) m)) → R (.ok (.ret (.ref T'))) { s with heap := h', toks := tk }) →
      codeAny (model prog w) A (.builtin "sum.loop" ⟨[.ref I, .ref S, rawInt 2, rawInt 0], []⟩) R s := by
  intro k
  induction k with
  | zero =>
    intro i s T acc c n hk hi hst hls hS hT nI nS hz hR
    have hin : i = items.size := by omega
    subst hin
    refine codeAny_builtin F.entry_sum_loop ?_
    rw [Around.under_plainId F.plain_sum_loop _]
    show wpAny _ A.in1 (seqItems? (.ref S) >>= _) _ _ s
    refine wpAny_bind (wpAny_seqItems hS rfl ?_)
    show wpAny _ A.in1 (tryCatch (pyNext (.ref I)) _ >>= _) _ _ s
    refine wpAny_bind (wpAny_tryCatch (W.done s _ _ hst fun h' tk hk' => ?_))
    exact wpAny_pure (hR h' tk T (fun b o h1 h2 e => hk' b o (fun z => h1 (List.mem_singleton.mp z)) e) (fun _ => rfl) (fun z => absurd rfl z))
  | succ k ih =>
    intro i s T acc c n hk hi hst hls hS hT nI nS hz hR
    have hlt : i < items.size := by omega
    refine codeAny_builtin F.entry_sum_loop ?_
    rw [Around.under_plainId F.plain_sum_loop _]
    show wpAny _ A.in1 (seqItems? (.ref S) >>= _) _ _ s
    refine wpAny_bind (wpAny_seqItems hS rfl ?_)
    show wpAny _ A.in1 (tryCatch (pyNext (.ref I)) _ >>= _) _ _ s
    refine wpAny_bind (wpAny_tryCatch (W.item i s _ _ hlt hst fun v h' tk hP hst' hk' => ?_))
    have ev := hval i v hP
    subst ev
    have nSI : S ≠ I := fun e => hS0 (by rw [e]; exact List.mem_cons_self)
    have keep : ∀ b o, b ≠ I → s.heap.get? b = some o → h'.get? b = some o := fun b o h1 e => hk' b o (fun z => h1 (List.mem_singleton.mp z)) e
    have hS' := keep S _ nSI hS
    have hT' := keep T _ nI hT
    have hli : i < lv.length := by omega
    obtain ⟨xs, hxs⟩ : ∃ xs, lv[i]? = some xs := ⟨lv[i], List.getElem?_eq_getElem hli⟩
    have hx := keep (loc i) _ (hI i).1 (hls i xs (Nat.le_refl _) hxs)
    have ed : lv.drop i = xs :: lv.drop (i + 1) := by
      rw [List.drop_eq_getElem_cons hli]
      congr 1
      exact Option.some.inj ((List.getElem?_eq_getElem hli).symm.trans hxs)
    have hz2 : acc.length + (xs.length + (lv.drop (i + 1)).flatten.length) ≤ sizeLine := by
      rw [ed, List.flatten_cons, List.length_append] at hz
      exact hz
    show wpAny _ A.in1 ((holding [Value.ref (loc i)] (binaryOp .Add (.ref T) (.ref (loc i)))).attempt >>= _) _ _ _
    refine wpAny_bind (wpAny_attempt (wpAny_holding (PySem.P.add_list (s := { s with heap := h', toks := tk }) hT' hx ?_ (by rw [List.size_toArray, List.size_toArray]; omega))))
    show wpAny _ A.in1 (updateSeq S (fun _ => #[.ref h'.objs.size]) >>= _) _ _ _
    have ea : acc.toArray ++ xs.toArray = (acc ++ xs).toArray := by simp
    rw [ea]
    have pk : ∀ b o, h'.get? b = some o → (h'.push (lobj (acc ++ xs) 0)).get? b = some o := fun b o e => Heap.get?_push_of_some _ e
    have hS2 := pk S _ hS'
    have hnew : (h'.push (lobj (acc ++ xs) 0)).get? h'.objs.size = some (lobj (acc ++ xs) 0) := Heap.get?_push_size _ rfl
    have ltI : I < h'.objs.size := by
      obtain ⟨⟨o, e, _⟩, _⟩ := hst'
      exact Heap.lt_size e
    have ltS : S < h'.objs.size := Heap.lt_size hS'
    refine wpAny_bind ?_
    refine wpAny_updateSeq hS2 rfl ?_
    have hS3 := Heap.get?_update_self (Obj.mapSeq fun _ => #[Value.ref h'.objs.size]) hS2 rfl
    refine wpAny_bind (wpAny_letGo ?_)
    refine wpAny_bind ?_
    refine wpAny_updateSeq hS3 rfl (wpAny_pure ⟨plainId_quiet F.plain_sum_loop _, ?_⟩)
    have far : ∀ b o, b ≠ S → (h'.push (lobj (acc ++ xs) 0)).get? b = some o → (((h'.push (lobj (acc ++ xs) 0)).update S (Obj.mapSeq fun _ => #[Value.ref h'.objs.size])).update S (Obj.mapSeq fun _ => #[Value.ref h'.objs.size])).get? b = some o := fun b o hb e => (Heap.get?_update_other _ _ (Ne.symm hb)).trans ((Heap.get?_update_other _ _ (Ne.symm hb)).trans e)
    refine ih (i + 1) _ h'.objs.size (acc ++ xs) _ 0 (by omega) hlt (W.frame _ _ _ hst' fun b hb o e => far b o (fun z => hS0 (by rw [← z]; exact hb)) (pk b o e)) (fun j ys hj hy => far _ _ (hI j).2 (pk _ _ (keep _ _ (hI j).1 (hls j ys (by omega) hy)))) (Heap.get?_update_self _ hS3 rfl) (far _ _ (Nat.ne_of_gt ltS) hnew) (Nat.ne_of_gt ltI) (Nat.ne_of_gt ltS) (by rw [List.length_append]; omega) fun h'' tk'' T' hk'' z0 z1 => ?_
    refine hR h'' tk'' T' (fun b o h1 h2 e => hk'' b o h1 h2 (far b o h2 (pk b o (keep b o h1 e)))) (fun z => nomatch z) fun _ => ?_
    cases k with
    | zero =>
      have e := z0 rfl
      subst e
      refine ⟨ltI, 0, ?_⟩
      have e0 : (lv.drop (i + 1)).flatten = [] := by
        rw [List.drop_eq_nil_of_le (by omega)]
        rfl
      rw [ed, List.flatten_cons, e0, List.append_nil]
      exact hk'' _ _ (Nat.ne_of_gt ltI) (Nat.ne_of_gt ltS) (far _ _ (Nat.ne_of_gt ltS) hnew)
    | succ k =>
      obtain ⟨q1, m, q2⟩ := z1 (by omega)
      refine ⟨q1, m, ?_⟩
      rw [ed, List.flatten_cons, ← List.append_assoc]
      exact q2
end
section
variable {prog : Program} {w : World} {A : Around} {E : Value → Shared → Prop} {s : Shared} {Q : Value → Shared → Prop} {l T : Addr}
theorem iter_l {items : Array Value} {Q : Value → Shared → Prop} (hl : s.heap.IsList l items)
    (h : ∀ s₂ : Shared, s₂ = { s with heap := s.heap.push { cls := .type "list_iterator", data := .fields #[.ref l, .int 0 0] } } →
      (s₂.heap.IsListIter s.heap.objs.size l 0 ∧ s₂.heap.IsList l items) → l ≠ s.heap.objs.size → Q (.ref s.heap.objs.size) s₂) :
    wpAny (model prog w) A (pyIter (.ref l)) Q E s := by
  have hlt : l < s.heap.objs.size := by obtain ⟨_, e, _⟩ := hl; exact Heap.lt_size e
  exact wpAny_pyIter_list hl (h _ rfl ⟨⟨_, Heap.get?_push_size _ rfl, rfl, rfl⟩, hl.push _⟩ (Nat.ne_of_lt hlt))
theorem sum_lists (hh : A.handled = none) {items : Array Value} {n : Nat} (hl : s.heap.IsList l items) (lv : List (List Value)) (hlen : lv.length = items.size)
    (loc : Nat → Addr) (cap : Nat → Nat) (hval : ∀ (i : Nat) (v : Value), items[i]? = some v → v = .ref (loc i)) (hin : ∀ i, loc i < s.heap.objs.size)
    (hls : ∀ i xs, lv[i]? = some xs → s.heap.get? (loc i) = some (lobj xs (cap i))) (hT : s.heap.get? T = some (lobj [] n)) (hz : lv.flatten.length ≤ sizeLine)
    (h : ∀ h' tk T', (∀ b o, s.heap.get? b = some o → h'.get? b = some o) → (lv = [] → T' = T) → (lv ≠ [] → s.heap.objs.size ≤ T' ∧ ∃ m, h'.get? T' = some (lobj lv.flatten m)) → Q (.ref T') { s with heap := h', toks := tk }) :
    wpAny (model prog w) A (call (.builtin "sum") [.ref l, .ref T]) Q E s := by
  have tT : s.TypeIs (.ref T) "list" := ⟨_, hT, rfl⟩
  refine call_function_tree F.kind_sum F.plain_sum F.entry_sum (args_sum2 _ _) ?_
  unfold Builtin.«sum»
  simp only [List.length_cons, List.length_nil]
  rw [if_neg (by decide)]
  refine wpAny_bind (wpAny_of_eq (show Builtin.Builtins.bindParams "sum" ["start"] 0 ⟨[.ref T], []⟩ = pure [some (.ref T)] from rfl) ?_)
  refine wpAny_bind (iter_l hl fun s₂ e st nl => ?_)
  subst e
  have W := Walks.list (prog := prog) (w := w) (A := A.in1) hh s.heap.objs.size l nl items
  have ltT : T < s.heap.objs.size := Heap.lt_size hT
  have ltl : l < s.heap.objs.size := by obtain ⟨_, e, _⟩ := hl; exact Heap.lt_size e
  generalize hs2 : ({ s with heap := s.heap.push { cls := .type "list_iterator", data := .fields #[.ref l, .int 0 0] } } : Shared) = s2 at st ⊢
  have k2 : ∀ b o, s.heap.get? b = some o → s2.heap.get? b = some o := fun b o e => by rw [← hs2]; exact Heap.get?_push_of_some _ e
  have sz2 : s2.heap.objs.size = s.heap.objs.size + 1 := by rw [← hs2]; exact Heap.size_push _ _
  have nb : ∀ b : Addr, b < s.heap.objs.size → b ≠ s2.heap.objs.size := fun b hb => by
    rw [sz2]
    exact Nat.ne_of_lt (Nat.lt_succ_of_lt hb)
  have nI : s2.heap.objs.size ≠ s.heap.objs.size := by
    rw [sz2]
    exact Nat.succ_ne_self _
  have tT2 : s2.TypeIs (.ref T) "list" := ⟨_, k2 _ _ hT, rfl⟩
  refine wpAny_bind (wpAny_pure ?_)
  simp only [List.forIn_cons, List.forIn_nil]
  refine wpAny_bind (wpAny_bind (wpAny_bind (wpAny_isInstance (T := "list") (b := false) tT2 sub_l_str ?_)))
  simp only [Bool.false_eq_true, if_false]
  refine wpAny_pure (wpAny_bind (wpAny_bind (wpAny_isInstance (T := "list") (b := false) tT2 sub_l_bytes ?_)))
  simp only [Bool.false_eq_true, if_false]
  refine wpAny_pure (wpAny_bind (wpAny_bind (wpAny_isInstance (T := "list") (b := false) tT2 sub_l_ba ?_)))
  simp only [Bool.false_eq_true, if_false]
  refine wpAny_pure (wpAny_pure ?_)
  refine wpAny_bind (wpAny_newObj_type ?_)
  have p3 : ∀ b o, s2.heap.get? b = some o → (s2.heap.push { cls := .type "list", data := .seq #[.ref T] }).get? b = some o := fun b o e => Heap.get?_push_of_some _ e
  refine wpAny_pure ⟨plainId_quiet F.plain_sum_loop _, sum_lists_loop W s2.heap.objs.size (fun z => (List.mem_cons.mp z).elim (fun e => nI e) fun z => nb l ltl (List.mem_singleton.mp z).symm) lv hlen loc cap hval (fun i => ⟨Nat.ne_of_lt (hin i), nb _ (hin i)⟩) items.size 0 _ T [] 0 n rfl (Nat.zero_le _)
    (W.frame _ _ _ st fun b _ o e => p3 b o e) (fun j xs _ e => p3 _ _ (k2 _ _ (hls j xs e))) (Heap.get?_push_size _ rfl) (p3 _ _ (k2 _ _ hT)) (Nat.ne_of_lt ltT) (nb _ ltT) (by simpa using hz) fun h' tk T' hk z0 z1 => ?_⟩
  subst hs2
  refine h h' tk T' (fun b o e => hk b o (Nat.ne_of_lt (Heap.lt_size e)) (nb _ (Heap.lt_size e)) (p3 _ _ (k2 _ _ e))) (fun e => z0 ?_) fun e => ?_
  · rw [← hlen, e]; rfl
  · obtain ⟨q1, m, q2⟩ := z1 (by rw [← hlen]; intro z; exact e (List.eq_nil_of_length_eq_zero z))
    exact ⟨Nat.le_of_lt q1, m, q2⟩
end
section
variable {X : Cx} {pins : List (Addr × Obj)} {σ : St} {H : Hp} {s : Shared}
theorem lists_of (I : Inv X pins σ H s) : ∀ {as : List Addr} {xss : List (List V)}, Paired (fun b xs => H b = some (.lst xs)) as xss →
    ∃ lv : List (List Value × Nat), lv.length = as.length ∧ Vals xss.flatten (lv.map Prod.fst).flatten ∧ ∀ (i : Nat) (b : Addr), as[i]? = some b → ∃ q : List Value × Nat, lv[i]? = some q ∧ s.heap.get? b = some (lobj q.1 q.2)
  | _, _, .nil => ⟨[], rfl, .nil, fun i b e => by simp at e⟩
  | _, _, .cons h t => by
    obtain ⟨lv, e1, e2, e3⟩ := lists_of I t
    obtain ⟨z, its, n, r, hl, e⟩ := I.lstM h
    refine ⟨(its, n) :: lv, by simp [e1], ?_, fun i b hb => ?_⟩
    · show Vals (_ ++ _) (its ++ (lv.map Prod.fst).flatten)
      exact Vals.append r e2
    · cases i with
      | zero => cases hb; exact ⟨_, rfl, e⟩
      | succ i => exact e3 i b hb
theorem vals_refs : ∀ {as : List Addr} {its : List Value}, Vals (as.map V.ref) its → its = as.map Value.ref
  | [], _, r => by cases r; rfl
  | a :: as, _, r => by
    cases r with
    | cons p q =>
      rw [vals_refs q]
      cases p
      rfl
/-- sum(xs, []) of a list of lists -/
def rSumL : List V → Hp → VK → Prop := fun vs H Q => ∃ (a t : Addr) (as : List Addr) (xss : List (List V)), vs = [.ref a, .ref t] ∧ H a = some (.lst (as.map V.ref)) ∧ H t = some (.lst []) ∧ Paired (fun b xs => H b = some (.lst xs)) as xss ∧ xss.flatten.length ≤ sizeLine ∧
  ∀ (p : Addr) (H' : Hp), Same H H' → H' p = some (.lst xss.flatten) → Q (.ref p) H'
theorem cr_sumL (hc : X.calm = true) : CallR X (.builtin "sum") rSumL := by
  intro pins s σ H vs us Q I r h
  obtain ⟨a, t, as, xss, rfl, ha, ht, hp, hz, q1⟩ := h
  obtain rfl : us = [.ref a, .ref t] := by
    cases r with
    | cons p1 r =>
      cases r with
      | cons p2 r =>
        cases r
        cases p1
        cases p2
        rfl
  obtain ⟨za, its, n, ra, la, ea⟩ := I.lstM ha
  obtain ⟨zt, itt, nt, rt, lt, et⟩ := I.lstM ht
  obtain rfl : itt = [] := by cases rt; rfl
  have ei := vals_refs ra
  subst ei
  obtain ⟨lv, e1, e2, e3⟩ := lists_of I hp
  have hl : s.heap.IsList a (as.map Value.ref).toArray := ⟨_, ea, rfl, n, rfl⟩
  have pl := Paired.length hp
  refine sum_lists (I.ok.hd hc) hl (lv.map Prod.fst) (by simp [e1]) (fun i => (as[i]?).getD a) (fun i => ((lv[i]?).map Prod.snd).getD 0) ?_ ?_ ?_ et (by rw [← e2.length]; exact hz) ?_
  · intro i v e
    simp only [List.getElem?_toArray, List.getElem?_map, Option.map_eq_some_iff] at e
    obtain ⟨b, e, rfl⟩ := e
    rw [e]
    rfl
  · intro i
    cases e : as[i]? with
    | none => exact Heap.lt_size ea
    | some b =>
      obtain ⟨q, _, e5⟩ := e3 i b e
      exact Heap.lt_size e5
  · intro i xs e
    simp only [List.getElem?_map, Option.map_eq_some_iff] at e
    obtain ⟨q, e, rfl⟩ := e
    have hi : i < as.length := by
      have := (List.getElem?_eq_some_iff.mp e).1
      omega
    obtain ⟨q', e4, e5⟩ := e3 i as[i] (List.getElem?_eq_getElem hi)
    rw [e] at e4
    cases e4
    rw [e, List.getElem?_eq_getElem hi]
    exact e5
  · intro h' tk T' k z0 z1
    by_cases hn : lv = []
    · have hx : xss = [] := List.eq_nil_of_length_eq_zero (by rw [← pl, ← e1, hn]; rfl)
      rw [z0 (by rw [hn]; rfl)]
      exact ⟨.ref t, H, I.kept k, rfl, q1 _ _ (Same.refl _) (by rw [hx]; exact ht)⟩
    · have hx : xss ≠ [] := fun z => hn (List.eq_nil_of_length_eq_zero (by rw [e1, pl, z]; rfl))
      obtain ⟨q, m, e⟩ := z1 (by intro z; exact hn (List.map_eq_nil_iff.mp z))
      exact ⟨.ref T', _, I.laid (o := .lst xss.flatten) k q ⟨hz, _, m, e2, e⟩, rfl, q1 _ _ (same_new (I.hok.fresh q)) upd_same⟩
end
end L3

namespace L3
open PySem PySem.Spec PyProof.Rows L2
section
variable {X : Cx}
/-- sum(xs, []) of a list of lists: the list that comes is the one to begin with, or a new one -/
def rSumLF : List V → Hp → VK → Prop := fun vs H Q => ∃ (a t : Addr) (as : List Addr) (xss : List (List V)), vs = [.ref a, .ref t] ∧ H a = some (.lst (as.map V.ref)) ∧ H t = some (.lst []) ∧ Paired (fun b xs => H b = some (.lst xs)) as xss ∧ xss.flatten.length ≤ sizeLine ∧
  ∀ (p : Addr) (H' : Hp), Same H H' → (p = t ∨ H p = none) → H' p = some (.lst xss.flatten) → Q (.ref p) H'
theorem cr_sumLF (hc : X.calm = true) : CallR X (.builtin "sum") rSumLF := by
  intro pins s σ H vs us Q I r h
  obtain ⟨a, t, as, xss, rfl, ha, ht, hp, hz, q1⟩ := h
  obtain rfl : us = [.ref a, .ref t] := by
    cases r with
    | cons p1 r =>
      cases r with
      | cons p2 r =>
        cases r
        cases p1
        cases p2
        rfl
  obtain ⟨za, its, n, ra, la, ea⟩ := I.lstM ha
  obtain ⟨zt, itt, nt, rt, lt, et⟩ := I.lstM ht
  obtain rfl : itt = [] := by cases rt; rfl
  have ei := vals_refs ra
  subst ei
  obtain ⟨lv, e1, e2, e3⟩ := lists_of I hp
  have hl : s.heap.IsList a (as.map Value.ref).toArray := ⟨_, ea, rfl, n, rfl⟩
  have pl := Paired.length hp
  refine sum_lists (I.ok.hd hc) hl (lv.map Prod.fst) (by simp [e1]) (fun i => (as[i]?).getD a) (fun i => ((lv[i]?).map Prod.snd).getD 0) ?_ ?_ ?_ et (by rw [← e2.length]; exact hz) ?_
  · intro i v e
    simp only [List.getElem?_toArray, List.getElem?_map, Option.map_eq_some_iff] at e
    obtain ⟨b, e, rfl⟩ := e
    rw [e]
    rfl
  · intro i
    cases e : as[i]? with
    | none => exact Heap.lt_size ea
    | some b =>
      obtain ⟨q, _, e5⟩ := e3 i b e
      exact Heap.lt_size e5
  · intro i xs e
    simp only [List.getElem?_map, Option.map_eq_some_iff] at e
    obtain ⟨q, e, rfl⟩ := e
    have hi : i < as.length := by
      have := (List.getElem?_eq_some_iff.mp e).1
      omega
    obtain ⟨q', e4, e5⟩ := e3 i as[i] (List.getElem?_eq_getElem hi)
    rw [e] at e4
    cases e4
    rw [e, List.getElem?_eq_getElem hi]
    exact e5
  · intro h' tk T' k z0 z1
    by_cases hn : lv = []
    · have hx : xss = [] := List.eq_nil_of_length_eq_zero (by rw [← pl, ← e1, hn]; rfl)
      rw [z0 (by rw [hn]; rfl)]
      exact ⟨.ref t, H, I.kept k, rfl, q1 _ _ (Same.refl _) (.inl rfl) (by rw [hx]; exact ht)⟩
    · have hx : xss ≠ [] := fun z => hn (List.eq_nil_of_length_eq_zero (by rw [e1, pl, z]; rfl))
      obtain ⟨q, m, e⟩ := z1 (by intro z; exact hn (List.map_eq_nil_iff.mp z))
      exact ⟨.ref T', _, I.laid (o := .lst xss.flatten) k q ⟨hz, _, m, e2, e⟩, rfl, q1 _ _ (same_new (I.hok.fresh q)) (.inr (I.hok.fresh q)) upd_same⟩
end
end L3

namespace L3
open PySem PyProof.Rows PySem.Spec L2
theorem paired_imp {α β : Type} {R S : α → β → Prop} (h : ∀ a b, R a b → S a b) : ∀ {as : List α} {bs : List β}, Paired R as bs → Paired S as bs
  | _, _, .nil => .nil
  | _, _, .cons a r => .cons (h _ _ a) (paired_imp h r)
theorem paired_map2 {α β γ : Type} {R : α → β → Prop} {S : α → γ → Prop} {f : β → γ} (h : ∀ a b, R a b → S a (f b)) : ∀ {as : List α} {bs : List β}, Paired R as bs → Paired S as (bs.map f)
  | _, _, .nil => .nil
  | _, _, .cons a r => .cons (h _ _ a) (paired_map2 h r)
theorem paired_app {α β : Type} {R : α → β → Prop} : ∀ {as cs : List α} {bs ds : List β}, Paired R as bs → Paired R cs ds → Paired R (as ++ cs) (bs ++ ds)
  | _, _, _, _, .nil, h => h
  | _, _, _, _, .cons a r, h => .cons a (paired_app r h)
section
variable {P : Program} {w : World} {K : PySem.W.Frag} {mg : Str → Option Value} {base : Heap}
abbrev s__law_free : Stmt := topS 42
abbrev N__law_free : List Str := ["_law_term_here", "_law_hidden", "_law_part", "_law_own"]
theorem sc__law_free : FnScope N__law_free ["_law_term_here", "_law_hidden"] (defScope s__law_free) := ⟨rfl, rfl, rfl, by decide +kernel, rfl, by decide +kernel, by decide +kernel⟩
def spLFree (n : Nat) : Sp := fun vs H Q _ => ∃ (t : Addr) (v u : V) (m : PyData) (hs : List Str), vs = [v, u] ∧ Da t H v m ∧ Trm m ∧ psz m ≤ 1200 ∧ Dep n m ∧ Da t H u (nmsD hs) ∧ hs.length + psz m ≤ 3000 ∧
  ∀ (H' : Hp) (l : Addr) (fs : List Str), Same H H' → H l = none → H' l = some (.lst (fs.map V.str)) → fs.length ≤ psz m → (∀ x, x ∈ fs ↔ Fre m hs x) → Q (.ref l) H'
theorem ok_lfree {n k : Nat} (hk : 1 ≤ k) {f : Addr} {fd : FuncData} (F : Fun K "_law_free" "_law_free" s__law_free f fd) (B : Bl mg) (B5 : Bl5 mg) (D__law_parts : Kn P w K mg base 1 "_law_parts" ["_law_term_here"] spLParts)
    (D__law_free : Kn P w K mg base k "_law_free" ["_law_term_here", "_law_hidden"] (spLFree n)) : FnOk P w K mg base CX0 (k + 1) f fd ["_law_term_here", "_law_hidden"] (spLFree (n + 1)) := by
  refine F.ok sc__law_free (fun vs H Q E h => ?_) (fun cdv A outer s H vs Q E hr h => ?_)
  · obtain ⟨t, v, u, m, p, rfl, _⟩ := h
    rfl
  · obtain ⟨t, v, u, m, hs, rfl, hd, ho, hz, hn, hu, hp, kk⟩ := h
    have hr__law_parts : Room 1 _ := hr.mono hk
    have hr__law_free : Room k _ := hr
    refine ⟨_, (pss_cons (ps_if (pt_cmpR op_eq (pe_ix ix_tup (pv 0) pe_int (fun _ _ => rfl)) pe_str (nomark _))
  (pss_one (ps_ret (pe_ifExp (pt_cmpR op_in_seq (pe_ix ix_tup (pv 0) pe_int (fun _ _ => rfl)) (pv 1) (by rfl)) (pe_lst pa_nil) (pe_lst (pa_cons (pe_ix ix_tup (pv 0) pe_int (fun _ _ => rfl)) pa_nil)))))
  pss_nil)
  (pss_one (ps_ret (pe_callB (cr_sumLF rfl) (by rfl) B5.sum (by decide +kernel) (pa_cons (pe_lc (own := [("_law_part", 2), ("_law_own", 3)]) (g := gTup K 2 (gCons (gName 2) (gCons (gName 3) gNil))) rfl sc__law_free.nd (pi_list (pe_kn D__law_parts hr__law_parts (pa_cons (pv 0) pa_nil))) (blkOk_by (N := N__law_free) (sc := (defScope s__law_free)) (own := [("_law_part", 2), ("_law_own", 3)]) (by decide +kernel)) (fun _ _ _ _ _ => (pg_tup (by rfl) (pgs_cons (pg_name (i := 2) sc__law_free.nd rfl (Or.inl rfl)) (pgs_cons (pg_name (i := 3) sc__law_free.nd rfl (Or.inl rfl)) pgs_nil)))) (fun _ _ _ _ _ => pts_nil) (fun _ _ _ _ _ => (pe_kn D__law_free hr__law_free (pa_cons (pv 2) (pa_cons (pe_op (show OpR _ _ (rCatA K) from op_catA) (pv 1) (pv 3)) pa_nil))))) (pa_cons (pe_lst pa_nil) pa_nil)))))), ?_⟩
    have vw := view_of ho.1
    obtain ⟨wd, r, rfl⟩ : ∃ wd r, m = .tuple (.str wd :: r) := by
      cases vw <;> exact ⟨_, _, rfl⟩
    obtain ⟨ad, xs, rfl, ga, da⟩ := da_row hd
    obtain ⟨x0, xr, rfl, d0, dr⟩ := daAll_cons da
    clear da
    cases d0
    refine ⟨_, rfl, ad, _, 0, _, rfl, rfl, SqT.of ga, at_of (show (0 : Int) = ((0 : Nat) : Int) from rfl) rfl, rfl, _, rfl, ?_⟩
    by_cases c : wd = "name"
    · refine iT (str_eqT c) ?_
      obtain ⟨x, e⟩ := view_name vw c
      cases e
      obtain ⟨x1, r1, rfl, d1, dr2⟩ := daAll_cons dr
      obtain rfl := daAll_nil dr2
      clear dr dr2
      cases d1
      obtain ⟨pb, zs, rfl, gb, dz⟩ := da_row (show Da t H u (.tuple (hs.map .str)) from hu)
      obtain rfl := daAll_strs0 dz
      have en : nameOf (.tuple [.str "name", .str x]) = some x := rfl
      have p1 : 1 ≤ psz (.tuple [.str "name", .str x]) := by
        have := psz_mems (.tuple [.str "name", .str x])
        omega
      refine ⟨_, rfl, ad, _, 1, _, rfl, rfl, SqT.of ga, rfl, _, rfl, pb, _, rfl, .inr (SqT.of gb), rfl, flat_words hs, _, rfl, ?_⟩
      show if inV (.str x) (hs.map V.str) = true then _ else _
      rw [inV_words]
      by_cases cb : x ∈ hs
      · refine iT (decide_eq_true cb) ?_
        refine ⟨slz rfl, fun l hl => kk _ l [] (same_new hl) hl upd_same (by simp) fun y => ?_⟩
        rw [fre_some en]
        exact ⟨fun z => (nomatch z), fun z => absurd cb z.2⟩
      · refine iF (decide_eq_false cb) ?_
        refine ⟨_, rfl, ad, _, 1, _, rfl, rfl, SqT.of ga, rfl, slz rfl, fun l hl => kk _ l [x] (same_new hl) hl upd_same (by simpa using p1) fun y => ?_⟩
        rw [fre_some en, List.mem_singleton]
        exact ⟨fun z => ⟨z, cb⟩, fun z => z.1⟩
    · refine iF (str_eqF c) ?_
      refine ⟨_, rfl, t, .ref ad, _, rfl, hd, ho, by omega, fun H1 l us s1 hl gl dl => ?_⟩
      have lus := dl.len
      rw [List.length_map] at lus
      have lkz : (kidsD (.tuple (.str wd :: r))).length ≤ psz (.tuple (.str wd :: r)) := by
        have h1 := psz_parts ho.1
        rw [← kids_fst ho.1, List.length_map] at h1
        omega
      refine ⟨l, rfl, ⟨_, SqL.of gl⟩, fun D hD => lc_it walk_list (fun i H' => Same H1 H' ∧ ∃ (as : List Addr) (fss : List (List Str)), H' D = some (.lst (as.map V.ref)) ∧ Paired (fun b (fs : List Str) => b ≠ D ∧ H' b = some (.lst (fs.map V.str))) as fss ∧ as.length = min i us.length ∧ (fss.map List.length).sum ≤ kidsZ ((kidsD (.tuple (.str wd :: r))).take i) ∧ ∀ x, x ∈ fss.flatten ↔ ∃ q ∈ (kidsD (.tuple (.str wd :: r))).take i, Fre q.1 (hs ++ q.2) x) ⟨same_new hD, [], [], upd_same, .nil, by simp, by simp, fun x => by simp⟩ (fun i H' _ h => SqL.of (h.1 _ _ gl)) ?_ ?_⟩
      · rintro i z H2 H3 hi ⟨s2, as, fss, gD, pf, la, lz, mem⟩ ⟨rfl, ez⟩
        obtain ⟨d, ed, dd⟩ := da_at dl ez
        rw [List.getElem?_map] at ed
        obtain ⟨q, hq, rfl⟩ := Option.map_eq_some_iff.mp ed
        have mq := List.mem_of_getElem? hq
        have tq := kids_sh ho q mq
        have own := kids_own ho.1 mq
        have S2 := s1.trans s2
        have zq := kids_lt ho.1 mq
        obtain ⟨ar, zs, rfl, gr, dz⟩ := da_row (show Da t H1 z (.tuple [q.1, nmsD q.2]) from dd)
        obtain ⟨z0, q0, rfl, dz0, dz1⟩ := daAll_cons dz
        obtain ⟨z1, q1, rfl, dz2, dz3⟩ := daAll_cons dz1
        obtain rfl := daAll_nil dz3
        clear dz dz1
        refine ⟨ar, _, rfl, SqT.of (s2 _ _ gr), rfl, _, _, rfl, _, _, rfl, rfl, rfl, ?_⟩
        refine ⟨_, rfl, _, rfl, _, rfl, ?_⟩
        refine cat_da (t := t) (hu.kp (kp_same S2)) (dz2.kp (kp_same s2)) (by omega) fun y H4 s3 dy => ?_
        have mp : q.1 ∈ ptsD (.tuple (.str wd :: r)) := by
          rw [← kids_fst ho.1]
          exact List.mem_map_of_mem mq
        refine ⟨t, z0, y, q.1, hs ++ q.2, rfl, dz0.kp (kp_same (s2.trans s3)), tq, by omega, hn q.1 mp, dy, by rw [List.length_append]; omega, fun H5 l2 fs s4 hl2 gl2 lf memf => ?_⟩
        have s34 := s3.trans s4
        have gD5 := s34 _ _ gD
        have lus2 : i < us.length := hi
        have etk : (kidsD (.tuple (.str wd :: r))).take (i + 1) = (kidsD (.tuple (.str wd :: r))).take i ++ [q] := by
          rw [List.take_add_one, hq]
          rfl
        refine ⟨as.map V.ref, gD5, szl (by rw [List.length_map]; omega), fun b o e => ?_, as ++ [l2], fss ++ [fs], by rw [upd_same, List.map_append]; rfl, ?_, by rw [List.length_append, la]; simp; omega, ?_, fun x => ?_⟩
        · rw [upd_ne (ne_of_none e hD)]
          exact s34 _ _ (s2 _ _ e)
        · refine paired_app (paired_imp (fun b fs z => ⟨z.1, by rw [upd_ne z.1]; exact s34 _ _ z.2⟩) pf) (.cons ⟨?_, ?_⟩ .nil)
          · exact fun e => by
              rw [e, s3 _ _ gD] at hl2
              cases hl2
          · have ne : l2 ≠ D := fun e => by
              rw [e, s3 _ _ gD] at hl2
              cases hl2
            rw [upd_ne ne]
            exact gl2
        · rw [etk, kidsZ, List.map_append, List.map_append, List.sum_append, pszL_app]
          simp only [List.map_cons, List.map_nil, List.sum_cons, List.sum_nil, pszL]
          have lz : (fss.map List.length).sum ≤ pszL (((kidsD (.tuple (.str wd :: r))).take i).map (·.1)) := lz
          omega
        · rw [etk, List.flatten_append, List.mem_append, mem]
          constructor
          · rintro (⟨q', h1, h2⟩ | h1)
            · exact ⟨q', List.mem_append_left _ h1, h2⟩
            · exact ⟨q, List.mem_append_right _ (List.mem_singleton.mpr rfl), (memf x).mp (by simpa using h1)⟩
          · rintro ⟨q', h1, h2⟩
            rcases List.mem_append.mp h1 with h1 | h1
            · exact .inl ⟨q', h1, h2⟩
            · rw [List.mem_singleton.mp h1] at h2
              exact .inr (by simpa using (memf x).mpr h2)
      · rintro H2 ⟨s2, as, fss, gD, pf, la, lz, mem⟩
        rw [lus, List.take_of_length_le (Nat.le_refl _)] at lz mem
        have kz := kids_psz ho.1
        have ff : fss.flatten.length ≤ psz (.tuple (.str wd :: r)) := by
          rw [List.length_flatten]
          have lz : (fss.map List.length).sum ≤ kidsZ (kidsD (.tuple (.str wd :: r))) := lz
          omega
        refine ⟨slz rfl, fun t0 ht0 => ?_⟩
        have s3 := same_new (o := .lst []) ht0
        have em : (fss.map fun fs => fs.map V.str).flatten = fss.flatten.map V.str := by rw [List.map_flatten]
        refine ⟨D, t0, as, fss.map fun fs => fs.map V.str, rfl, s3 _ _ gD, upd_same, paired_map2 (S := fun b (xs : List V) => upd H2 t0 (.lst []) b = some (.lst xs)) (f := fun fs => fs.map V.str) (fun b fs z => s3 _ _ z.2) pf, by rw [em, List.length_map, sizeLine_eq]; omega, fun p H3 s4 fp gp => ?_⟩
        rw [em] at gp
        have n0 : nameOf (.tuple (.str wd :: r)) = none := by
          unfold nameOf
          rw [if_neg (show wordD (.tuple (.str wd :: r)) ≠ "name" from c)]
        have np : H p = none := by
          rcases fp with rfl | fp
          · exact ((s1.trans s2)).free ht0
          · exact (s1.trans (s2.trans s3)).free fp
        refine kk H3 p fss.flatten (s1.trans (s2.trans (s3.trans s4))) np gp ff fun x => ?_
        rw [mem x]
        constructor
        · rintro ⟨q, h1, h2⟩
          exact .deep n0 h1 h2
        · intro z
          cases z with
          | here e2 _ => rw [n0] at e2; cases e2
          | deep e2 h1 h2 => exact ⟨_, h1, h2⟩
end
end L3

/-! a list of anything beside the empty one -/
namespace L3
open PySem PySem.Spec PyProof.Rows L2
open PySem.SeqAt
def rEqNilL (K : PySem.W.Frag) : R2 := fun x y H Q => ∃ (a b : Addr) (xs : List V), x = .ref a ∧ y = .ref b ∧ SqL K H a xs ∧ SqL K H b [] ∧ Q (.bl xs.isEmpty) H
theorem op_eqNilL {X : Cx} (hu : X.A.units + 64 < cLine) : OpR X (compareOp .Eq) (rEqNilL X.K) := by
  intro pins s σ H x y v u Q I rx ry h
  obtain ⟨a, b, xs, rfl, rfl, ha, hb, q⟩ := h
  obtain rfl : v = Value.ref a := rx
  obtain rfl : u = Value.ref b := ry
  obtain ⟨its, rv, ⟨o, n, ho, hc, _, hd⟩, _⟩ := I.list ha
  obtain ⟨its2, rv2, ⟨o2, n2, ho2, hc2, _, hd2⟩, _⟩ := I.list hb
  cases rv2
  cases rv with
  | nil =>
    refine RcAt.lists (e := fun _ => true) ⟨o, ho, hc, n, hd⟩ ⟨o2, ho2, hc2, n2, hd2⟩ rfl (by omega) (fun j h1 h2 => absurd h2 (by simp)) _ _ _ _ ?_
    exact ⟨.bl true, H, I, rfl, q⟩
  | cons r1 rr =>
    refine RcAt.lists_lengths ⟨o, ho, hc, n, hd⟩ ⟨o2, ho2, hc2, n2, hd2⟩ (by simp) (by omega) _ _ _ _ ?_
    exact ⟨.bl false, H, I, rfl, q⟩
end L3

/-! values of tuples alone: a change of lists leaves them -/
namespace L3
open PySem L2
mutual
def pur : PyData → Bool
  | .list _ => false
  | .dict _ => false
  | .tuple ds => purL ds
  | _ => true
def purL : List PyData → Bool
  | [] => true
  | d :: ds => pur d && purL ds
end
mutual
theorem Da.keepU {t : Addr} {H H' : Hp} (u : ∀ a xs, H a = some (.tup xs) → H' a = some (.tup xs)) : ∀ {d : PyData} {v : V}, pur d = true → Da t H v d → Da t H' v d
  | .none, _, _, h => by cases h; exact .non
  | .bool b, _, _, h => by cases h; exact .bl b
  | .int i, _, _, h => by cases h; exact .int i
  | .str x, _, _, h => by cases h; exact .str x
  | .list ds, _, p, _ => by simp only [pur] at p; cases p
  | .dict ds, _, p, _ => by simp only [pur] at p; cases p
  | .tuple ds, _, p, h => by
    simp only [pur] at p
    cases h with
    | tup h1 h3 => exact .tup (u _ _ h1) (DaAll.keepU u p h3)
theorem DaAll.keepU {t : Addr} {H H' : Hp} (u : ∀ a xs, H a = some (.tup xs) → H' a = some (.tup xs)) : ∀ {ds : List PyData} {vs : List V}, purL ds = true → DaAll t H vs ds → DaAll t H' vs ds
  | [], _, _, h => by cases h; exact .nil
  | d :: ds, _, p, h => by
    simp only [purL, Bool.and_eq_true] at p
    cases h with
    | cons h1 h2 => exact .cons (Da.keepU u p.1 h1) (DaAll.keepU u p.2 h2)
end
theorem purL_app : ∀ (a b : List PyData), purL (a ++ b) = (purL a && purL b)
  | [], b => by simp [purL]
  | d :: a, b => by simp only [List.cons_append, purL, purL_app a b, Bool.and_assoc]
theorem purL_rep {d : PyData} (h : pur d = true) : ∀ n, purL (List.replicate n d) = true
  | 0 => by simp [purL]
  | n + 1 => by simp only [List.replicate_succ, purL, h, purL_rep h n, Bool.and_self]
theorem daAll_rep {t : Addr} {H : Hp} {v : V} {d : PyData} (h : Da t H v d) : ∀ n, DaAll t H (List.replicate n v) (List.replicate n d)
  | 0 => .nil
  | n + 1 => .cons h (daAll_rep h n)
/-- a list grows by one -/
theorem keep_lst {H : Hp} {D : Addr} {xs ys : List V} (g : H D = some (.lst xs)) : ∀ a zs, H a = some (.tup zs) → (upd H D (.lst ys)) a = some (.tup zs) := fun a zs z => by
  rw [upd_ne (fun y => by rw [y, g] at z; cases z)]
  exact z
end L3

namespace L3
open PySem PyProof.Rows PySem.Spec L2
/-- signs that are no letters -/
def badL (cs : List Nat) : List Str := (cs.filter fun c => !decide (c ∈ ("abcdefghijklmnopqrstuvwxyz" : Str).cps.toList)).map fun c => (⟨#[c]⟩ : Str)
theorem bad_empty : ∀ (cs : List Nat), (badL cs).isEmpty = cs.all fun c => decide (c ∈ ("abcdefghijklmnopqrstuvwxyz" : Str).cps.toList)
  | [] => rfl
  | c :: cs => by
    have ih := bad_empty cs
    unfold badL at ih ⊢
    rw [List.filter_cons, List.all_cons]
    by_cases hc : c ∈ ("abcdefghijklmnopqrstuvwxyz" : Str).cps.toList
    · rw [decide_eq_true hc]
      exact ih
    · rw [decide_eq_false hc]
      rfl
theorem lo_abc (c : Nat) : lo c = decide (c ∈ ("abcdefghijklmnopqrstuvwxyz" : Str).cps.toList) := by
  by_cases h : c < 123
  · exact (show ∀ c, c < 123 → lo c = decide (c ∈ ("abcdefghijklmnopqrstuvwxyz" : Str).cps.toList) by decide +kernel) c h
  · have e : lo c = false := by
      unfold lo
      rw [decide_eq_false (by omega : ¬ c ≤ 122), Bool.and_false]
    rw [e, eq_comm, decide_eq_false_iff_not]
    intro m
    have := (show ∀ c ∈ ("abcdefghijklmnopqrstuvwxyz" : Str).cps.toList, c < 123 by decide +kernel) c m
    omega
theorem wok_abc (x : Str) : wok x = (decide (1 ≤ x.length) && decide (x.length ≤ 8) && x.cps.toList.all fun c => decide (c ∈ ("abcdefghijklmnopqrstuvwxyz" : Str).cps.toList)) := by
  unfold wok
  rw [← Array.all_toList, show lo = fun c => decide (c ∈ ("abcdefghijklmnopqrstuvwxyz" : Str).cps.toList) from funext lo_abc]
section
variable {P : Program} {w : World} {K : PySem.W.Frag} {mg : Str → Option Value} {base : Heap}
abbrev s__law_is_named : Stmt := topS 43
abbrev N__law_is_named : List Str := ["_law_x", "_law_words_here", "_law_sign"]
theorem sc__law_is_named : FnScope N__law_is_named ["_law_x"] (defScope s__law_is_named) := ⟨rfl, rfl, rfl, by decide +kernel, rfl, by decide +kernel, by decide +kernel⟩
def spLNamed : Sp := fun vs H Q _ => ∃ (t : Addr) (v : V) (d : PyData), vs = [v] ∧ Da t H v d ∧ shD d = true ∧ ∀ H', Same H H' → Q (.bl (isNameD d)) H'
theorem ok_lnamed {f : Addr} {fd : FuncData} (F : Fun K "_law_is_named" "_law_is_named" s__law_is_named f fd) (B : Bl mg) (B9 : Bl9 mg) : FnOk P w K mg base CX0 1 f fd ["_law_x"] spLNamed := by
  refine F.ok sc__law_is_named (fun vs H Q E h => ?_) (fun cdv A outer s H vs Q E hr h => ?_)
  · obtain ⟨t, v, d, rfl, _⟩ := h
    rfl
  · obtain ⟨t, v, d, rfl, hd, hok, k⟩ := h
    have hu64 := hr.units
    refine ⟨_, (pss_cons (ps_set (i := 1) sc__law_is_named.nd rfl (Or.inl rfl) (pe_lst (pa_cons pe_str (pa_cons pe_str (pa_cons pe_str (pa_cons pe_str (pa_cons pe_str (pa_cons pe_str (pa_cons pe_str (pa_cons pe_str (pa_cons pe_str (pa_cons pe_str (pa_cons pe_str (pa_cons pe_str pa_nil))))))))))))))
  (pss_cons (ps_if (PW.pt (pw_or (pt_not (pt_val (pe_callB call_isi (by rfl) B9.isinstance PyProof.Rows.boot_isinstance (pa_cons (pv 0) (pa_cons (pe_bltn (v := .ty "str") (by rfl) B9.str_ (by decide +kernel) rfl) pa_nil))))) (pw_or1 (pt_cmpR op_in_seq (pv 0) (pe_op op_cat (pv 1) (pe_lst (pa_cons pe_str (pa_cons pe_str (pa_cons pe_str (pa_cons pe_str (pa_cons pe_str pa_nil))))))) (by rfl)))))
  (pss_one (ps_ret pe_bl))
  pss_nil)
  (pss_one (ps_ret (pe_and (pe_chain op_le op_le pe_int (pe_callB call_len (by rfl) B.len PySem.boot_len (pa_cons (pv 0) pa_nil)) pe_int) (pe_one (pe_cmpR (op_eqNilL hu64) (pe_lc (own := [("_law_sign", 2)]) rfl sc__law_is_named.nd (pi_str (pv 0)) (blkOk_by (N := N__law_is_named) (sc := (defScope s__law_is_named)) (own := [("_law_sign", 2)]) (by decide +kernel)) (fun _ _ _ _ _ => (pg_name (i := 2) sc__law_is_named.nd rfl (Or.inl rfl))) (fun _ _ _ _ _ => (pts_one (pt_cmpR op_notInS (pv 2) pe_str (by rfl)))) (fun _ _ _ _ _ => (pv 2))) (pe_lst pa_nil) (nomark _)))))))), ?_⟩
    refine ⟨slz rfl, fun lw hlw => ?_⟩
    have s1 := same_new (o := .lst ((barL.take 12).map V.str)) hlw
    have g1 : (upd H lw (.lst ((barL.take 12).map V.str))) lw = some (.lst ((barL.take 12).map V.str)) := upd_same
    change tSeq _ _ _ _ (upd H lw (.lst ((barL.take 12).map V.str)))
    generalize upd H lw (.lst ((barL.take 12).map V.str)) = H1 at s1 g1 ⊢
    refine ⟨_, rfl, v, .ty "str", .type (tyName d), .type "str", isStr d, rfl, .ty "str", (hd.kp (kp_same s1)).ty, kit_str d, _, rfl, ?_⟩
    cases hs : isStr d with
    | false =>
      have e : isNameD d = false := by cases d <;> first | rfl | cases hs
      rw [e] at k
      exact iT rfl (iT rfl (k H1 s1))
    | true =>
      obtain ⟨x, rfl⟩ : ∃ x, d = .str x := by
        cases d with
        | str x => exact ⟨x, rfl⟩
        | _ => cases hs
      cases hd
      have lx := shD_str hok x rfl
      refine iF rfl ?_
      have e0 : isNameD (.str x) = (wok x && !decide (x ∈ barL)) := rfl
      refine ⟨_, rfl, _, rfl, slz rfl, fun q hq => ?_⟩
      have s2 := same_new (o := .lst ((barL.drop 12).map V.str)) hq
      have g2 : (upd H1 q (.lst ((barL.drop 12).map V.str))) q = some (.lst ((barL.drop 12).map V.str)) := upd_same
      change rCat _ _ (upd H1 q (.lst ((barL.drop 12).map V.str))) _
      generalize upd H1 q (.lst ((barL.drop 12).map V.str)) = H2 at s2 g2 ⊢
      refine ⟨lw, q, _, _, rfl, rfl, s2 _ _ g1, g2, slz rfl, fun r hr => ?_⟩
      have s3 := same_new (o := .lst (barL.map V.str)) hr
      have g3 : (upd H2 r (.lst (barL.map V.str))) r = some (.lst (barL.map V.str)) := upd_same
      change rIn K false _ _ (upd H2 r (.lst (barL.map V.str))) _
      generalize upd H2 r (.lst (barL.map V.str)) = H3 at s3 g3 ⊢
      have S3 := s1.trans (s2.trans s3)
      refine ⟨r, _, rfl, .inl (SqL.of g3), rfl, flat_words _, _, rfl, ?_⟩
      rw [inV_words]
      by_cases h3 : x ∈ barL
      · have e : isNameD (.str x) = false := by rw [e0, decide_eq_true h3, Bool.not_true, Bool.and_false]
        rw [e] at k
        exact iT (by rw [decide_eq_true h3]; rfl) (k H3 S3)
      · refine iF (by rw [decide_eq_false h3]; rfl) ?_
        have e : isNameD (.str x) = wok x := by rw [e0, decide_eq_false h3, Bool.not_false, Bool.and_true]
        rw [e] at k
        refine ⟨_, rfl, .str x, x.length, rfl, ⟨by rw [sizeLine_eq]; omega, rfl⟩, _, _, rfl, rfl, ?_⟩
        have ew := wok_abc x
        by_cases h1 : (1 : Int) ≤ (x.length : Int)
        case neg =>
          refine ⟨_, rfl, iF (decide_eq_false h1) ⟨_, rfl, iF rfl ?_⟩⟩
          have e : wok x = false := by rw [ew, decide_eq_false (by omega : ¬ 1 ≤ x.length)]; rfl
          rw [e] at k
          exact k H3 S3
        refine ⟨_, rfl, iT (decide_eq_true h1) ⟨_, _, rfl, rfl, ?_⟩⟩
        by_cases h2 : (x.length : Int) ≤ 8
        case neg =>
          refine ⟨_, rfl, iF (decide_eq_false h2) ?_⟩
          have e : wok x = false := by rw [ew, decide_eq_false (by omega : ¬ x.length ≤ 8), Bool.and_false]; rfl
          rw [e] at k
          exact k H3 S3
        refine ⟨_, rfl, iT (decide_eq_true h2) ?_⟩
        rw [ew, decide_eq_true (by omega : 1 ≤ x.length), decide_eq_true (by omega : x.length ≤ 8)] at k
        refine ⟨_, rfl, x, rfl, fun D hD => lc_it walk_str (fun i H' => Same H3 H' ∧ H' D = some (.lst ((badL (x.cps.toList.take i)).map V.str))) ⟨same_new hD, upd_same⟩ (fun i H' _ _ => trivial) ?_ ?_⟩
        · rintro i y H4 H5 hi ⟨s4, g4⟩ ⟨rfl, c, ec, rfl⟩
          refine ⟨rfl, ?_⟩
          have ec' : x.cps.toList[i]? = some c := by simpa using ec
          have hi' : i < x.length := hi
          have lb : (badL (x.cps.toList.take i)).length ≤ 100 := by
            unfold badL
            rw [List.length_map]
            have := List.length_filter_le (fun c => !decide (c ∈ ("abcdefghijklmnopqrstuvwxyz" : Str).cps.toList)) (x.cps.toList.take i)
            rw [List.length_take] at this
            omega
          refine ⟨_, rfl, c, _, rfl, rfl, _, rfl, ?_⟩
          by_cases hc : c ∈ ("abcdefghijklmnopqrstuvwxyz" : Str).cps.toList
          · refine iF (by rw [decide_eq_true hc]; rfl) ⟨s4, ?_⟩
            rw [g4, List.take_add_one, ec']
            simp only [badL, Option.toList, List.filter_append, List.filter_cons, decide_eq_true hc, Bool.not_true, Bool.false_eq_true, if_false, List.filter_nil, List.append_nil]
          · refine iT (by rw [decide_eq_false hc]; rfl) ⟨_, rfl, _, g4, szl (by rw [List.length_map]; omega), fun b o e => ?_, ?_⟩
            · rw [upd_ne (ne_of_none e hD)]
              exact s4 _ _ e
            · rw [upd_same, List.take_add_one, ec']
              simp only [badL, Option.toList, List.filter_append, List.filter_cons, decide_eq_false hc, Bool.not_false, if_true, List.filter_nil, List.map_append, List.map_cons, List.map_nil]
        · rintro H4 ⟨s4, g4⟩
          refine ⟨slz rfl, fun z hz => ?_⟩
          have s5 := same_new (o := .lst []) hz
          have g5 : (upd H4 z (.lst [])) z = some (.lst []) := upd_same
          generalize upd H4 z (.lst []) = H5 at s5 g5 ⊢
          refine ⟨D, z, _, rfl, rfl, SqL.of (s5 _ _ g4), SqL.of g5, ?_⟩
          have eb : ((badL (x.cps.toList.take x.cps.size)).map V.str).isEmpty = x.cps.toList.all fun c => decide (c ∈ ("abcdefghijklmnopqrstuvwxyz" : Str).cps.toList) := by
            rw [show x.cps.toList.take x.cps.size = x.cps.toList from by rw [List.take_of_length_le (by simp)], ← bad_empty]
            cases badL x.cps.toList <;> rfl
          rw [eb]
          exact k H5 (S3.trans (s4.trans s5))
end
end L3

namespace L3
open PySem PyProof.Rows PySem.Spec L2
theorem lt_one (a b : Nat) : decide ((#[a] : Array Nat).toList < (#[b] : Array Nat).toList) = decide (a < b) := by
  show decide ([a] < [b]) = _
  rw [decide_eq_decide]
  constructor
  · intro h
    cases h with
    | rel h => exact h
    | cons h => cases h
  · exact fun h => .rel h
/-- a tuple of different names -/
def namesOkD : PyData → Bool
  | .tuple ds => diffD ds
  | _ => false
section
variable {P : Program} {w : World} {K : PySem.W.Frag} {mg : Str → Option Value} {base : Heap} {bA : Addr} {es : Array DictEntry} {nb : Nat}
abbrev s__law_are_named : Stmt := topS 44
abbrev N__law_are_named : List Str := ["_law_x", "_law_y"]
theorem sc__law_are_named : FnScope N__law_are_named ["_law_x"] (defScope s__law_are_named) := ⟨rfl, rfl, rfl, by decide +kernel, rfl, by decide +kernel, by decide +kernel⟩
def spLAre : Sp := fun vs H Q _ => ∃ (t : Addr) (v : V) (d : PyData), vs = [v] ∧ Da t H v d ∧ shD d = true ∧ ∀ H', Same H H' → Q (.bl (namesOkD d)) H'
theorem ok_lare {f : Addr} {fd : FuncData} (F : Fun K "_law_are_named" "_law_are_named" s__law_are_named f fd) (B : Bl mg) (B9 : Bl9 mg) (M : Mn K w mg bA es nb) (D__law_is_named : Kn P w K mg base 1 "_law_is_named" ["_law_x"] spLNamed) : FnOk P w K mg base CX0 2 f fd ["_law_x"] spLAre := by
  refine F.ok sc__law_are_named (fun vs H Q E h => ?_) (fun cdv A outer s H vs Q E hr h => ?_)
  · obtain ⟨t, v, d, rfl, _⟩ := h
    rfl
  · obtain ⟨t, v, d, rfl, hd, hok, k⟩ := h
    have hu64 := hr.units
    have hr__law_is_named : Room 1 _ := hr
    refine ⟨_, (pss_one (ps_ret (pe_and (pe_callB call_isi (by rfl) B9.isinstance PyProof.Rows.boot_isinstance (pa_cons (pv 0) (pa_cons (pe_bltn (v := .ty "tuple") (by rfl) B9.tuple (by decide +kernel) rfl) pa_nil))) (pe_and (pe_cmpR (op_eqNilL hu64) (pe_lc (own := [("_law_y", 1)]) rfl sc__law_are_named.nd (pi_tup (pv 0)) (blkOk_by (N := N__law_are_named) (sc := (defScope s__law_are_named)) (own := [("_law_y", 1)]) (by decide +kernel)) (fun _ _ _ _ _ => (pg_name (i := 1) sc__law_are_named.nd rfl (Or.inl rfl))) (fun _ _ _ _ _ => (pts_one (pt_not (pt_val (pe_kn D__law_is_named hr__law_is_named (pa_cons (pv 1) pa_nil)))))) (fun _ _ _ _ _ => (pv 1))) (pe_lst pa_nil) (nomark _)) (pe_one (pe_cmpR op_eq (pe_callB cr_lenTx (by rfl) B.len PySem.boot_len (pa_cons (pe_callTy (cr_setTx rfl) (by rfl) M.set (by decide +kernel) (pa_cons (pv 0) pa_nil)) pa_nil)) (pe_callB call_len (by rfl) B.len PySem.boot_len (pa_cons (pv 0) pa_nil)) (nomark _))))))), ?_⟩
    refine ⟨_, rfl, v, .ty "tuple", .type (tyName d), .type "tuple", isTup d, rfl, .ty "tuple", hd.ty, kit_tup _, _, rfl, ?_⟩
    cases ht : isTup d with
    | false =>
      have e : namesOkD d = false := by cases d <;> first | rfl | cases ht
      rw [e] at k
      exact iF rfl (k H (Same.refl H))
    | true =>
      obtain ⟨ds, rfl⟩ : ∃ ds, d = .tuple ds := by
        cases d with
        | tuple ds => exact ⟨ds, rfl⟩
        | _ => cases ht
      refine iT rfl ?_
      obtain ⟨a, xs, rfl, ga, da⟩ := da_row hd
      have lx := da.len
      obtain ⟨ld, hs⟩ := shD_tup hok
      refine ⟨_, rfl, a, rfl, ⟨_, SqT.of ga⟩, fun D hD => lc_it walk_tup (fun i H' => Same H H' ∧ ∃ zs, H' D = some (.lst zs) ∧ zs.length ≤ i ∧ zs.isEmpty = (ds.take i).all isNameD) ⟨same_new hD, [], upd_same, Nat.le_refl _, rfl⟩ (fun i H' _ h => SqT.of (h.1 _ _ ga)) ?_ ?_⟩
      · rintro i y H1 H2 hi ⟨s1, zs, gD, lz, ez⟩ ⟨rfl, ey⟩
        obtain ⟨e, he, de⟩ := da_at da ey
        refine ⟨rfl, _, rfl, t, y, e, rfl, de.kp (kp_same s1), shL_mem hs (List.mem_of_getElem? he), fun H3 s3 => ⟨_, rfl, ?_⟩⟩
        have et : (ds.take (i + 1)).all isNameD = ((ds.take i).all isNameD && isNameD e) := by
          rw [List.take_add_one, he, List.all_append]
          simp
        cases hn : isNameD e with
        | true =>
          refine iF rfl ⟨s1.trans s3, zs, s3 _ _ gD, by omega, ?_⟩
          rw [et, hn, Bool.and_true]
          exact ez
        | false =>
          refine iT rfl ⟨_, rfl, zs, s3 _ _ gD, szl (by omega), fun b o z => ?_, zs ++ [y], upd_same, by rw [List.length_append]; simp; omega, ?_⟩
          · rw [upd_ne (ne_of_none z hD)]
            exact s3 _ _ (s1 _ _ z)
          · rw [et, hn, Bool.and_false]
            cases zs <;> rfl
      · rintro H1 ⟨s1, zs, gD, lz, ez⟩
        rw [lx, List.take_length] at ez
        refine ⟨slz rfl, fun z hz => ?_⟩
        have s2 := same_new (o := .lst []) hz
        have S2 := s1.trans s2
        refine ⟨D, z, zs, rfl, rfl, SqL.of (s2 _ _ gD), SqL.of upd_same, _, rfl, ?_⟩
        have ed : namesOkD (.tuple ds) = (ds.all isNameD && decide ((ds.filterMap strOf).Nodup)) := rfl
        rw [ez]
        cases ha : ds.all isNameD with
        | false =>
          refine iF rfl ?_
          rw [ed, ha] at k
          exact k _ S2
        | true =>
          refine iT rfl ?_
          obtain ⟨e1, e2⟩ := daAll_strs da ha
          have f6 := setL_len (xs := ds.filterMap strOf) (L := [])
          rw [List.length_nil] at f6
          refine ⟨_, rfl, a, ds.filterMap strOf, rfl, .inr (by rw [← e1]; exact SqT.of (S2 _ _ ga)), by omega, fun p hp => ?_⟩
          have s3 := same_new (o := TxO P w p (setL [] (ds.filterMap strOf))) hp
          refine ⟨p, _, rfl, upd_same, by omega, _, rfl, .ref a, _, rfl, .inr ⟨_, SqT.of (s3 _ _ (S2 _ _ ga)), rfl⟩, ?_⟩
          have q : namesOkD (.tuple ds) = decide (V.int ((setL [] (ds.filterMap strOf)).length : Nat) = V.int (xs.length : Nat)) := by
            rw [ed, ha, Bool.true_and, decide_eq_decide, ← setL_nodup_len, lx, e2]
            exact ⟨fun z => by rw [z], fun z => by injection z with z; omega⟩
          rw [q] at k
          exact ⟨rfl, k _ (S2.trans s3)⟩
abbrev s__law_is_leaf : Stmt := topS 45
abbrev N__law_is_leaf : List Str := ["_law_x", "_law_sign"]
theorem sc__law_is_leaf : FnScope N__law_is_leaf ["_law_x"] (defScope s__law_is_leaf) := ⟨rfl, rfl, rfl, by decide +kernel, rfl, by decide +kernel, by decide +kernel⟩
def leafD (w : Str) (d : PyData) : Bool := if w = "name" then isNameD d else if w = "whole" then isWholeD d else if w = "text" then isTextD d else false
def spLeaf : Sp := fun vs H Q _ => ∃ (t : Addr) (v : V) (x : Str) (d : PyData), vs = [v] ∧ Da t H v (.tuple [.str x, d]) ∧ shD d = true ∧ ∀ H', Same H H' → Q (.bl (leafD x d)) H'
theorem ok_leaf {f : Addr} {fd : FuncData} (F : Fun K "_law_is_leaf" "_law_is_leaf" s__law_is_leaf f fd) (B : Bl mg) (B9 : Bl9 mg) (D__law_is_named : Kn P w K mg base 1 "_law_is_named" ["_law_x"] spLNamed) : FnOk P w K mg base CX0 2 f fd ["_law_x"] spLeaf := by
  refine F.ok sc__law_is_leaf (fun vs H Q E h => ?_) (fun cdv A outer s H vs Q E hr h => ?_)
  · obtain ⟨t, v, x, d, rfl, _⟩ := h
    rfl
  · obtain ⟨t, v, x, d, rfl, hd, hok, k⟩ := h
    have hu64 := hr.units
    have hr__law_is_named : Room 1 _ := hr
    refine ⟨_, (pss_cons (ps_if (pt_cmpR op_eq (pe_ix ix_tup (pv 0) pe_int (fun _ _ => rfl)) pe_str (nomark _))
  (pss_one (ps_ret (pe_kn D__law_is_named hr__law_is_named (pa_cons (pe_ix ix_tup (pv 0) pe_int (fun _ _ => rfl)) pa_nil))))
  pss_nil)
  (pss_cons (ps_if (pt_cmpR op_eq (pe_ix ix_tup (pv 0) pe_int (fun _ _ => rfl)) pe_str (nomark _))
  (pss_one (ps_ret (pe_and (pe_callB call_isi (by rfl) B9.isinstance PyProof.Rows.boot_isinstance (pa_cons (pe_ix ix_tup (pv 0) pe_int (fun _ _ => rfl)) (pa_cons (pe_bltn (v := .ty "int") (by rfl) B9.int (by decide +kernel) rfl) pa_nil))) (pe_and (pe_not (pe_callB call_isi (by rfl) B9.isinstance PyProof.Rows.boot_isinstance (pa_cons (pe_ix ix_tup (pv 0) pe_int (fun _ _ => rfl)) (pa_cons (pe_bltn (v := .ty "bool") (by rfl) B9.bool (by decide +kernel) rfl) pa_nil)))) (pe_one (pe_cmpR op_le (pe_callB call_abs (by rfl) B9.abs PyProof.Rows.boot_abs (pa_cons (pe_ix ix_tup (pv 0) pe_int (fun _ _ => rfl)) pa_nil)) (pe_op op_pow pe_int pe_int) (nomark _)))))))
  pss_nil)
  (pss_cons (ps_if (PW.pt (pw_or (pt_cmpR op_ne (pe_ix ix_tup (pv 0) pe_int (fun _ _ => rfl)) pe_str (nomark _)) (pw_or (pt_not (pt_val (pe_callB call_isi (by rfl) B9.isinstance PyProof.Rows.boot_isinstance (pa_cons (pe_ix ix_tup (pv 0) pe_int (fun _ _ => rfl)) (pa_cons (pe_bltn (v := .ty "str") (by rfl) B9.str_ (by decide +kernel) rfl) pa_nil))))) (pw_or1 (pt_cmpR op_gt (pe_callB call_len (by rfl) B.len PySem.boot_len (pa_cons (pe_ix ix_tup (pv 0) pe_int (fun _ _ => rfl)) pa_nil)) pe_int (nomark _))))))
  (pss_one (ps_ret pe_bl))
  pss_nil)
  (pss_one (ps_ret (pe_cmpR (op_eqNilL hu64) (pe_lc (own := [("_law_sign", 1)]) rfl sc__law_is_leaf.nd (pi_str (pe_ix ix_tup (pv 0) pe_int (fun _ _ => rfl))) (blkOk_by (N := N__law_is_leaf) (sc := (defScope s__law_is_leaf)) (own := [("_law_sign", 1)]) (by decide +kernel)) (fun _ _ _ _ _ => (pg_name (i := 1) sc__law_is_leaf.nd rfl (Or.inl rfl))) (fun _ _ _ _ _ => (pts_one (PW.pt (pw_or (pt_not (pt_chain op_le_str op_le_str pe_str (pv 1) pe_str)) (pw_or1 (pt_cmpR op_eq (pe_callB call_ord (by rfl) B9.ord PyProof.Rows.boot_ord (pa_cons (pv 1) pa_nil)) pe_int (nomark _))))))) (fun _ _ _ _ _ => (pv 1))) (pe_lst pa_nil) (nomark _))))))), ?_⟩
    obtain ⟨ad, xs, rfl, ga, da⟩ := da_row hd
    obtain ⟨x0, xr, rfl, d0, dr⟩ := daAll_cons da
    obtain ⟨x1, xr2, rfl, d1, dr2⟩ := daAll_cons dr
    obtain rfl := daAll_nil dr2
    clear da dr dr2
    cases d0
    have at0 : ∀ {H1 : Hp}, Same H H1 → SqT K H1 ad [.str x, x1] := fun s1 => SqT.of (s1 _ _ ga)
    refine ⟨_, rfl, ad, _, 0, _, rfl, rfl, at0 (Same.refl H), rfl, rfl, _, rfl, ?_⟩
    by_cases c1 : x = "name"
    · refine iT (str_eqT c1) ?_
      refine ⟨_, rfl, ad, _, 1, _, rfl, rfl, at0 (Same.refl H), rfl, t, x1, d, rfl, d1, hok, fun H1 s1 => ?_⟩
      have e : leafD x d = isNameD d := if_pos c1
      rw [e] at k
      exact k H1 s1
    refine iF (str_eqF c1) ?_
    refine ⟨_, rfl, ad, _, 0, _, rfl, rfl, at0 (Same.refl H), rfl, rfl, _, rfl, ?_⟩
    by_cases c2 : x = "whole"
    · refine iT (str_eqT c2) ?_
      have e : leafD x d = isWholeD d := by unfold leafD; rw [if_neg c1, if_pos c2]
      rw [e] at k
      refine ⟨_, rfl, ad, _, 1, _, rfl, rfl, at0 (Same.refl H), rfl, x1, .ty "int", .type (tyName d), .type "int", _, rfl, .ty "int", d1.ty, kit_int d, _, rfl, ?_⟩
      cases hi : (isIntD d || isBoolD d) with
      | false =>
        have e : isWholeD d = false := by cases d <;> first | rfl | cases hi
        rw [e] at k
        exact iF rfl (k H (Same.refl H))
      | true =>
        refine iT rfl ?_
        refine ⟨_, rfl, ad, _, 1, _, rfl, rfl, at0 (Same.refl H), rfl, x1, .ty "bool", .type (tyName d), .type "bool", isBoolD d, rfl, .ty "bool", d1.ty, kit_bool d, _, rfl, ?_⟩
        cases hj : isBoolD d with
        | true =>
          have e : isWholeD d = false := by cases d <;> first | rfl | cases hj
          rw [e] at k
          exact ⟨_, rfl, iF rfl (k H (Same.refl H))⟩
        | false =>
          refine ⟨_, rfl, iT rfl ?_⟩
          obtain ⟨i, rfl⟩ : ∃ i, d = .int i := by
            cases d with
            | int i => exact ⟨i, rfl⟩
            | bool _ => cases hj
            | _ => cases hi
          cases d1
          refine ⟨_, rfl, ad, _, 1, _, rfl, rfl, at0 (Same.refl H), rfl, i, rfl, ?_⟩
          refine ⟨_, _, rfl, rfl, ⟨by decide, by decide, by decide⟩, _, _, rfl, rfl, ?_⟩
          have e : decide ((if i < 0 then -i else i) ≤ (10 : Int) ^ (30 : Int).toNat) = isWholeD (.int i) := by
            show decide ((if i < 0 then -i else i) ≤ (10 : Int) ^ 30) = (decide (-(10 ^ 30) ≤ i) && decide (i ≤ 10 ^ 30))
            rw [Bool.eq_iff_iff]
            simp only [Bool.and_eq_true, decide_eq_true_eq]
            split <;> omega
          have kk := k H (Same.refl H)
          rw [← e] at kk
          exact kk
    refine iF (str_eqF c2) ?_
    refine ⟨_, rfl, ad, _, 0, _, rfl, rfl, at0 (Same.refl H), rfl, rfl, _, rfl, ?_⟩
    by_cases c3 : x = "text"
    case neg =>
      have e : leafD x d = false := by unfold leafD; rw [if_neg c1, if_neg c2, if_neg c3]
      rw [e] at k
      refine iT (str_neT c3) ?_
      exact iT rfl (k H (Same.refl H))
    refine iF (by rw [str_eqT c3]; rfl) ?_
    have e : leafD x d = isTextD d := by unfold leafD; rw [if_neg c1, if_neg c2, if_pos c3]
    rw [e] at k
    refine ⟨_, rfl, ad, _, 1, _, rfl, rfl, at0 (Same.refl H), rfl, x1, .ty "str", .type (tyName d), .type "str", isStr d, rfl, .ty "str", d1.ty, kit_str d, _, rfl, ?_⟩
    cases hs : isStr d with
    | false =>
      have e : isTextD d = false := by cases d <;> first | rfl | cases hs
      rw [e] at k
      exact iT rfl (iT rfl (k H (Same.refl H)))
    | true =>
      obtain ⟨y, rfl⟩ : ∃ y, d = .str y := by
        cases d with
        | str y => exact ⟨y, rfl⟩
        | _ => cases hs
      cases d1
      have lx := shD_str hok y rfl
      refine iF rfl ?_
      refine ⟨_, rfl, ad, _, 1, _, rfl, rfl, at0 (Same.refl H), rfl, .str y, y.length, rfl, ⟨by rw [sizeLine_eq]; omega, rfl⟩, _, _, rfl, rfl, _, rfl, ?_⟩
      by_cases h2 : (200 : Int) < (y.length : Int)
      · have e : isTextD (.str y) = false := by
          show (decide (y.length ≤ 200) && _) = false
          rw [decide_eq_false (by omega)]
          rfl
        rw [e] at k
        exact iT (decide_eq_true h2) (k H (Same.refl H))
      refine iF (decide_eq_false h2) ?_
      have e : isTextD (.str y) = y.cps.toList.all sgnT := by
        show (decide (y.length ≤ 200) && y.cps.all sgnT) = _
        rw [decide_eq_true (by omega), ← Array.all_toList, Bool.true_and]
      rw [e] at k
      refine ⟨_, rfl, ad, _, 1, _, rfl, rfl, at0 (Same.refl H), rfl, y, rfl, fun D hD => lc_it walk_str (fun i H' => Same H H' ∧ ∃ zs, H' D = some (.lst zs) ∧ zs.length ≤ i ∧ zs.isEmpty = (y.cps.toList.take i).all sgnT) ⟨same_new hD, [], upd_same, Nat.le_refl _, rfl⟩ (fun i H' _ _ => trivial) ?_ ?_⟩
      · rintro i z H1 H2 hi ⟨s1, zs, gD, lz, ez⟩ ⟨rfl, c, ec, rfl⟩
        have ec' : y.cps.toList[i]? = some c := by simpa using ec
        have hi' : i < y.length := hi
        refine ⟨rfl, ?_⟩
        have et : (y.cps.toList.take (i + 1)).all sgnT = ((y.cps.toList.take i).all sgnT && sgnT c) := by
          rw [List.take_add_one, ec', List.all_append]
          simp
        have put : sgnT c = false → ∃ acc, H2 D = some (.lst acc) ∧ acc.length < sizeLine ∧ Same H (upd H2 D (.lst (acc ++ [.str ⟨#[c]⟩]))) ∧ ∃ zs, upd H2 D (.lst (acc ++ [.str ⟨#[c]⟩])) D = some (.lst zs) ∧ zs.length ≤ i + 1 ∧ zs.isEmpty = (y.cps.toList.take (i + 1)).all sgnT := fun hn => by
          refine ⟨zs, gD, szl (by omega), fun b o z => ?_, zs ++ [.str ⟨#[c]⟩], upd_same, by rw [List.length_append]; simp; omega, ?_⟩
          · rw [upd_ne (ne_of_none z hD)]
            exact s1 _ _ z
          · rw [et, hn, Bool.and_false]
            cases zs <;> rfl
        refine ⟨_, rfl, _, _, rfl, rfl, _, rfl, ?_⟩
        show if (!decide ((#[c] : Array Nat).toList < (#[32] : Array Nat).toList)) = true then _ else _
        rw [lt_one]
        by_cases q1 : 32 ≤ c
        case neg =>
          rw [decide_eq_true (by omega : c < 32)]
          refine iF rfl ?_
          exact ⟨_, rfl, iT rfl ⟨_, rfl, put (by unfold sgnT; rw [decide_eq_false q1]; rfl)⟩⟩
        rw [decide_eq_false (by omega : ¬ c < 32)]
        refine iT rfl ?_
        refine ⟨_, _, rfl, rfl, _, rfl, ?_⟩
        by_cases q2 : c ≤ 126
        case neg =>
          refine iT ?_ ⟨_, rfl, put (by unfold sgnT; rw [decide_eq_false q2, Bool.and_false]; rfl)⟩
          show (!(!decide ((#[126] : Array Nat).toList < (#[c] : Array Nat).toList))) = true
          rw [lt_one, decide_eq_true (by omega : 126 < c)]
          rfl
        refine iF ?_ ?_
        · show (!(!decide ((#[126] : Array Nat).toList < (#[c] : Array Nat).toList))) = false
          rw [lt_one, decide_eq_false (by omega : ¬ 126 < c)]
          rfl
        refine ⟨_, rfl, ⟨#[c]⟩, rfl, rfl, rfl, _, rfl, ?_⟩
        have e37 : decide (V.int (c : Int) = V.int 37) = decide (c = 37) := by
          rw [decide_eq_decide]
          exact ⟨fun z => by injection z with z; omega, fun z => by rw [z]; rfl⟩
        show if decide (V.int (c : Int) = V.int 37) = true then _ else _
        rw [e37]
        by_cases q3 : c = 37
        · exact iT (decide_eq_true q3) ⟨_, rfl, put (by unfold sgnT; rw [decide_eq_true q3, Bool.not_true, Bool.and_false])⟩
        · refine iF (decide_eq_false q3) ⟨s1, zs, gD, by omega, ?_⟩
          rw [et, ez, show sgnT c = true from by unfold sgnT; rw [decide_eq_true q1, decide_eq_true q2, decide_eq_false q3]; rfl, Bool.and_true]
      · rintro H1 ⟨s1, zs, gD, lz, ez⟩
        rw [List.take_of_length_le (by simp)] at ez
        refine ⟨slz rfl, fun z hz => ?_⟩
        have s2 := same_new (o := .lst []) hz
        refine ⟨D, z, zs, rfl, rfl, SqL.of (s2 _ _ gD), SqL.of upd_same, ?_⟩
        rw [ez]
        exact k _ (s1.trans s2)
end
end L3

/-! a tuple of anything == () -/
namespace L3
open PySem PySem.Spec PyProof.Rows L2
open PySem.SeqAt
def rEqNilT : R2 := fun x y H Q => ∃ (a b : Addr) (xs : List V), x = .ref a ∧ y = .ref b ∧ H a = some (.tup xs) ∧ H b = some (.tup []) ∧ Q (.bl xs.isEmpty) H
theorem op_eqNilT {X : Cx} (hu : X.A.units + 64 < cLine) : OpR X (compareOp .Eq) rEqNilT := by
  intro pins s σ H x y v u Q I rx ry h
  obtain ⟨a, b, xs, rfl, rfl, ha, hb, q⟩ := h
  obtain rfl : v = Value.ref a := rx
  obtain rfl : u = Value.ref b := ry
  obtain ⟨its, rv, ⟨o, ho, hc, n, hd⟩, _⟩ := I.tuple (SqT.of ha)
  obtain ⟨its2, rv2, ⟨o2, ho2, hc2, n2, hd2⟩, _⟩ := I.tuple (SqT.of hb)
  cases rv2
  have fin : ∀ b : Bool, b = xs.isEmpty → EP X pins σ Q (.bool b) s := fun b e => ⟨.bl b, H, I, rfl, by rw [e]; exact q⟩
  refine RcAt.tuples (e := fun _ => true) ⟨o, ho, hc, n, hd⟩ ⟨o2, ho2, hc2, n2, hd2⟩ (by omega) (fun j h1 h2 => absurd h2 (by simp)) _ _ _ _ (fin _ ?_)
  have hl := rv.length
  cases rv with
  | nil => rfl
  | cons _ _ =>
    show (_ && _) = false
    simp
end L3

namespace L3
open PySem PyProof.Rows PySem.Spec L2
/-- nested at most n deep -/
def Nst : Nat → PyData → Prop
  | 0, _ => False
  | n + 1, .tuple ds => ∀ d ∈ ds, Nst n d
  | _ + 1, _ => True
theorem Nst.mono : ∀ {n m : Nat} {d : PyData}, Nst n d → n ≤ m → Nst m d
  | 0, _, _, h, _ => h.elim
  | n + 1, 0, _, _, l => absurd l (by omega)
  | n + 1, m + 1, .tuple ds, h, l => fun d hd => Nst.mono (h d hd) (by omega)
  | n + 1, m + 1, .none, _, _ => True.intro
  | n + 1, m + 1, .bool _, _, _ => True.intro
  | n + 1, m + 1, .int _, _, _ => True.intro
  | n + 1, m + 1, .str _, _, _ => True.intro
  | n + 1, m + 1, .list _, _, _ => True.intro
  | n + 1, m + 1, .dict _, _, _ => True.intro
theorem Nst.mem {n : Nat} {ds : List PyData} {d : PyData} (h : Nst (n + 1) (.tuple ds)) (hd : d ∈ ds) : Nst n d := h d hd
theorem Nst.memW {n : Nat} {ds : List PyData} {d : PyData} (h : Nst n (.tuple ds)) (hd : d ∈ ds) : Nst n d := by
  cases n with
  | zero => exact h.elim
  | succ n => exact (h.mem hd).mono (Nat.le_succ n)
def rowOk2 (d : PyData) : Bool := rowD 2 d && isNameD (nth 0 d) && isTermD (nth 1 d)
def rowOk3 (d : PyData) : Bool := rowD 3 d && isNameD (nth 0 d) && isTermD (nth 2 d) && namesOkD (nth 1 d)
theorem armD_eq (d : PyData) : armD d = (isNameD (nth 0 d) && namesOkD (nth 1 d)) := by
  unfold armD namesOkD
  cases nth 1 d <;> rfl
theorem isTerm_eq (d : PyData) : isTermD d = match partsD d with
    | none => false
    | some ps => ps.all isTermD := by
  cases e : partsD d with
  | none => exact isTerm_no e
  | some ps => exact isTerm_yes e
theorem one_let (ds : List PyData) (a : PyData) : isTermD (.tuple [.str "let", .tuple ds, a]) = (!ds.isEmpty && ds.all rowOk2 && diffD (ds.map (nth 0)) && isTermD a) := by
  have e : partsD (.tuple [.str "let", .tuple ds, a]) = if rowsD 2 (.tuple ds) && diffD (ds.map (nth 0)) then some (ds.map (nth 1) ++ [a]) else none := rfl
  have er : rowsD 2 (.tuple ds) = (!ds.isEmpty && ds.all (rowD 2)) := rfl
  rw [isTerm_eq, e, er]
  cases hd : diffD (ds.map (nth 0)) with
  | false => simp
  | true =>
    have hn : ∀ d ∈ ds, isNameD (nth 0 d) = true := fun d hd2 => by
      unfold diffD at hd
      rw [Bool.and_eq_true] at hd
      exact List.all_eq_true.mp hd.1 _ (List.mem_map_of_mem hd2)
    have ea : ds.all rowOk2 = (ds.all (rowD 2) && ds.all fun d => isTermD (nth 1 d)) := by
      rw [Bool.eq_iff_iff, Bool.and_eq_true, List.all_eq_true, List.all_eq_true, List.all_eq_true]
      constructor
      · intro h
        refine ⟨fun d hd => ?_, fun d hd => ?_⟩
        · have := h d hd
          unfold rowOk2 at this
          simp only [Bool.and_eq_true] at this
          exact this.1.1
        · have := h d hd
          unfold rowOk2 at this
          simp only [Bool.and_eq_true] at this
          exact this.2
      · rintro ⟨h1, h2⟩ d hd
        unfold rowOk2
        rw [h1 d hd, hn d hd, h2 d hd]
        rfl
    rw [ea]
    cases ds.isEmpty <;> cases ds.all (rowD 2) <;> simp [List.all_append, List.all_map, Function.comp_def]
theorem one_match (ds : List PyData) (a : PyData) : isTermD (.tuple [.str "match", a, .tuple ds]) = (!ds.isEmpty && ds.all rowOk3 && isTermD a) := by
  have e : partsD (.tuple [.str "match", a, .tuple ds]) = if rowsD 3 (.tuple ds) && ds.all armD then some (a :: ds.map (nth 2)) else none := rfl
  have er : rowsD 3 (.tuple ds) = (!ds.isEmpty && ds.all (rowD 3)) := rfl
  rw [isTerm_eq, e, er]
  have ea : ds.all rowOk3 = (ds.all (rowD 3) && ds.all armD && ds.all fun d => isTermD (nth 2 d)) := by
    rw [Bool.eq_iff_iff, Bool.and_eq_true, Bool.and_eq_true, List.all_eq_true, List.all_eq_true, List.all_eq_true, List.all_eq_true]
    constructor
    · intro h
      refine ⟨⟨fun d hd => ?_, fun d hd => ?_⟩, fun d hd => ?_⟩ <;> have := h d hd <;> unfold rowOk3 at this <;> simp only [Bool.and_eq_true] at this
      · exact this.1.1.1
      · rw [armD_eq, this.1.1.2, this.2]
        rfl
      · exact this.1.2
    · rintro ⟨⟨h1, h2⟩, h3⟩ d hd
      have := h2 d hd
      rw [armD_eq, Bool.and_eq_true] at this
      unfold rowOk3
      rw [h1 d hd, this.1, this.2, h3 d hd]
      rfl
  rw [ea]
  cases ds.isEmpty <;> cases ds.all (rowD 3) <;> cases ds.all armD <;> try rfl
  show (isTermD a && (ds.map (nth 2)).all isTermD) = ((ds.all fun d => isTermD (nth 2 d)) && isTermD a)
  rw [List.all_map, Bool.and_comm]
  rfl
theorem one_use (a b : PyData) : isTermD (.tuple [.str "use", a, b]) = (isTermD a && isTermD b) := by
  rw [isTerm_eq, show partsD (.tuple [.str "use", a, b]) = some [a, b] from rfl]
  simp
theorem one_given (x a : PyData) : isTermD (.tuple [.str "given", x, a]) = (isNameD x && isTermD a) := by
  rw [isTerm_eq, show partsD (.tuple [.str "given", x, a]) = if isNameD x then some [a] else none from rfl]
  cases isNameD x <;> simp
theorem one_leaf (w : Str) (d : PyData) : isTermD (.tuple [.str w, d]) = leafD w d := by
  rw [isTerm_eq]
  show (match partsW w [d] with | none => false | some ps => ps.all isTermD) = _
  unfold partsW leafD
  by_cases c1 : w = "name"
  · rw [if_pos c1, if_pos c1]
    cases h : isNameD d <;> simp [h]
  rw [if_neg c1, if_neg c1]
  by_cases c2 : w = "whole"
  · rw [if_pos c2, if_pos c2]
    cases h : isWholeD d <;> simp [h]
  rw [if_neg c2, if_neg c2]
  by_cases c3 : w = "text"
  · rw [if_pos c3, if_pos c3]
    cases h : isTextD d <;> simp [h]
  rw [if_neg c3, if_neg c3]
  split
  · rfl
  · rename_i ps e
    split at e
    · cases e
    split at e
    · cases e
    split at e
    · cases e
    split at e
    · cases e
    split at e
    · cases e
    · cases e
theorem one_hole (w : Str) : isTermD (.tuple [.str w]) = decide (w = "hole") := by
  rw [isTerm_eq]
  show (match partsW w [] with | none => false | some ps => ps.all isTermD) = _
  by_cases c : w = "hole"
  · subst c
    rfl
  · rw [decide_eq_false c]
    unfold partsW
    split
    · rfl
    · rename_i ps e
      repeat (first | cases e | split at e)
theorem one_three {w : Str} {a b : PyData} (h1 : w ≠ "use") (h2 : w ≠ "given") (h3 : w ≠ "let") (h4 : w ≠ "match") : isTermD (.tuple [.str w, a, b]) = false := by
  rw [isTerm_eq]
  show (match partsW w [a, b] with | none => false | some ps => ps.all isTermD) = _
  unfold partsW
  rw [if_neg h1, if_neg h2, if_neg h3, if_neg h4]
  split
  · rfl
  · rename_i ps e
    repeat (first | cases e | split at e)
theorem one_long {w : Str} {a b c : PyData} {r : List PyData} : isTermD (.tuple (.str w :: a :: b :: c :: r)) = false := by
  rw [isTerm_eq]
  show (match partsW w (a :: b :: c :: r) with | none => false | some ps => ps.all isTermD) = _
  unfold partsW
  split
  · rfl
  · rename_i ps e
    repeat (first | cases e | split at e)
theorem one_noRows {w : Str} {a b : PyData} (h : w = "let" ∧ isTup a = false ∨ w = "match" ∧ isTup b = false) : isTermD (.tuple [.str w, a, b]) = false := by
  rw [isTerm_eq]
  rcases h with ⟨rfl, h⟩ | ⟨rfl, h⟩
  · have e : partsD (.tuple [.str "let", a, b]) = if rowsD 2 a && diffD ((mems a).map (nth 0)) then some ((mems a).map (nth 1) ++ [b]) else none := rfl
    have e2 : rowsD 2 a = false := by cases a <;> first | rfl | cases h
    rw [e, e2]
    rfl
  · have e : partsD (.tuple [.str "match", a, b]) = if rowsD 3 b && (mems b).all armD then some (a :: (mems b).map (nth 2)) else none := rfl
    have e2 : rowsD 3 b = false := by cases b <;> first | rfl | cases h
    rw [e, e2]
    rfl
end L3

namespace L3
open PySem PyProof.Rows PySem.Spec L2
theorem key_row {F : V → Prop} {C : V → PyData → Prop} {G : Prop} (g : (∀ xv dv, C xv dv → F xv) → G) (h : ∀ xv dv, C xv dv → F xv) : G := g h
theorem key_sz {F : V → Prop} {C : V → Prop} {G : Prop} (g : (∀ z, C z → F z) → G) (h : ∀ z, C z → F z) : G := g h
theorem via {M : V → Hp → Prop} {x : V} {H : Hp} (h : ∀ z, z = x → M z H) : M x H := h x rfl
theorem viaC {Q : VK} {x : V} {σ : L2.St} {H : Hp} (h : ∀ z, z = x → Q z H) : tC x σ H Q := h x rfl
def rowOkN (sz : Nat) (d : PyData) : Bool := rowD sz d && isNameD (nth 0 d) && isTermD (nth (sz - 1) d) && (if sz = 3 then namesOkD (nth 1 d) else true)
theorem rowOkN2 (d : PyData) : rowOkN 2 d = rowOk2 d := by
  unfold rowOkN rowOk2
  rw [if_neg (by decide), Bool.and_true]
theorem rowOkN3 (d : PyData) : rowOkN 3 d = rowOk3 d := rfl
theorem all_false {f : PyData → Bool} {ds : List PyData} {d : PyData} (hd : d ∈ ds) (h : f d = false) : ds.all f = false := by
  cases e : ds.all f with
  | false => rfl
  | true =>
    have := List.all_eq_true.mp e d hd
    rw [h] at this
    cases this
section
variable {P : Program} {w : World} {K : PySem.W.Frag} {mg : Str → Option Value} {base : Heap}
abbrev s__law_is_one : Stmt := topS 46
abbrev N__law_is_one : List Str := ["_law_x", "_law_rows", "_law_size", "_law_row"]
theorem sc__law_is_one : FnScope N__law_is_one ["_law_x"] (defScope s__law_is_one) := ⟨rfl, rfl, rfl, by decide +kernel, rfl, by decide +kernel, by decide +kernel⟩
def spOne (n : Nat) : Sp := fun vs H Q _ => ∃ (t : Addr) (v : V) (d : PyData), vs = [v] ∧ Da t H v d ∧ shD d = true ∧ Nst n d ∧ ∀ H', Same H H' → Q (.bl (isTermD d)) H'
theorem ok_one {n k : Nat} (hk : 2 ≤ k) {f : Addr} {fd : FuncData} (F : Fun K "_law_is_one" "_law_is_one" s__law_is_one f fd) (B : Bl mg) (B9 : Bl9 mg) (D__law_is_named : Kn P w K mg base 1 "_law_is_named" ["_law_x"] spLNamed) (D__law_are_named : Kn P w K mg base 2 "_law_are_named" ["_law_x"] spLAre)
    (D__law_is_leaf : Kn P w K mg base 2 "_law_is_leaf" ["_law_x"] spLeaf) (D__law_is_one : Kn P w K mg base k "_law_is_one" ["_law_x"] (spOne n)) : FnOk P w K mg base CX0 (k + 1) f fd ["_law_x"] (spOne (n + 1)) := by
  refine F.ok sc__law_is_one (fun vs H Q E h => ?_) (fun cdv A outer s H vs Q E hr h => ?_)
  · obtain ⟨t, v, d, rfl, _⟩ := h
    rfl
  · obtain ⟨t, v, d, rfl, hd, hok, hn, kk⟩ := h
    have hu64 := hr.units
    have hr__law_is_named : Room 1 _ := hr.mono (by omega)
    have hr__law_are_named : Room 2 _ := hr.mono hk
    have hr__law_is_leaf : Room 2 _ := hr.mono hk
    have hr__law_is_one : Room k _ := hr
    refine ⟨_, (pss_cons (ps_if (PW.pt (pw_or (pt_not (pt_val (pe_callB call_isi (by rfl) B9.isinstance PyProof.Rows.boot_isinstance (pa_cons (pv 0) (pa_cons (pe_bltn (v := .ty "tuple") (by rfl) B9.tuple (by decide +kernel) rfl) pa_nil))))) (pw_or (pt_cmpR (op_eqNilT hu64) (pv 0) (pe_tup pa_nil) (nomark _)) (pw_or (pt_not (pt_val (pe_callB call_isi (by rfl) B9.isinstance PyProof.Rows.boot_isinstance (pa_cons (pe_ix ix_tup (pv 0) pe_int (fun _ _ => rfl)) (pa_cons (pe_bltn (v := .ty "str") (by rfl) B9.str_ (by decide +kernel) rfl) pa_nil))))) (pw_or1 (pt_cmpR op_gt (pe_callB call_len (by rfl) B.len PySem.boot_len (pa_cons (pv 0) pa_nil)) pe_int (nomark _)))))))
  (pss_one (ps_ret pe_bl))
  pss_nil)
  (pss_cons (ps_if (pt_cmpR op_lt (pe_callB call_len (by rfl) B.len PySem.boot_len (pa_cons (pv 0) pa_nil)) pe_int (nomark _))
  (pss_one (ps_ret (pe_ifExp (pt_cmpR op_eq (pe_callB call_len (by rfl) B.len PySem.boot_len (pa_cons (pv 0) pa_nil)) pe_int (nomark _)) (pe_cmpR (op_eqOne (t := t) hu64) (pv 0) (pe_tup (pa_cons pe_str pa_nil)) (nomark _)) (pe_kn D__law_is_leaf hr__law_is_leaf (pa_cons (pv 0) pa_nil)))))
  pss_nil)
  (pss_cons (ps_if (pt_cmpR op_in_seq (pe_ix ix_tup (pv 0) pe_int (fun _ _ => rfl)) (pe_tup (pa_cons pe_str (pa_cons pe_str pa_nil))) (by rfl))
  (pss_one (ps_ret (pe_and (pe_kn D__law_is_one hr__law_is_one (pa_cons (pe_ix ix_tup (pv 0) pe_int (fun _ _ => rfl)) pa_nil)) (pe_one (pe_ifExp (pt_cmpR op_eq (pe_ix ix_tup (pv 0) pe_int (fun _ _ => rfl)) pe_str (nomark _)) (pe_kn D__law_is_one hr__law_is_one (pa_cons (pe_ix ix_tup (pv 0) pe_int (fun _ _ => rfl)) pa_nil)) (pe_kn D__law_is_named hr__law_is_named (pa_cons (pe_ix ix_tup (pv 0) pe_int (fun _ _ => rfl)) pa_nil)))))))
  pss_nil)
  (pss_cons (ps_set (i := 1) sc__law_is_one.nd rfl (Or.inl rfl) (pe_ifExp (pt_cmpR op_eq (pe_ix ix_tup (pv 0) pe_int (fun _ _ => rfl)) pe_str (nomark _)) (pe_ix ix_tup (pv 0) pe_int (fun _ _ => rfl)) (pe_ix ix_tup (pv 0) pe_int (fun _ _ => rfl))))
  (pss_cons (ps_if (PW.pt (pw_or (pt_cmpR op_notIn_seq (pe_ix ix_tup (pv 0) pe_int (fun _ _ => rfl)) (pe_tup (pa_cons pe_str (pa_cons pe_str pa_nil))) (by rfl)) (pw_or (pt_not (pt_val (pe_callB call_isi (by rfl) B9.isinstance PyProof.Rows.boot_isinstance (pa_cons (pv 1) (pa_cons (pe_bltn (v := .ty "tuple") (by rfl) B9.tuple (by decide +kernel) rfl) pa_nil))))) (pw_or1 (pt_cmpR (op_eqNilT hu64) (pv 1) (pe_tup pa_nil) (nomark _))))))
  (pss_one (ps_ret pe_bl))
  pss_nil)
  (pss_cons (ps_set (i := 2) sc__law_is_one.nd rfl (Or.inl rfl) (pe_ifExp (pt_cmpR op_eq (pe_ix ix_tup (pv 0) pe_int (fun _ _ => rfl)) pe_str (nomark _)) pe_int pe_int))
  (pss_cons (ps_for PassesOwn.never rfl (pi_tup (pv 1)) (pg_name (i := 3) sc__law_is_one.nd rfl (Or.inl rfl))
  (pss_cons (ps_if (PW.pt (pw_or (pt_not (pt_val (pe_callB call_isi (by rfl) B9.isinstance PyProof.Rows.boot_isinstance (pa_cons (pv 3) (pa_cons (pe_bltn (v := .ty "tuple") (by rfl) B9.tuple (by decide +kernel) rfl) pa_nil))))) (pw_or (pt_cmpR op_ne (pe_callB call_len (by rfl) B.len PySem.boot_len (pa_cons (pv 3) pa_nil)) (pv 2) (nomark _)) (pw_or (pt_not (pt_val (pe_kn D__law_is_named hr__law_is_named (pa_cons (pe_ix ix_tup (pv 3) pe_int (fun _ _ => rfl)) pa_nil)))) (pw_or1 (pt_not (pt_val (pe_kn D__law_is_one hr__law_is_one (pa_cons (pe_ix ix_tup (pv 3) (pe_op op_sub (pv 2) pe_int) (fun _ _ => rfl)) pa_nil)))))))))
  (pss_one (ps_ret pe_bl))
  pss_nil)
  (pss_one (ps_if (PW.pt (pw_and (pt_cmpR op_eq (pv 2) pe_int (nomark _)) (pw_and1 (pt_not (pt_val (pe_kn D__law_are_named hr__law_are_named (pa_cons (pe_ix ix_tup (pv 3) pe_int (fun _ _ => rfl)) pa_nil)))))))
  (pss_one (ps_ret pe_bl))
  pss_nil))))
  (pss_cons (ps_if (pt_cmpR op_eq (pv 2) pe_int (nomark _))
  (pss_one (ps_ret (pe_and (pe_kn D__law_are_named hr__law_are_named (pa_cons (pe_callTy call_tuple_of (by rfl) B.tuple (by decide +kernel) (pa_cons (pe_lc (own := [("_law_row", 3)]) rfl sc__law_is_one.nd (pi_tup (pv 1)) (blkOk_by (N := N__law_is_one) (sc := (defScope s__law_is_one)) (own := [("_law_row", 3)]) (by decide +kernel)) (fun _ _ _ _ _ => (pg_name (i := 3) sc__law_is_one.nd rfl (Or.inl rfl))) (fun _ _ _ _ _ => pts_nil) (fun _ _ _ _ _ => (pe_ix (show IxR _ (rIxT K) from ix_tup) (pv 3) pe_int (fun _ _ => rfl)))) pa_nil)) pa_nil)) (pe_one (pe_kn D__law_is_one hr__law_is_one (pa_cons (pe_ix ix_tup (pv 0) pe_int (fun _ _ => rfl)) pa_nil))))))
  pss_nil)
  (pss_one (ps_ret (pe_kn D__law_is_one hr__law_is_one (pa_cons (pe_ix ix_tup (pv 0) pe_int (fun _ _ => rfl)) pa_nil)))))))))))), ?_⟩
    have bad : isTermD d = false → ∀ H', Same H H' → Q (.bl false) H' := fun e H' s => by
      rw [e] at kk
      exact kk H' s
    refine ⟨_, rfl, v, .ty "tuple", .type (tyName d), .type "tuple", isTup d, rfl, .ty "tuple", hd.ty, kit_tup _, _, rfl, ?_⟩
    cases ht : isTup d with
    | false =>
      have e : isTermD d = false := isTerm_no (by cases d <;> first | rfl | cases ht)
      exact iT rfl (iT rfl (bad e H (Same.refl H)))
    | true =>
    obtain ⟨ds, rfl⟩ : ∃ ds, d = .tuple ds := by
      cases d with
      | tuple ds => exact ⟨ds, rfl⟩
      | _ => cases ht
    refine iF rfl ?_
    obtain ⟨ad, xs, rfl, ga, da⟩ := da_row hd
    have le := da.len
    obtain ⟨hl, hsl⟩ := shD_tup hok
    refine ⟨_, rfl, slz rfl, fun e0 he0 => ?_⟩
    have s1 := same_new (o := .tup []) he0
    refine ⟨ad, e0, xs, rfl, rfl, s1 _ _ ga, upd_same, _, rfl, ?_⟩
    generalize upd H e0 (.tup []) = H1 at s1 ⊢
    cases ds with
    | nil =>
      obtain rfl := daAll_nil da
      exact iT rfl (iT rfl (bad (isTerm_no rfl) H1 s1))
    | cons d0 r =>
    obtain ⟨x0, xr, rfl, dd0, dr⟩ := daAll_cons da
    clear da
    refine iF rfl ?_
    have at0 : ∀ {H' : Hp}, Same H H' → SqT K H' ad (x0 :: xr) := fun s => SqT.of (s _ _ ga)
    have i0 : (0 : Int) = ((0 : Nat) : Int) := rfl
    refine ⟨_, rfl, ad, _, 0, _, rfl, rfl, at0 s1, at_of i0 rfl, x0, .ty "str", .type (tyName d0), .type "str", isStr d0, rfl, .ty "str", (dd0.kp (kp_same s1)).ty, kit_str d0, _, rfl, ?_⟩
    cases hst : isStr d0 with
    | false =>
      have e : partsD (.tuple (d0 :: r)) = none := by cases d0 <;> first | rfl | cases hst
      exact iT rfl (iT rfl (bad (isTerm_no e) H1 s1))
    | true =>
    obtain ⟨wd, rfl⟩ : ∃ x, d0 = .str x := by
      cases d0 with
      | str x => exact ⟨x, rfl⟩
      | _ => cases hst
    cases dd0
    refine iF rfl ?_
    have lxr := dr.len
    refine ⟨_, rfl, .ref ad, _, rfl, .inr ⟨_, at0 s1, rfl⟩, _, _, rfl, rfl, _, rfl, ?_⟩
    by_cases c3 : (3 : Int) < ((V.str wd :: xr).length : Nat)
    · have e : isTermD (.tuple (.str wd :: r)) = false := by
        rw [List.length_cons] at c3
        match r, (show 3 ≤ r.length by omega) with
        | a :: b :: c :: r', _ => exact one_long
      exact iT (decide_eq_true c3) (bad e H1 s1)
    refine iF (decide_eq_false c3) ?_
    rw [List.length_cons] at c3
    refine ⟨_, rfl, .ref ad, _, rfl, .inr ⟨_, at0 s1, rfl⟩, _, _, rfl, rfl, _, rfl, ?_⟩
    rw [List.length_cons]
    by_cases c2 : ((xr.length + 1 : Nat) : Int) < 3
    · refine iT (decide_eq_true c2) ?_
      refine ⟨_, rfl, .ref ad, _, rfl, .inr ⟨_, at0 s1, rfl⟩, rfl, _, rfl, ?_⟩
      by_cases c1 : xr.length = 0
      · have : xr = [] := List.length_eq_zero_iff.mp c1
        subst this
        obtain rfl : r = [] := List.length_eq_zero_iff.mp (by omega)
        refine iT rfl ?_
        refine ⟨_, rfl, slz rfl, fun e1 he1 => ?_⟩
        have s2 := same_new (o := .tup [.str "hole"]) he1
        refine ⟨ad, e1, _, "hole", rfl, rfl, hd.kp (kp_same (s1.trans s2)), upd_same, ?_⟩
        have e : isOne "hole" [.str wd] = isTermD (.tuple [.str wd]) := by
          rw [one_hole]
          rfl
        rw [e]
        exact kk _ (s1.trans s2)
      · obtain ⟨d1, rfl⟩ : ∃ d1, r = [d1] := List.length_eq_one_iff.mp (by omega)
        refine iF (decide_eq_false fun z => c1 (by injection z with z; rw [List.length_cons] at z; omega)) ?_
        refine ⟨_, rfl, t, .ref ad, wd, d1, rfl, hd.kp (kp_same s1), shL_mem hsl (by simp), fun H2 s2 => ?_⟩
        rw [← one_leaf]
        exact kk H2 (s1.trans s2)
    refine iF (decide_eq_false c2) ?_
    obtain ⟨d1, d2, rfl⟩ : ∃ d1 d2, r = [d1, d2] := len_two (by omega)
    obtain ⟨x1, r1, rfl, dd1, dr1⟩ := daAll_cons dr
    obtain ⟨x2, r2, rfl, dd2, dr2⟩ := daAll_cons dr1
    obtain rfl := daAll_nil dr2
    clear dr dr1 dr2
    have sh1 := shL_mem hsl (d := d1) (by simp)
    have sh2 := shL_mem hsl (d := d2) (by simp)
    have n1 : Nst n d1 := hn.mem (by simp)
    have n2 : Nst n d2 := hn.mem (by simp)
    refine ⟨_, rfl, ad, _, 0, _, rfl, rfl, at0 s1, at_of i0 rfl, slz rfl, fun p1 hp1 => ?_⟩
    have s2 := s1.trans (same_new (o := .tup [.str "use", .str "given"]) hp1)
    have gp1 := upd_same (H := H1) (a := p1) (o := .tup [.str "use", .str "given"])
    change rIn K false _ _ (upd H1 p1 (.tup [.str "use", .str "given"])) _
    generalize upd H1 p1 (.tup [.str "use", .str "given"]) = H2 at s2 gp1 ⊢
    refine ⟨p1, _, rfl, .inr (SqT.of gp1), rfl, rfl, _, rfl, ?_⟩
    have e1 : inV (.str wd) [V.str "use", V.str "given"] = decide (wd ∈ [("use" : Str), "given"]) := inV_words wd ["use", "given"]
    show if inV (.str wd) [V.str "use", V.str "given"] = true then _ else _
    rw [e1]
    by_cases c4 : wd ∈ [("use" : Str), "given"]
    · refine iT (decide_eq_true c4) ?_
      refine ⟨_, rfl, ad, _, 2, _, rfl, rfl, at0 s2, rfl, t, x2, d2, rfl, dd2.kp (kp_same s2), sh2, n2, fun H3 s3 => ⟨_, rfl, ?_⟩⟩
      have S3 := s2.trans s3
      cases h2 : isTermD d2 with
      | false =>
        refine iF rfl (bad ?_ H3 S3)
        rcases List.mem_cons.mp c4 with rfl | c4
        · rw [one_use, h2, Bool.and_false]
        · rw [List.mem_singleton.mp c4, one_given, h2, Bool.and_false]
      | true =>
        refine iT rfl ?_
        refine ⟨_, rfl, ad, _, 0, _, rfl, rfl, at0 S3, at_of i0 rfl, rfl, _, rfl, ?_⟩
        by_cases cu : wd = "use"
        · subst cu
          refine iT (str_eqT rfl) ?_
          refine ⟨_, rfl, ad, _, 1, _, rfl, rfl, at0 S3, rfl, t, x1, d1, rfl, dd1.kp (kp_same S3), sh1, n1, fun H4 s4 => ?_⟩
          rw [one_use, h2, Bool.and_true] at kk
          exact kk H4 (S3.trans s4)
        · obtain rfl : wd = "given" := (List.mem_cons.mp c4).elim (fun z => absurd z cu) List.mem_singleton.mp
          refine iF (str_eqF cu) ?_
          refine ⟨_, rfl, ad, _, 1, _, rfl, rfl, at0 S3, rfl, t, x1, d1, rfl, dd1.kp (kp_same S3), sh1, fun H4 s4 => ?_⟩
          rw [one_given, h2, Bool.and_true] at kk
          exact kk H4 (S3.trans s4)
    refine iF (decide_eq_false c4) ?_
    have cu : wd ≠ "use" := fun e => c4 (by rw [e]; simp)
    have cg : wd ≠ "given" := fun e => c4 (by rw [e]; simp)
    refine ⟨_, rfl, ad, _, 0, _, rfl, rfl, at0 s2, at_of i0 rfl, rfl, _, rfl, ?_⟩
    -- the rows
    refine' key_row (C := fun xv dv => wd = "let" ∧ xv = x1 ∧ dv = d1 ∨ wd ≠ "let" ∧ xv = x2 ∧ dv = d2) (fun h => ?_) (fun xv dv hc => ?_)
    rotate_left
    · by_cases cl : wd = "let"
      · refine iT (str_eqT cl) ?_
        obtain ⟨z, hz⟩ : ∃ z, z = x1 := ⟨_, rfl⟩
        refine ⟨_, rfl, ad, _, 1, z, rfl, rfl, at0 s2, by rw [hz]; rfl, ?_⟩
        exact h z d1 (.inl ⟨cl, hz, rfl⟩)
      · refine iF (str_eqF cl) ?_
        obtain ⟨z, hz⟩ : ∃ z, z = x2 := ⟨_, rfl⟩
        refine ⟨_, rfl, ad, _, 2, z, rfl, rfl, at0 s2, by rw [hz]; rfl, ?_⟩
        exact h z d2 (.inr ⟨cl, hz, rfl⟩)
    have dxv : Da t H xv dv := by rcases hc with ⟨_, rfl, rfl⟩ | ⟨_, rfl, rfl⟩ <;> assumption
    have shv : shD dv = true := by rcases hc with ⟨_, rfl, rfl⟩ | ⟨_, rfl, rfl⟩ <;> assumption
    have nv : Nst n dv := by rcases hc with ⟨_, rfl, rfl⟩ | ⟨_, rfl, rfl⟩ <;> assumption
    refine ⟨_, rfl, ad, _, 0, _, rfl, rfl, at0 s2, at_of i0 rfl, slz rfl, fun p2 hp2 => ?_⟩
    have s3 := s2.trans (same_new (o := .tup [.str "let", .str "match"]) hp2)
    have gp2 := upd_same (H := H2) (a := p2) (o := .tup [.str "let", .str "match"])
    change rIn K true _ _ (upd H2 p2 (.tup [.str "let", .str "match"])) _
    generalize upd H2 p2 (.tup [.str "let", .str "match"]) = H3 at s3 gp2 ⊢
    refine ⟨p2, _, rfl, .inr (SqT.of gp2), rfl, rfl, _, rfl, ?_⟩
    have e2 : inV (.str wd) [V.str "let", V.str "match"] = decide (wd ∈ [("let" : Str), "match"]) := inV_words wd ["let", "match"]
    show if (!inV (.str wd) [V.str "let", V.str "match"]) = true then _ else _
    rw [e2]
    by_cases c5 : wd ∈ [("let" : Str), "match"]
    case neg =>
      have e : isTermD (.tuple [.str wd, d1, d2]) = false := one_three cu cg (fun e => c5 (by rw [e]; simp)) (fun e => c5 (by rw [e]; simp))
      exact iT (by rw [decide_eq_false c5]; rfl) (iT rfl (bad e H3 s3))
    refine iF (by rw [decide_eq_true c5]; rfl) ?_
    have hm : wd ≠ "let" → wd = "match" := fun z => (List.mem_cons.mp c5).elim (fun y => absurd y z) List.mem_singleton.mp
    refine ⟨_, rfl, xv, .ty "tuple", .type (tyName dv), .type "tuple", isTup dv, rfl, .ty "tuple", (dxv.kp (kp_same s3)).ty, kit_tup _, _, rfl, ?_⟩
    cases htv : isTup dv with
    | false =>
      refine iT rfl (iT rfl (bad (one_noRows ?_) H3 s3))
      rcases hc with ⟨e, _, rfl⟩ | ⟨e, _, rfl⟩
      · exact .inl ⟨e, htv⟩
      · exact .inr ⟨hm e, htv⟩
    | true =>
    obtain ⟨ds, rfl⟩ : ∃ ds, dv = .tuple ds := by
      cases dv with
      | tuple ds => exact ⟨ds, rfl⟩
      | _ => cases htv
    refine iF rfl ?_
    obtain ⟨ar, ys, rfl, gr, dys⟩ := da_row dxv
    have lys := dys.len
    obtain ⟨hlr, hsr⟩ := shD_tup shv
    have whole : isTermD (.tuple [.str wd, d1, d2]) = if wd = "let" then (!ds.isEmpty && ds.all rowOk2 && diffD (ds.map (nth 0)) && isTermD d2) else (!ds.isEmpty && ds.all rowOk3 && isTermD d1) := by
      rcases hc with ⟨e, _, h2⟩ | ⟨e, _, h2⟩
      · rw [if_pos e, e, ← h2, one_let]
      · rw [if_neg e, hm e, ← h2, one_match]
    refine ⟨_, rfl, slz rfl, fun e3 he3 => ?_⟩
    have s4 := s3.trans (same_new (o := .tup []) he3)
    refine ⟨ar, e3, ys, rfl, rfl, s4 _ _ gr, upd_same, _, rfl, ?_⟩
    generalize upd H3 e3 (.tup []) = H4 at s4 ⊢
    by_cases c6 : ys = []
    · have c7 : ds = [] := List.length_eq_zero_iff.mp (by rw [← lys, c6]; rfl)
      have e : isTermD (.tuple [.str wd, d1, d2]) = false := by
        rw [whole, c7]
        split <;> rfl
      exact iT (by rw [c6]; rfl) (bad e H4 s4)
    refine iF (by cases ys <;> first | rfl | exact absurd rfl c6) ?_
    have hne : ds.isEmpty = false := by
      cases ds with
      | nil => exact absurd (List.length_eq_zero_iff.mp lys) c6
      | cons _ _ => rfl
    refine ⟨_, rfl, ad, _, 0, _, rfl, rfl, at0 s4, at_of i0 rfl, rfl, _, rfl, ?_⟩
    refine' key_sz (C := fun z => wd = "let" ∧ z = .int 2 ∨ wd ≠ "let" ∧ z = .int 3) (fun h => ?_) (fun zs hzs => ?_)
    rotate_left
    · by_cases cl : wd = "let"
      · refine iT (str_eqT cl) ?_
        refine viaC fun z hz => ?_
        exact h z (.inl ⟨cl, hz⟩)
      · refine iF (str_eqF cl) ?_
        refine viaC fun z hz => ?_
        exact h z (.inr ⟨cl, hz⟩)
    obtain ⟨sz, rfl, hsz⟩ : ∃ sz : Nat, zs = .int (sz : Nat) ∧ (wd = "let" ∧ sz = 2 ∨ wd ≠ "let" ∧ sz = 3) := by
      rcases hzs with ⟨e, rfl⟩ | ⟨e, rfl⟩
      · exact ⟨2, rfl, .inl ⟨e, rfl⟩⟩
      · exact ⟨3, rfl, .inr ⟨e, rfl⟩⟩
    have badrow : ∀ d ∈ ds, rowOkN sz d = false → isTermD (.tuple [.str wd, d1, d2]) = false := fun d hd e => by
      rw [whole]
      rcases hsz with ⟨h1, rfl⟩ | ⟨h1, rfl⟩
      · rw [if_pos h1, all_false hd (by rw [← rowOkN2]; exact e)]
        simp
      · rw [if_neg h1, all_false hd (by rw [← rowOkN3]; exact e)]
        simp
    refine ⟨_, rfl, ar, rfl, ⟨_, SqT.of (s4 _ _ gr)⟩, for_it walk_tup (fun i σ H' => Same H H' ∧ (∃ v3, σ = [some (.ref ad), some (.ref ar), some (.int (sz : Nat)), v3]) ∧ (ds.take i).all (rowOkN sz) = true) ⟨s4, ⟨_, rfl⟩, rfl⟩ (fun i σ H' _ h => SqT.of (h.1 _ _ gr)) ?_ ?_⟩
    · rintro i y σ H5 H6 hi ⟨s5, ⟨v3, rfl⟩, hall⟩ ⟨rfl, ey⟩
      obtain ⟨e, he, de⟩ := da_at dys ey
      have me := List.mem_of_getElem? he
      have she := shL_mem hsr me
      have bad' : rowOkN sz e = false → ∀ H', Same H H' → Q (.bl false) H' := fun z => bad (badrow e me z)
      refine ⟨_, rfl, y, .ty "tuple", .type (tyName e), .type "tuple", isTup e, rfl, .ty "tuple", (de.kp (kp_same s5)).ty, kit_tup _, _, rfl, ?_⟩
      cases hte : isTup e with
      | false =>
        refine iT rfl (iT rfl (bad' ?_ H6 s5))
        have : rowD sz e = false := by cases e <;> first | rfl | cases hte
        unfold rowOkN
        rw [this]
        rfl
      | true =>
      obtain ⟨ws, rfl⟩ : ∃ ws, e = .tuple ws := by
        cases e with
        | tuple ws => exact ⟨ws, rfl⟩
        | _ => cases hte
      refine iF rfl ?_
      obtain ⟨ay, qs, rfl, gy, dq⟩ := da_row de
      have lq := dq.len
      refine ⟨_, rfl, .ref ay, _, rfl, .inr ⟨_, SqT.of (s5 _ _ gy), rfl⟩, _, rfl, rfl, _, rfl, ?_⟩
      by_cases cz : qs.length = sz
      case neg =>
        refine iT (by rw [Bool.not_eq_true']; exact decide_eq_false fun z => cz (by injection z with z; omega)) (iT rfl (bad' ?_ H6 s5))
        have : rowD sz (.tuple ws) = false := decide_eq_false fun z => cz (by omega)
        unfold rowOkN
        rw [this]
        rfl
      have rw1 : rowD sz (.tuple ws) = true := decide_eq_true (by omega)
      refine iF (by rw [cz, decide_eq_true rfl]; rfl) ?_
      have s2 : 2 ≤ sz := by rcases hsz with ⟨_, rfl⟩ | ⟨_, rfl⟩ <;> omega
      obtain ⟨w0, wr, rfl⟩ : ∃ w0 wr, ws = w0 :: wr := by
        cases ws with
        | nil =>
          rw [List.length_nil] at lq
          omega
        | cons a b => exact ⟨a, b, rfl⟩
      obtain ⟨q0, qr, rfl, dq0, dqr⟩ := daAll_cons dq
      obtain ⟨hlw, hsw⟩ := shD_tup she
      have gy5 := s5 _ _ gy
      refine ⟨_, rfl, ay, _, 0, _, rfl, rfl, SqT.of gy5, at_of i0 rfl, t, q0, w0, rfl, dq0.kp (kp_same s5), shL_mem hsw (by simp), fun H7 s6 => ⟨_, rfl, ?_⟩⟩
      have S6 := s5.trans s6
      have e0 : nth 0 (.tuple (w0 :: wr)) = w0 := rfl
      cases hn0 : isNameD w0 with
      | false =>
        refine iT rfl (iT rfl (bad' ?_ H7 S6))
        unfold rowOkN
        rw [e0, hn0, Bool.and_false]
        rfl
      | true =>
      refine iF rfl ?_
      have lw : sz - 1 < (q0 :: qr).length := by omega
      obtain ⟨wk, hwk, dwk⟩ := da_at dq (List.getElem?_eq_getElem lw)
      have ewk : nth (sz - 1) (.tuple (w0 :: wr)) = wk := by
        unfold nth
        show (w0 :: wr).getD (sz - 1) .none = wk
        rw [List.getD_eq_getElem?_getD, hwk]
        rfl
      have mwk := List.mem_of_getElem? hwk
      have nwk : Nst n wk := (nv.memW me).memW mwk
      refine ⟨_, rfl, _, rfl, _, _, rfl, rfl, ay, _, _, _, rfl, rfl, SqT.of (S6 _ _ gy), at_of (show ((sz : Nat) : Int) - 1 = ((sz - 1 : Nat) : Int) by omega) (List.getElem?_eq_getElem lw), t, _, wk, rfl, dwk.kp (kp_same S6), shL_mem hsw mwk, nwk, fun H8 s7 => ⟨_, rfl, ?_⟩⟩
      have S7 := S6.trans s7
      cases ho : isTermD wk with
      | false =>
        refine iT rfl (bad' ?_ H8 S7)
        unfold rowOkN
        rw [ewk, ho, Bool.and_false]
        rfl
      | true =>
      refine iF rfl ?_
      refine ⟨_, rfl, rfl, _, rfl, ?_⟩
      have key : rowOkN sz (.tuple (w0 :: wr)) = if sz = 3 then namesOkD (nth 1 (.tuple (w0 :: wr))) else true := by
        unfold rowOkN
        rw [rw1, e0, hn0, ewk, ho]
        rfl
      have tk : (ds.take (i + 1)).all (rowOkN sz) = rowOkN sz (.tuple (w0 :: wr)) := by
        rw [List.take_add_one, he, List.all_append, hall]
        simp
      by_cases c33 : sz = 3
      case neg =>
        refine iF (decide_eq_false fun z => c33 (by injection z with z; omega)) ?_
        refine iF rfl ?_
        refine ⟨S7, ⟨_, rfl⟩, ?_⟩
        rw [tk, key, if_neg c33]
      refine iT (decide_eq_true (by rw [c33]; rfl)) ?_
      rw [if_pos c33] at key
      have lw1 : 1 < (q0 :: qr).length := by omega
      obtain ⟨w1, hw1, dw1⟩ := da_at dq (List.getElem?_eq_getElem lw1)
      have ew1 : nth 1 (.tuple (w0 :: wr)) = w1 := by
        unfold nth
        show (w0 :: wr).getD 1 .none = w1
        rw [List.getD_eq_getElem?_getD, hw1]
        rfl
      rw [ew1] at key
      refine ⟨_, rfl, ay, _, 1, _, rfl, rfl, SqT.of (S7 _ _ gy), at_of (show (1 : Int) = ((1 : Nat) : Int) from rfl) (List.getElem?_eq_getElem lw1), t, _, w1, rfl, dw1.kp (kp_same S7), shL_mem hsw (List.mem_of_getElem? hw1), fun H9 s8 => ⟨_, rfl, ?_⟩⟩
      have S8 := S7.trans s8
      cases ha : namesOkD w1 with
      | false => exact iT rfl (bad' (by rw [key, ha]) H9 S8)
      | true =>
        refine iF rfl ⟨S8, ⟨_, rfl⟩, ?_⟩
        rw [tk, key, ha]
    · rintro σ H5 ⟨s5, ⟨v3, rfl⟩, hall⟩
      rw [lys, List.take_length] at hall
      refine ⟨_, rfl, rfl, _, rfl, ?_⟩
      rcases hsz with ⟨h1, rfl⟩ | ⟨h1, rfl⟩
      · refine iT rfl ?_
        obtain ⟨_, _, hd2⟩ : wd = "let" ∧ V.ref ar = x1 ∧ .tuple ds = d1 := by
          rcases hc with h | ⟨e, _⟩
          · exact h
          · exact absurd h1 e
        have ew : isTermD (.tuple [.str wd, d1, d2]) = (diffD (ds.map (nth 0)) && isTermD d2) := by
          have ha2 : ds.all rowOk2 = true := by
            rw [← hall]
            congr 1
            exact funext fun d => (rowOkN2 d).symm
          rw [whole, if_pos h1, hne, ha2]
          rfl
        rw [ew] at kk
        have S5 := s5
        refine ⟨_, rfl, ar, rfl, ⟨_, SqT.of (s5 _ _ gr)⟩, fun D hD => lc_it walk_tup (fun i H' => Same H5 H' ∧ ∃ us, H' D = some (.lst us) ∧ DaAll t H us ((ds.take i).map (nth 0))) ⟨same_new hD, [], upd_same, .nil⟩ (fun i H' _ h => SqT.of (h.1 _ _ (s5 _ _ gr))) ?_ ?_⟩
        · rintro i y H6 H7 hi ⟨s6, us, g6, k6⟩ ⟨rfl, ey⟩
          obtain ⟨e, he, de⟩ := da_at dys ey
          have oke := List.all_eq_true.mp hall e (List.mem_of_getElem? he)
          rw [rowOkN2] at oke
          unfold rowOk2 at oke
          simp only [Bool.and_eq_true] at oke
          have rD := oke.1.1
          obtain ⟨ws, rfl⟩ : ∃ ws, e = .tuple ws := by
            cases e with
            | tuple ws => exact ⟨ws, rfl⟩
            | _ => cases rD
          have lws : ws.length = 2 := of_decide_eq_true rD
          obtain ⟨w0, w1, rfl⟩ := len_two lws
          obtain ⟨ay, qs, rfl, gy, dq⟩ := da_row de
          obtain ⟨q0, qr, rfl, dq0, dqr⟩ := daAll_cons dq
          have lu : us.length ≤ 1000 := by
            rw [k6.len, List.length_map, List.length_take]
            omega
          refine ⟨rfl, ?_⟩
          refine ⟨_, rfl, ay, _, 0, _, rfl, rfl, SqT.of (s6 _ _ (s5 _ _ gy)), at_of i0 rfl, us, g6, szl (by omega), fun b o e => ?_, us ++ [q0], upd_same, ?_⟩
          · rw [upd_ne (ne_of_none e hD)]
            exact s6 _ _ e
          · rw [List.take_add_one, he, List.map_append]
            exact k6.app (.cons dq0 .nil)
        rintro H6 ⟨s6, us, g6, k6⟩
        rw [lys, List.take_length] at k6
        have S6 := s5.trans s6
        refine ⟨D, _, rfl, .inl ⟨SqL.of g6, fun q hq => ?_⟩⟩
        have s7 := same_new (o := .tup us) hq
        have S7 := S6.trans s7
        have shn : shD (.tuple (ds.map (nth 0))) = true := by
          simp only [shD, Bool.and_eq_true, decide_eq_true_eq]
          exact ⟨by rw [List.length_map]; exact hlr, shL_map fun d hd => shD_nth (shL_mem hsr hd)⟩
        refine ⟨t, .ref q, .tuple (ds.map (nth 0)), rfl, .tup upd_same (k6.kp (kp_same S7)), shn, fun H8 s8 => ⟨_, rfl, ?_⟩⟩
        have S8 := S7.trans s8
        have en : namesOkD (.tuple (ds.map (nth 0))) = diffD (ds.map (nth 0)) := rfl
        rw [en]
        cases hdf : diffD (ds.map (nth 0)) with
        | false =>
          rw [hdf] at kk
          exact iF rfl (kk H8 S8)
        | true =>
          rw [hdf, Bool.true_and] at kk
          refine iT rfl ?_
          exact ⟨_, rfl, ad, _, 2, _, rfl, rfl, at0 S8, rfl, t, x2, d2, rfl, dd2.kp (kp_same S8), sh2, n2, fun H9 s9 => kk H9 (S8.trans s9)⟩
      · refine iF rfl ?_
        obtain ⟨_, rfl, hd2⟩ : wd ≠ "let" ∧ V.ref ar = x2 ∧ .tuple ds = d2 := by
          rcases hc with ⟨e, _⟩ | h
          · exact absurd e h1
          · exact h
        refine ⟨_, rfl, ad, _, 1, _, rfl, rfl, at0 s5, rfl, t, x1, d1, rfl, dd1.kp (kp_same s5), sh1, n1, fun H6 s6 => ?_⟩
        have e : isTermD (.tuple [.str wd, d1, d2]) = isTermD d1 := by
          rw [whole, if_neg h1, hne, show ds.all rowOk3 = true from hall]
          rfl
        rw [e] at kk
        exact kk H6 (s5.trans s6)
end
end L3

/-! defs that are called where nothing is being shown: they may ask repr -/
namespace L3
open PySem PySem.Spec PyProof.Rows L2
def FnG (P : Program) (w : World) (K : PySem.W.Frag) (mg : Str → Option Value) (base : Heap) (k : Nat) (f : Addr) (sp : Sp) : Prop :=
  ∀ (A : Around) (outer : List Env) (s : Shared) (H : Hp) (us : List Value) (vs : List V) (Q : VK), Room k A → A.guards = some [] → Env0 P w K mg base A outer s H → Vals vs us → sp vs H Q E0 →
    codeAny (model P w) A (.call (.ref f) ⟨us, []⟩) (CR CX0 outer P w H s Q E0) s
structure KnG (P : Program) (w : World) (K : PySem.W.Frag) (mg : Str → Option Value) (base : Heap) (k : Nat) (x : Str) (sp : Sp) : Prop where
  ex : ∃ (f : Addr), FnG P w K mg base k f sp ∧ mg x = some (.ref f) ∧ PySem.W.keepIn K (.ref f) = true
section
variable {X : Cx} {x : Str} {k : Nat} {sp : Sp} {e : Expr} {es : List Expr} {t : TA} {p pos : Pos}
def tCallG (sp : Sp) (t : TA) : TE := fun σ H Q => t σ H fun vs H1 => sp vs H1 Q E0
theorem pe_kg (D : KnG X.prog X.w X.K X.mg X.base k x sp) (hr : Room k X.A) (h0 : X.A.guards = some []) (ha : PA X (e :: es) t) (hg : Gl X x := by rfl) (hdb : (x == ("__debug__" : Str)) = false := by decide)
    (he : starEach (e :: es) X.env = (false, eval e X.env) :: starEach es X.env := by rfl) (hpl : (backTo pos (starEach es X.env)).any (·.1) = false := by rfl) :
    PE X (.Call (.Name x p) (e :: es) [] pos) (tCallG sp t) := by
  obtain ⟨f, F, hm, hk⟩ := D.ex
  refine ⟨fun pins s σ H Q I h => ?_⟩
  refine wpAny_Call_Name_kw (ld_glob I hg hm ?_ hdb)
  refine PySem.W.callWith_K (h₀ := X.base) I.ok.mod.kin hk (thn (ha.run pos pins s σ H _ I h) fun us s1 ⟨vs, H1, I1, r, q⟩ => ⟨I1.kIn, ?_⟩) he hpl
  refine wpAny_call (codeAny_mono (F X.A X.stack s1 H1 us vs Q hr h0 I1.env0 r q) fun r' s' hq => ?_)
  cases r' with
  | error e => exact pass0 pins σ H1 s1 e s' I1 hq
  | ok fl =>
    cases fl with
    | ret u => exact I1.after hq
    | next => exact hq.elim
    | brk => exact hq.elim
    | cont => exact hq.elim
end
section
variable {P : Program} {w : World} {K : PySem.W.Frag} {mg : Str → Option Value} {base : Heap}
theorem fnG_of {qual : Str} {st : Stmt} {f : Addr} {fd : FuncData} {N ps : List Str} {k : Nat} {sp : Sp} (F : Fun K qual qual st f fd) (S : FnScope N ps (defScope st)) (len : ∀ vs H Q E, sp vs H Q E → vs.length = ps.length) (hb : Binds K fd ps [])
    (hbody : ∀ (cdv : Value) (A : Around) (outer : List Env) (s : Shared) (H : Hp) (vs : List V) (Q : VK), Room k (A.deeper (envOfC qual (defScope st) s.heap.objs.size f cdv)) → A.guards = some [] → sp vs H Q E0 →
      ∃ t, PSs (cxOf CX0 P w K mg base N qual (defScope st) f cdv A outer s H E0).nox (defBody st) t ∧ t { nx := fun _ H' => Q .non H', rt := Q } (start N vs) H) : FnG P w K mg base (k + 1) f sp := by
  obtain ⟨oc, od, kV, doc, pm, an, cdv, ct, osl, rfl, lk, hcd⟩ := F.ex
  intro A outer s H us vs Q hr h0 e0 rv hsp
  have inK : K.In s.heap := e0.mod.kin.keeps fun b o z => (e0.bs b o z).1
  have noL : s.heap.NoLimit := e0.mod.nolimit.keeps fun b o z => (e0.bs b o z).1
  have hl := len _ _ _ _ hsp
  have kinds : ∀ y ∈ (ps.zip us : List (Str × Value)), (defScope st).names.lookup y.1 = some .local ∨ ((defScope st).names.lookup y.1 = some .cell ∧ ((cellsFrom (s.heap.objs.size + 1) (defScope st).names []).lookup y.1).isSome = true) := by
    rintro ⟨n, z⟩ hy
    rcases S.par n (List.of_mem_zip hy).1 with q | q
    · exact Or.inl q
    · exact Or.inr ⟨q, PySem.W.cellsFrom_some _ _ _ (Or.inl q)⟩
  have bd : BindsTo s (PySem.W.fnOf qual qual (defArgs st) (defBody st) (defScope st) .none kV doc pm an cdv ct) ⟨us, []⟩ (ps.zip (us ++ [])) := hb s us inK (by rw [List.append_nil, ← rv.length]; exact hl)
  rw [List.append_nil] at bd
  refine codeAny_call_function hr.depth (inK _ _ lk) rfl S.co S.gen rfl (PySem.W.codeRec_of inK hcd) (bd _ _ _ _ ?_)
  refine wpAny_newFunctionEnv_cells S.kind kinds fun env he s1 xx => ?_
  subst he
  refine ⟨noL.keeps xx.toInCall.keep, codeAny_func ?_⟩
  obtain ⟨t, ht, hq⟩ := hbody cdv A outer s H vs Q (hr.deeper _) h0 hsp
  have J : Inv (cxOf CX0 P w K mg base N qual (defScope st) f cdv A outer s H E0) [] (start N vs) H s1 := inv_start S hr.hd e0 hl rv xx
  refine wpAny_mono ((PSs.nox ht).run [] s1 (start N vs) H _ J hq) (fun fl s' hs => ?_) (fun e s' hs => hs)
  cases fl with
  | next =>
    obtain ⟨σ', H', J', q⟩ := hs
    exact ⟨V.non, H', J'.os, J'.bare, J'.base, J'.hok, rfl, q⟩
  | ret z =>
    obtain ⟨v', σ', H', J', rz, q⟩ := hs
    exact ⟨v', H', J'.os, J'.bare, J'.base, J'.hok, rz, q⟩
  | brk =>
    obtain ⟨_, _, _, q⟩ := hs
    exact q.elim
  | cont =>
    obtain ⟨_, _, _, q⟩ := hs
    exact q.elim
theorem grd_deep {A : Around} {env : Env} (h : A.guards = some []) : (A.deeper env).guards = some [] := h
end
end L3

/-! repr of a value of any kind, at the law's own level -/
namespace L3
open PySem PySem.Spec PyProof.Rows L2
section
variable {X : Cx}
def rReprV (t : Addr) : List V → Hp → VK → Prop := fun xs H Q => ∃ (v : V) (d : PyData), xs = [v] ∧ Da t H v d ∧ d.showable = true ∧ d.depth ≤ 60 ∧ d.shown.length ≤ sizeLine ∧ (∀ i, d = .int i → i.natAbs.log2 < 1920) ∧ Q (.str d.shown) H
theorem call_reprV (t : Addr) (hg : X.A.guards = some []) (hu : X.A.units + 64 < cLine) : CallR X (.builtin "repr") (rReprV t) := by
  intro pins s σ H xs us Q I r h
  obtain ⟨v, d, rfl, hd, hs, hdep, hsz, hi, q⟩ := h
  obtain ⟨u, rfl, rx⟩ := vals1 r
  have any : ∀ E a, v = .ref a → wpAny (model X.prog X.w) X.A (call (.builtin "repr") [u]) (EP X pins σ Q) E s := fun E a e => by
    subst e
    obtain rfl : u = Value.ref a := rx
    obtain ⟨as, hr, n⟩ := Da.reads I d _ _ hd (show RelV (.ref a) (.ref a) from rfl)
    exact repr_of_reads' hr hs (fun _ => n) hg (by omega) (fun _ _ e => e) (fun h' u tk hk => ⟨.str d.shown, H, I.kept (t' := tk) hk, ⟨u, rfl⟩, q⟩) hsz
  cases d with
  | none =>
    cases hd
    cases (show u = Value.none from rx)
    exact PySem.P.repr_of_none ⟨.str _, H, I.tok _, ⟨_, rfl⟩, q⟩
  | bool b =>
    cases hd
    cases (show u = Value.bool b from rx)
    exact PySem.P.repr_of_bool ⟨.str _, H, I.tok _, ⟨_, rfl⟩, q⟩
  | int i =>
    cases hd
    obtain ⟨k, rfl⟩ := (show ∃ k, u = Value.int i k from rx)
    exact PySem.P.repr_of_int (hi i rfl) ⟨.str _, H, I.tok _, ⟨_, rfl⟩, q⟩
  | str x =>
    cases hd
    obtain ⟨k, rfl⟩ := (show ∃ k, u = Value.str x k from rx)
    exact PySem.P.repr_of_str ⟨.str _, H, I.tok _, ⟨_, rfl⟩, q⟩ hsz
  | list ds => cases id hd with | lst => exact any _ _ rfl
  | tuple ds => cases id hd with | tup => exact any _ _ rfl
  | dict ds => cases id hd with | dct => exact any _ _ rfl
end
end L3

/-! an own exception with fields, caught: isinstance(e, T) in the suite; what its class is -/
namespace L3
open PySem PySem.Spec PyProof.Rows L2
def rIsS (K : PySem.W.Frag) (C a : Addr) (cls : Value) (d : Option Addr) : List V → Hp → VK → Prop := fun xs H Q => ∃ (c : V) (cv : Value) (b : Bool), xs = [.ref a, c] ∧ cls = .ref C ∧ (∃ dd fs, d = some dd ∧ H dd = some (.xd fs)) ∧ (∀ u, RelV c u → u = cv) ∧ PySem.W.kitOne K (.ref C) cv = some b ∧ Q (.bl b) H
theorem call_isS {X : Cx} {a C : Addr} {oe : Obj} {cls : Value} {d : Option Addr} {pn : List (Addr × Obj)} (T : Xr X.K C) (hz : Zc cls d oe) (hf : ∃ vs, oe.data = .fields vs) : CallR (X.suite a ((a, oe) :: pn)) (.builtin "isinstance") (rIsS X.K C a cls d) := by
  intro pins s σ H xs us Q I r ⟨c, cv, b, exs, ec, ⟨dd, fs, ed, ea⟩, hc, e, q⟩
  subst exs
  subst ec
  subst ed
  cases r with
  | cons ra rr =>
    cases rr with
    | cons rc rr =>
      cases rr
      cases ra
      cases hc _ rc
      obtain ⟨ha, _⟩ := I.pin (a, oe) (List.mem_append_left _ List.mem_cons_self)
      obtain ⟨vs, hd⟩ := hf
      have hx : ObjOk X.prog X.w H s.heap dd (.xd fs) := I.hok dd _ ea
      obtain ⟨mA, hns, hr⟩ := hx
      obtain ⟨od, ho, hl⟩ := lookIn_ns hns
      have J : PySem.W.InstAt s.heap a oe C (some od) := ⟨ha, hz.1, by unfold PySem.W.notCls; rw [hd] <;> rfl, by rw [hz.2]; exact ho⟩
      have cl : (PySem.W.clsIn X.K C).isSome = true := by
        obtain ⟨cd, h1, _⟩ := PySem.W.any_some T.dct
        rw [h1]
        rfl
      exact PySem.W.kia_one (PySem.W.kitx_exc cl T.ga T.gg T.sb T.cl T.gs T.tk T.ob) I.kIn J e (fun z => nomatch z) fun tk => ⟨.bl b, H, I.kept (t' := tk) fun _ _ z => z, rfl, q⟩
theorem Xr.xf {K : PySem.W.Frag} {C : Addr} (R : Xr K C) : XfC K C := ⟨R.ga, R.gg, R.sb, R.dct⟩
theorem call_reprAny {X : Cx} (hg : X.A.guards = some []) (hu : X.A.units + 64 < cLine) : CallR X (.builtin "repr") (fun xs H Q => ∃ t, rReprV t xs H Q) :=
  fun pins s σ H xs us Q I r ⟨t, h⟩ => call_reprV t hg hu pins s σ H xs us Q I r h
/-- an own class in its own except clause -/
theorem exm_self {K : PySem.W.Frag} {C : Addr} {bm : List Value} (R : Xr K C) (h : ∃ cd, PySem.W.clsIn K C = some cd ∧ cd.mro = .ref C :: bm) (ty : PySem.W.typeIn K (.ref C) = some (.type "type")) : PySem.W.exmOne K (.ref C) (.ref C) = some true := by
  refine PySem.W.exm_ref R.sb R.dct ty ?_
  obtain ⟨cd, e1, e2⟩ := h
  unfold PySem.W.subIn
  dsimp only
  unfold PySem.W.mroIn
  rw [e1, Option.bind_some, e2]
  show some (List.contains (Value.ref C :: bm) (.ref C)) = some true
  rw [List.contains_cons]
  simp
theorem kit_base {K : PySem.W.Frag} {C : Addr} {bm : List Value} {T : String} (h : ∃ cd, PySem.W.clsIn K C = some cd ∧ cd.mro = .ref C :: bm) (hm : PySem.W.kitMeta T = true) (hb : bm.contains (.type T) = true) : PySem.W.kitOne K (.ref C) (.type T) = some true := by
  obtain ⟨cd, e1, e2⟩ := h
  unfold PySem.W.kitOne
  rw [if_neg (by simp)]
  unfold PySem.W.kitCls
  dsimp only
  rw [if_pos hm]
  unfold PySem.W.subIn
  dsimp only
  unfold PySem.W.mroIn
  rw [e1, Option.bind_some, e2]
  show some (List.contains (Value.ref C :: bm) (.type T)) = some true
  rw [List.contains_cons, hb]
  simp
end L3

/-! defs that may raise, known by their names, with or without a star parameter -/
namespace L3
open PySem PySem.Spec PyProof.Rows L2 StX
structure KnX (P : Program) (w : World) (K : PySem.W.Frag) (mg : Str → Option Value) (base : Heap) (k : Nat) (x : Str) (ps : List Str) (sp : Sp) : Prop where
  ex : ∃ (f : Addr) (fd : FuncData), FnOk P w K mg base (L2.CX P w) k f fd ps sp ∧ mg x = some (.ref f) ∧ PySem.W.keepIn K (.ref f) = true ∧ Binds K fd ps []
structure KnSX (P : Program) (w : World) (K : PySem.W.Frag) (mg : Str → Option Value) (base : Heap) (k : Nat) (x : Str) (sp : Sp) : Prop where
  ex : ∃ (f : Addr), FnR P w K mg base (L2.CX P w) k f sp ∧ mg x = some (.ref f) ∧ PySem.W.keepIn K (.ref f) = true
theorem Fun.knX {K : PySem.W.Frag} {P : Program} {w : World} {mg : Str → Option Value} {base : Heap} {x : Str} {st : Stmt} {f : Addr} {fd : FuncData} {k : Nat} {ps : List Str} {sp : Sp} (F : Fun K x x st f fd) (hm : mg x = some (.ref f)) (h : FnOk P w K mg base (L2.CX P w) k f fd ps sp)
    (b : ∀ (kV doc pm : Value) (an : Option Addr) (cdv ct : Value) (us : List Value), us.length = ps.length → bindArgs (PySem.W.fnOf x x (defArgs st) (defBody st) (defScope st) .none kV doc pm an cdv ct) ⟨us, []⟩ = pure (ps.zip us)) : KnX P w K mg base k x ps sp :=
  ⟨f, fd, h, hm, F.kp, F.binds b⟩
section
variable {X : Cx} {x : Str} {k : Nat} {ps : List Str} {sp : Sp} {e : Expr} {es : List Expr} {t : TA} {p pos : Pos} {E : XK}
theorem pe_knX (D : KnX X.prog X.w X.K X.mg X.base k x ps sp) (hr : Room k X.A) (tk : Takes X (fun cls d _ H => E cls d H)) (ha : PA X (e :: es) t) (hg : Gl X x := by rfl) (hdb : (x == ("__debug__" : Str)) = false := by decide)
    (he : starEach (e :: es) X.env = (false, eval e X.env) :: starEach es X.env := by rfl) (hpl : (backTo pos (starEach es X.env)).any (·.1) = false := by rfl) :
    PE X (.Call (.Name x p) (e :: es) [] pos) (tCall sp [] E t) := by
  obtain ⟨f, fd, F, hm, hk, hb⟩ := D.ex
  exact pe_call F hr hg hm hk hb .nil (passes_call tk fun _ _ _ _ h => h) ha hdb he hpl
def tCallRX (sp : Sp) (E : XK) (t : TA) : TE := fun σ H Q => t σ H fun vs H1 => sp vs H1 Q E
theorem pe_ksX (D : KnSX X.prog X.w X.K X.mg X.base k x sp) (hr : Room k X.A) (tk : Takes X (fun cls d _ H => E cls d H)) (ha : PA X (e :: es) t) (hg : Gl X x := by rfl) (hdb : (x == ("__debug__" : Str)) = false := by decide)
    (he : starEach (e :: es) X.env = (false, eval e X.env) :: starEach es X.env := by rfl) (hpl : (backTo pos (starEach es X.env)).any (·.1) = false := by rfl) :
    PE X (.Call (.Name x p) (e :: es) [] pos) (tCallRX sp E t) := by
  obtain ⟨f, F, hm, hk⟩ := D.ex
  refine ⟨fun pins s σ H Q I h => ?_⟩
  refine wpAny_Call_Name_kw (ld_glob I hg hm ?_ hdb)
  refine PySem.W.callWith_K (h₀ := X.base) I.ok.mod.kin hk (thn (ha.run pos pins s σ H _ I h) fun us s1 ⟨vs, H1, I1, r, q⟩ => ⟨I1.kIn, ?_⟩) he hpl
  exact wpAny_call (run_fnR F hr (passes_call tk fun _ _ _ _ h => h) I1 r q)
end
section
variable {P : Program} {w : World} {K : PySem.W.Frag} {mg : Str → Option Value} {base : Heap}
theorem fn_starX {x qual pv : Str} {st : Stmt} {f : Addr} {fd : FuncData} {N ps : List Str} {k : Nat} {sp : Sp} (F : Fun K x qual st f fd) (S : FnScope N (ps ++ [pv]) (defScope st))
    (hb : ∀ (kV doc pm : Value) (an : Option Addr) (cdv ct : Value) (us rest : List Value), us.length = ps.length → bindArgs (PySem.W.fnOf x qual (defArgs st) (defBody st) (defScope st) .none kV doc pm an cdv ct) ⟨us ++ rest, []⟩ = (newTuple rest >>= fun t => pure (ps.zip us ++ [(pv, t)])))
    (hbody : ∀ (cdv : Value) (A : Around) (outer : List Env) (s : Shared) (H : Hp) (vs : List V) (Q : VK) (E : XK), Room k (A.deeper (envOfC qual (defScope st) s.heap.objs.size f cdv)) → sp vs H Q E →
      ∃ t, PSs (cxOf (L2.CX P w) P w K mg base N qual (defScope st) f cdv A outer s H E) (defBody st) t ∧ t { nx := fun _ H' => Q .non H', rt := Q } (start N vs) H) : FnR P w K mg base (L2.CX P w) (k + 1) f (spStar ps.length sp) := by
  obtain ⟨oc, od, kV, doc, pm, an, cdv, ct, osl, rfl, lk, hcd⟩ := F.ex
  exact fn_star lk hcd S cxUp (hb kV doc pm an cdv ct) fun A outer s H vs Q E hr h => hbody cdv A outer s H vs Q E hr h
end
end L3

namespace L3
open PySem L2 StX LamX
/-- a value that can be shown -/
structure ShowOk (d : PyData) : Prop where
  sh : d.showable = true
  dep : d.depth ≤ 60
  len : d.shown.length ≤ 100000
  ni : ∀ i, d = .int i → i.natAbs.log2 < 1920
/-- a call of a def that raises: what is wanted of an exception may ask the variables -/
def tCallW (sp : Sp) (W : WX) (t : TA) : TE := fun σ H Q => t σ H fun vs H1 => sp vs H1 Q fun cls d H' => W cls d σ H'
theorem pe_knXS {X : Cx} {x : Str} {k : Nat} {ps : List Str} {sp : Sp} {e : Expr} {es : List Expr} {t : TA} {p pos : Pos} {W : WX} (D : KnX X.prog X.w X.K X.mg X.base k x ps sp) (hr : Room k X.A) (tk : Takes X W) (ha : PA X (e :: es) t) (hg : Gl X x := by rfl) (hdb : (x == ("__debug__" : Str)) = false := by decide)
    (he : starEach (e :: es) X.env = (false, eval e X.env) :: starEach es X.env := by rfl) (hpl : (backTo pos (starEach es X.env)).any (·.1) = false := by rfl) :
    PE X (.Call (.Name x p) (e :: es) [] pos) (tCallW sp W t) := by
  obtain ⟨f, fd, F, hm, hk, hb⟩ := D.ex
  refine ⟨fun pins s σ H Q I h => ?_⟩
  refine wpAny_Call_Name_kw (ld_glob I hg hm ?_ hdb)
  refine PySem.W.callWith_K (h₀ := X.base) I.ok.mod.kin hk (thn (ha.run pos pins s σ H _ I h) fun us s1 ⟨vs, H1, I1, r, q⟩ => ⟨I1.kIn, ?_⟩) he hpl
  have hl : (us ++ []).length = ps.length := by rw [List.append_nil, ← r.length]; exact F.len _ _ _ _ q
  have r2 : Vals vs (us ++ []) := by rw [List.append_nil]; exact r
  refine wpAny_call (codeAny_mono (F.run X.A X.stack s1 H1 ⟨us, []⟩ (us ++ []) vs Q _ hr I1.env0 (hb s1 us I1.kIn hl) r2 q) fun r' s' hq => ?_)
  cases r' with
  | error e => exact tk e s' (XE.of_call I1 (fun cls d H' h => h) hq)
  | ok fl =>
    cases fl with
    | ret u => exact I1.after hq
    | next => exact False.elim hq
    | brk => exact False.elim hq
    | cont => exact False.elim hq
section
variable {P : Program} {w : World} {K : PySem.W.Frag} {mg : Str → Option Value} {base : Heap}
abbrev s__law_is_outside : Stmt := topS 48
abbrev N__law_is_outside : List Str := ["_law_term_here", "_law_x", "e"]
theorem sc__law_is_outside : FnScope N__law_is_outside ["_law_term_here", "_law_x"] (defScope s__law_is_outside) := ⟨rfl, rfl, rfl, by decide +kernel, rfl, by decide +kernel, by decide +kernel⟩
def spOut : Sp := fun vs H Q _ => ∃ (t : Addr) (v u : V) (m d : PyData), vs = [v, u] ∧ Da t H v m ∧ Trm m ∧ Da t H u d ∧ ShowOk d ∧ atT m d = none ∧ ∀ H', Same H H' → Q (.bl true) H'
theorem ok_out {C : Addr} {f : Addr} {fd : FuncData} (F : Fun K "_law_is_outside" "_law_is_outside" s__law_is_outside f fd) (B : Bl mg) (B9 : Bl9 mg) (hLE : mg "LookupError" = none) (hbn : Binds K fd ["_law_term_here", "_law_x"] []) (hE : E1 P w K mg base "OutOfTerm" "place" mroL "LookupError.__new__" C) (D_part_at : KnX P w K mg base 6 "part_at" ["term", "place"] (spAt C)) : FnG P w K mg base 7 f spOut := by
  refine fnG_of F sc__law_is_outside (fun vs H Q E h => ?_) hbn (fun cdv A outer s H vs Q hr hg0 h => ?_)
  · obtain ⟨t, v, u, m, d, rfl, _⟩ := h
    rfl
  · obtain ⟨t, v, u, m, d, rfl, hd, ho, hu, hsd, hat, k⟩ := h
    have hu64 := hr.units
    have hgd := grd_deep (env := PyProof.Rows.envOfC "_law_is_outside" (defScope s__law_is_outside) s.heap.objs.size f cdv) hg0
    have hr_part_at : Room 6 _ := hr
    have hgl : Gl (cxOf C8.CX0 P w K mg base N__law_is_outside "_law_is_outside" (defScope s__law_is_outside) f cdv A outer s H C8.E0).nox "OutOfTerm" := by rfl
    refine ⟨_, pss_cons (ps_try_as (X := (cxOf C8.CX0 P w K mg base N__law_is_outside "_law_is_outside" (defScope s__law_is_outside) f cdv A outer s H C8.E0).nox) (c := .ref C) (i := 2)
      (tb := fun W => tDrop (tCallW (spAt C) W (tCons (tVar 0) (tCons (tVar 1) tNil))))
      rfl rfl sc__law_is_outside.nd rfl rfl ⟨hgl, by decide, .inl hE.hm⟩ LamX.takes0 (fun W pn xe tk _ => ?_) (fun a oe cls d pn hz hf => pss_one (ps_ret (pe_and (pe_cmpR op_eq
        (pe_callB (call_reprAny hgd hu64) (by rfl) B.repr (by decide +kernel) (pa_cons (pe_xf hE.R.xf hE.no hz hf (pv 2)) pa_nil))
        (pe_callB (call_reprAny hgd hu64) (by rfl) B.repr (by decide +kernel) (pa_cons (pv 1) pa_nil)) (nomark _))
        (pe_one (pe_callB (call_isS hE.R hz hf) (by rfl) B9.isinstance PyProof.Rows.boot_isinstance (pa_cons (pv 2) (pa_cons (pe_bltn (v := .ty "LookupError") (by rfl) hLE (by decide +kernel) rfl) pa_nil)))))))) (pss_one (ps_ret pe_bl)), ?_⟩
    · exact pss_one (ps_expr (pe_knXS D_part_at hr_part_at tk (pa_cons (pv 0) (pa_cons (pv 1) pa_nil))))
    · refine ⟨_, rfl, _, rfl, t, v, u, m, d, rfl, hd, ho, hu, fun H' r m' s' e => (by rw [hat] at e; cases e), fun _ H1 dx s1 gx => ?_⟩
      refine ⟨true, exm_self hE.R hE.cd hE.ty, fun _ a ha => ?_, fun z => by cases z⟩
      have du : Da t H1 u d := hu.kp (kp_same s1)
      have hz : d.shown.length ≤ sizeLine := by
        rw [sizeLine_eq]
        have := hsd.len
        omega
      refine ⟨_, rfl, rfl, rfl, dx, _, u, rfl, gx, rfl, t, u, d, rfl, du, hsd.sh, hsd.dep, hz, hsd.ni, _, rfl, t, u, d, rfl, du, hsd.sh, hsd.dep, hz, hsd.ni, rfl, ?_⟩
      refine ⟨_, rfl, iT (decide_eq_true rfl) ?_⟩
      refine ⟨_, rfl, .ty "LookupError", .type "LookupError", true, rfl, rfl, ⟨dx, _, rfl, gx⟩, fun u hu => hu, kit_base hE.cd (by decide +kernel) (by decide +kernel), ?_⟩
      exact k H1 s1
end
end L3

/-! how long values of any kind are shown -/
namespace L3
open PySem L2
mutual
def wt : PyData → Nat
  | .list ds => 7 + wtL ds
  | .tuple ds => 7 + wtL ds
  | d => 7 + d.shown.length
def wtL : List PyData → Nat
  | [] => 0
  | d :: ds => 2 + wt d + wtL ds
end
theorem wt_tup (ds : List PyData) : wt (.tuple ds) = 7 + wtL ds := by simp only [wt]
theorem wt_lst (ds : List PyData) : wt (.list ds) = 7 + wtL ds := by simp only [wt]
theorem wtL_cons (d : PyData) (ds : List PyData) : wtL (d :: ds) = 2 + wt d + wtL ds := by simp only [wtL]
theorem wtL_app : ∀ (a b : List PyData), wtL (a ++ b) = wtL a + wtL b
  | [], b => by simp [wtL]
  | d :: a, b => by simp only [List.cons_append, wtL_cons, wtL_app a b]; omega
theorem wt_low (d : PyData) : 7 ≤ wt d := by cases d <;> simp only [wt] <;> omega
theorem wtL_len : ∀ (a : List PyData), a.length ≤ wtL a
  | [] => Nat.le_refl _
  | d :: a => by
    have := wtL_len a
    rw [wtL_cons, List.length_cons]
    omega
mutual
theorem shown_wt : ∀ (d : PyData), d.shown.length ≤ wt d
  | .none => by simp only [wt]; omega
  | .bool _ => by simp only [wt]; omega
  | .int _ => by simp only [wt]; omega
  | .str _ => by simp only [wt]; omega
  | .dict _ => by simp only [wt]; omega
  | .list ds => by
    have h := listText_len_le (PyData.shownAll ds)
    have g := shownAll_wt ds
    simp only [PyData.shown, wt]
    omega
  | .tuple ds => by
    have h := tupleText_len_le (PyData.shownAll ds)
    have g := shownAll_wt ds
    simp only [PyData.shown, wt]
    omega
theorem shownAll_wt : ∀ (ds : List PyData), ((PyData.shownAll ds).map (·.length)).sum + 2 * (PyData.shownAll ds).length ≤ wtL ds
  | [] => by simp [PyData.shownAll, wtL]
  | d :: ds => by
    have h := shown_wt d
    have g := shownAll_wt ds
    simp only [PyData.shownAll, wtL, List.map_cons, List.sum_cons, List.length_cons]
    omega
end
theorem wt_kd : ∀ {k : Kd} {n : Nat}, k.fit n → wt k.dat + 300 ≤ 500 * 2 ^ n
  | .var x, n, h => by
    have w : Wok x := by cases n <;> exact h
    have h2 := shown_word w
    have h3 := shown_var
    have : 1 ≤ 2 ^ n := Nat.one_le_two_pow
    show wt (.tuple [.str "var", .str x]) + 300 ≤ _
    rw [wt_tup, wtL_cons, wtL_cons]
    simp only [wt, wtL]
    omega
  | .con x, n, h => by
    have w : Wok x := by cases n <;> exact h
    have h2 := shown_word w
    have h3 := shown_con
    have : 1 ≤ 2 ^ n := Nat.one_le_two_pow
    show wt (.tuple [.str "con", .str x]) + 300 ≤ _
    rw [wt_tup, wtL_cons, wtL_cons]
    simp only [wt, wtL]
    omega
  | .app a b, n, h => by
    obtain ⟨m, rfl, h1, h2⟩ := Kd.fit_app h
    have i1 := wt_kd h1
    have i2 := wt_kd h2
    have h3 := shown_apply
    show wt (.tuple [.str "apply", a.dat, b.dat]) + 300 ≤ _
    rw [wt_tup, wtL_cons, wtL_cons, wtL_cons, Nat.pow_succ]
    simp only [wtL]
    have e : wt (.str "apply") = 7 + (PyData.str "apply").shown.length := by simp only [wt]
    rw [e]
    omega
end L3

/-! literals with an operator in them; a text times a number -/
namespace L3
open PySem PySem.Spec PyProof.Rows L2
/-- a text so often -/
def repS (x : Str) (n : Nat) : Str := ⟨(List.replicate n x.cps).foldl (· ++ ·) #[]⟩
theorem repS_len (x : Str) (n : Nat) : (repS x n).length = x.length * n := by
  have h : ∀ (k : Nat) (acc : Array Nat), ((List.replicate k x.cps).foldl (· ++ ·) acc).size = acc.size + x.length * k := by
    intro k
    induction k with
    | zero => intro acc; simp
    | succ k ih =>
      intro acc
      rw [List.replicate_succ, List.foldl_cons, ih, Array.size_append, Nat.mul_succ]
      show acc.size + x.length + _ = _
      omega
  have := h n #[]
  show ((List.replicate n x.cps).foldl (· ++ ·) #[]).size = _
  rw [this]
  simp
section
variable {X : Cx}
/-- a text that is not empty times a number above 1 -/
def rRepS : R2 := fun x y H Q => ∃ (a : Str) (k : Int), x = .str a ∧ y = .int k ∧ 2 ≤ k ∧ k ≤ 100000 ∧ 1 ≤ a.length ∧ a.length * k.toNat ≤ sizeLine ∧ Q (.str (repS a k.toNat)) H
theorem op_repS : OpR X (binaryOp .Mult) rRepS := by
  intro pins s σ H x y v u Q I rx ry h
  obtain ⟨a, k, rfl, rfl, k2, k3, l1, lz, q⟩ := h
  obtain ⟨t, rfl⟩ := (show ∃ t, v = Value.str a t from rx)
  obtain ⟨t', rfl⟩ := (show ∃ t, u = Value.int k t from ry)
  have n1 : (k == 1 || a.length == 0) = false := by
    rw [Bool.or_eq_false_iff]
    refine ⟨?_, ?_⟩
    · rw [beq_eq_false_iff_ne]
      omega
    · rw [beq_eq_false_iff_ne]
      omega
  refine PySem.P.mul_str ?_ (fun _ _ => ?_) (fun _ _ => ?_) ?_
  · rw [decide_eq_false (by omega), decide_eq_false (by omega)]
    rfl
  · have e : ((a.length * k.toNat : Nat) : Int) = (a.length : Int) * k := by
      rw [Int.natCast_mul, Int.toNat_of_nonneg (by omega)]
    have hz : ((a.length * k.toNat : Nat) : Int) ≤ (sizeLine : Int) := by omega
    rw [sizeLine_eq] at hz
    have : (a.length : Int) ≤ (2 ^ 63 - 1) / k := by
      rw [Int.le_ediv_iff_mul_le (by omega)]
      omega
    omega
  · exact decide_eq_false (by omega)
  · rw [if_neg (by omega), n1, if_neg Bool.false_ne_true]
    refine ⟨?_, ⟨.str (repS a k.toNat), H, I.tok _, ⟨_, rfl⟩, q⟩⟩
    show (repS a k.toNat).length ≤ sizeLine
    rw [repS_len]
    exact lz
end
section
variable {X : Cx} {e e2 : Expr} {pos : Pos} {t : Addr} {i j : Int}
theorem da_int {H : Hp} {v : V} (h : Da t H v (.int i)) : v = .int i := by cases h; rfl
theorem pl_negE (h : PE X e (tLit t (.int i))) : PE X (.UnaryOp .USub e pos) (tLit t (.int (-i))) :=
  (pe_un un_neg h).weak fun σ H Q ⟨ho, q⟩ => ⟨ho, fun H1 v s1 d1 => ⟨i, da_int d1, q H1 _ s1 (.int _)⟩⟩
theorem pl_addI (h : PE X e (tLit t (.int i))) (h2 : PE X e2 (tLit t (.int j))) : PE X (.BinOp e .Add e2 pos) (tLit t (.int (i + j))) :=
  (pe_op op_add h h2).weak fun σ H Q ⟨⟨o, ho⟩, q⟩ => ⟨⟨o, ho⟩, fun H1 v s1 d1 => ⟨⟨o, s1 _ _ ho⟩, fun H2 v2 s2 d2 => ⟨i, j, da_int d1, da_int d2, q H2 _ (s1.trans s2) (.int _)⟩⟩⟩
theorem pl_subI (h : PE X e (tLit t (.int i))) (h2 : PE X e2 (tLit t (.int j))) : PE X (.BinOp e .Sub e2 pos) (tLit t (.int (i - j))) :=
  (pe_op op_sub h h2).weak fun σ H Q ⟨⟨o, ho⟩, q⟩ => ⟨⟨o, ho⟩, fun H1 v s1 d1 => ⟨⟨o, s1 _ _ ho⟩, fun H2 v2 s2 d2 => ⟨i, j, da_int d1, da_int d2, q H2 _ (s1.trans s2) (.int _)⟩⟩⟩
theorem pl_rep {x : Str} {k : Int} (h : PE X e (tC (.str x))) (h2 : PE X e2 (tC (.int k))) (c : 2 ≤ k ∧ k ≤ 100000 ∧ 1 ≤ x.length ∧ x.length * k.toNat ≤ 100000 := by decide) : PE X (.BinOp e .Mult e2 pos) (tLit t (.str (repS x k.toNat))) :=
  (pe_op op_repS h h2).weak fun σ H Q ⟨_, q⟩ => ⟨x, k, rfl, rfl, c.1, c.2.1, c.2.2.1, Nat.le_trans c.2.2.2 (by decide), q H _ (Same.refl H) (.str _)⟩
end
/-- a new list, which is not the table of modules -/
def tLstN (t : TA) : TE := fun σ H Q => t σ H fun xs H1 => xs.length ≤ sizeLine ∧ ∀ p, H1 p = none → p ≠ sysModules → Q (.ref p) (upd H1 p (.lst xs))
theorem pe_lstN {X : Cx} {es : List Expr} {t : TA} {pos : Pos} (h : PA X es t) : PE X (.List es pos) (tLstN t) := by
  refine ⟨fun pins s σ H Q I hq => ?_⟩
  refine wpAny_List_spliced (thn (h.run pos pins s σ H (fun vs H1 => vs.length ≤ sizeLine ∧ ∀ p, H1 p = none → p ≠ sysModules → Q (.ref p) (upd H1 p (.lst vs))) I hq) fun us s1 ⟨xs, H1, I1, r, lz, kk⟩ => ⟨by rw [← r.length]; exact lz, ?_⟩)
  have hf : H1 s1.heap.objs.size = none := I1.hok.fresh (Nat.le_refl _)
  refine ⟨.ref s1.heap.objs.size, upd H1 s1.heap.objs.size (.lst xs), I1.laid (t' := s1.toks) (fun b u e => Heap.get?_push_of_some _ e) (Nat.le_refl _) ?_, rfl, kk _ hf (Nat.ne_of_gt I1.big)⟩
  exact ⟨lz, us, 0, r, Heap.get?_push_size _ rfl⟩
end L3

namespace L3
open PySem PyProof.Rows PySem.Spec L2
/-- a name as the law draws it -/
def NmOk (x : Str) : Prop := Wok x ∧ isNameD (.str x) = true
/-- at most n deep, three parts at most at each place -/
def Drw : Nat → PyData → Prop
  | 0, _ => False
  | n + 1, m => (ptsD m).length ≤ 3 ∧ ∀ p ∈ ptsD m, Drw n p
theorem Drw.dep : ∀ {n : Nat} {m : PyData}, Drw n m → Dep n m
  | 0, _, h => h.elim
  | n + 1, _, h => fun p hp => (h.2 p hp).dep
theorem Drw.mono : ∀ {n k : Nat} {m : PyData}, Drw n m → n ≤ k → Drw k m
  | 0, _, _, h, _ => h.elim
  | n + 1, 0, _, _, l => absurd l (by omega)
  | n + 1, k + 1, _, h, l => ⟨h.1, fun p hp => (h.2 p hp).mono (by omega)⟩
def tz : Nat → Nat
  | 0 => 3
  | n + 1 => 13 + 3 * tz n
def tw : Nat → Nat
  | 0 => 300
  | n + 1 => 800 + 3 * tw n
theorem tz_mono : ∀ {n k : Nat}, n ≤ k → tz n ≤ tz k := by
  intro n k h
  induction h with
  | refl => exact Nat.le_refl _
  | step _ ih =>
    refine Nat.le_trans ih ?_
    simp only [tz]
    omega
theorem tw_mono : ∀ {n k : Nat}, n ≤ k → tw n ≤ tw k := by
  intro n k h
  induction h with
  | refl => exact Nat.le_refl _
  | step _ ih =>
    refine Nat.le_trans ih ?_
    simp only [tw]
    omega
structure GoodT (n : Nat) (m : PyData) : Prop where
  term : isTermD m = true
  sh : shD m = true
  drw : Drw (n + 1) m
  z : psz m ≤ tz n
  w : wt m ≤ tw n
  nst : Nst (3 * n + 3) m
  shw : m.showable = true
  dep : m.depth ≤ 3 * n + 3
theorem GoodT.mono {n k : Nat} {m : PyData} (h : GoodT n m) (l : n ≤ k) : GoodT k m :=
  ⟨h.term, h.sh, h.drw.mono (by omega), Nat.le_trans h.z (tz_mono l), Nat.le_trans h.w (tw_mono l), h.nst.mono (by omega), h.shw, by have := h.dep; omega⟩
theorem drw_leaf {m : PyData} (h : ptsD m = []) : Drw 1 m := ⟨by rw [h]; decide, fun p hp => by rw [h] at hp; cases hp⟩
theorem pts_leaf {w : Str} {d : PyData} (h : isTermD (.tuple [.str w, d]) = true) : ptsD (.tuple [.str w, d]) = [] := by
  have e := one_leaf w d
  rw [h] at e
  unfold leafD at e
  refine pts_of ?_
  show partsW w [d] = some []
  unfold partsW
  by_cases c1 : w = "name"
  · rw [if_pos c1] at e ⊢
    show (if isNameD d = true then some [] else none) = some []
    rw [← e]
    rfl
  rw [if_neg c1] at e ⊢
  by_cases c2 : w = "whole"
  · rw [if_pos c2] at e ⊢
    show (if isWholeD d = true then some [] else none) = some []
    rw [← e]
    rfl
  rw [if_neg c2] at e ⊢
  by_cases c3 : w = "text"
  · rw [if_pos c3] at e ⊢
    show (if isTextD d = true then some [] else none) = some []
    rw [← e]
    rfl
  · rw [if_neg c3] at e
    cases e
theorem wt_nm {x : Str} (h : Wok x) : wt (.str x) ≤ 90 := by
  have := shown_word h
  simp only [wt]
  omega
theorem good_name {x : Str} (h : NmOk x) : GoodT 0 (.tuple [.str "name", .str x]) := by
  have ht : isTermD (.tuple [.str "name", .str x]) = true := (one_leaf "name" (.str x)).trans h.2
  have l8 := h.1.2.1
  have w1 := wt_nm h.1
  refine ⟨ht, ?_, drw_leaf (pts_leaf ht), by simp [psz, pszL, tz], ?_, fun d hd => ?_, by simp [PyData.showable, PyData.showableAll], by simp [PyData.depth, PyData.depthAll]⟩
  · simp only [shD, shL, Bool.and_true, Bool.and_eq_true, decide_eq_true_eq]
    exact ⟨by simp, by decide, by omega⟩
  · rw [wt_tup, wtL_cons, wtL_cons]
    have : wt (.str "name") ≤ 40 := by decide +kernel
    simp only [wtL, tw]
    omega
  · rcases List.mem_cons.mp hd with rfl | hd
    · exact True.intro
    · rw [List.mem_singleton.mp hd]
      exact True.intro
theorem good_lit {w : Str} {d : PyData} (hw : wt (.str w) ≤ 40) (h : leafD w d = true) (hs : shD (.tuple [.str w, d]) = true) (hz : psz d = 1) (hd : wt d ≤ 240) (hn : Nst 1 d) (hsh : d.showable = true) (hdp : d.depth = 0) : GoodT 0 (.tuple [.str w, d]) := by
  have ht : isTermD (.tuple [.str w, d]) = true := (one_leaf w d).trans h
  refine ⟨ht, hs, drw_leaf (pts_leaf ht), ?_, ?_, fun e he => ?_, by simp [PyData.showable, PyData.showableAll, hsh], by simp [PyData.depth, PyData.depthAll, hdp]⟩
  · simp only [psz, pszL, hz, tz]
    omega
  · rw [wt_tup, wtL_cons, wtL_cons]
    simp only [wtL, tw]
    omega
  · rcases List.mem_cons.mp he with rfl | he
    · exact True.intro
    · rw [List.mem_singleton.mp he]
      exact hn.mono (by decide)
theorem good_hole : GoodT 0 (.tuple [.str "hole"]) := by
  refine ⟨(one_hole "hole").trans (decide_eq_true rfl), by decide +kernel, drw_leaf (pts_of rfl), by decide, by decide +kernel, fun d hd => ?_, by decide +kernel, by decide +kernel⟩
  rw [List.mem_singleton.mp hd]
  exact True.intro
theorem tw_ge : ∀ n, 300 ≤ tw n
  | 0 => Nat.le_refl _
  | n + 1 => by
    have := tw_ge n
    simp only [tw]
    omega
theorem good_use {n : Nat} {a b : PyData} (ha : GoodT n a) (hb : GoodT n b) : GoodT (n + 1) (.tuple [.str "use", a, b]) := by
  have wu : wt (.str "use") ≤ 40 := by decide +kernel
  have w1 := ha.w
  have w2 := hb.w
  have z1 := ha.z
  have z2 := hb.z
  have d1 := ha.dep
  have d2 := hb.dep
  refine ⟨?_, ?_, ⟨show [a, b].length ≤ 3 by simp, fun p hp => ?_⟩, ?_, ?_, fun d hd => ?_, by simp [PyData.showable, PyData.showableAll, ha.shw, hb.shw], ?_⟩
  · rw [one_use, ha.term, hb.term]
    rfl
  · simp only [shD, shL, ha.sh, hb.sh, Bool.and_true, Bool.and_eq_true, decide_eq_true_eq]
    exact ⟨by simp, by decide⟩
  · have hp : p ∈ [a, b] := hp
    rcases List.mem_cons.mp hp with rfl | hp
    · exact ha.drw
    · rw [List.mem_singleton.mp hp]
      exact hb.drw
  · simp only [psz, pszL, tz]
    omega
  · rw [wt_tup, wtL_cons, wtL_cons, wtL_cons]
    simp only [wtL, tw]
    omega
  · rcases List.mem_cons.mp hd with rfl | hd
    · exact True.intro
    rcases List.mem_cons.mp hd with rfl | hd
    · exact ha.nst.mono (by omega)
    · rw [List.mem_singleton.mp hd]
      exact hb.nst.mono (by omega)
  · simp only [PyData.depth, PyData.depthAll]
    omega
theorem good_given {n : Nat} {x : Str} {a : PyData} (hx : NmOk x) (ha : GoodT n a) : GoodT (n + 1) (.tuple [.str "given", .str x, a]) := by
  have wu : wt (.str "given") ≤ 40 := by decide +kernel
  have w1 := ha.w
  have w2 := wt_nm hx.1
  have z1 := ha.z
  have d1 := ha.dep
  have l8 := hx.1.2.1
  have e : isTermD (.tuple [.str "given", .str x, a]) = true := by
    rw [one_given, hx.2, ha.term]
    rfl
  have ep : ptsD (.tuple [.str "given", .str x, a]) = [a] := pts_given (pts_some e)
  refine ⟨e, ?_, ⟨by rw [ep]; simp, fun p hp => ?_⟩, ?_, ?_, fun d hd => ?_, by simp [PyData.showable, PyData.showableAll, ha.shw], ?_⟩
  · simp only [shD, shL, ha.sh, Bool.and_true, Bool.and_eq_true, decide_eq_true_eq]
    exact ⟨by simp, by decide, by omega⟩
  · rw [ep, List.mem_singleton] at hp
    rw [hp]
    exact ha.drw
  · simp only [psz, pszL, tz]
    omega
  · rw [wt_tup, wtL_cons, wtL_cons, wtL_cons]
    simp only [wtL, tw]
    omega
  · rcases List.mem_cons.mp hd with rfl | hd
    · exact True.intro
    rcases List.mem_cons.mp hd with rfl | hd
    · exact True.intro
    · rw [List.mem_singleton.mp hd]
      exact ha.nst.mono (by omega)
  · simp only [PyData.depth, PyData.depthAll]
    omega
theorem row_facts {n : Nat} {q : Str × PyData} (hx : NmOk q.1) (ha : GoodT n q.2) : rowOk2 (rowP q) = true ∧ shD (rowP q) = true ∧ psz (rowP q) ≤ 2 + tz n ∧ wt (rowP q) ≤ 110 + tw n ∧ Nst (3 * n + 4) (rowP q) ∧ (rowP q).showable = true ∧ (rowP q).depth ≤ 3 * n + 4 := by
  have w1 := ha.w
  have w2 := wt_nm hx.1
  have z1 := ha.z
  have d1 := ha.dep
  have l8 := hx.1.2.1
  refine ⟨?_, ?_, ?_, ?_, fun d hd => ?_, ?_, ?_⟩
  · show (rowD 2 (.tuple [.str q.1, q.2]) && isNameD (.str q.1) && isTermD q.2) = true
    rw [hx.2, ha.term]
    rfl
  · simp only [rowP, shD, shL, ha.sh, Bool.and_true, Bool.and_eq_true, decide_eq_true_eq]
    exact ⟨by simp, by omega⟩
  · simp only [rowP, psz, pszL]
    omega
  · unfold rowP
    rw [wt_tup, wtL_cons, wtL_cons]
    simp only [wtL]
    omega
  · rcases List.mem_cons.mp hd with rfl | hd
    · exact True.intro
    · rw [List.mem_singleton.mp hd]
      exact ha.nst
  · simp [rowP, PyData.showable, PyData.showableAll, ha.shw]
  · simp only [rowP, PyData.depth, PyData.depthAll]
    omega
theorem good_let {n : Nat} {rs : List (Str × PyData)} {a : PyData} (hr : ∀ q ∈ rs, NmOk q.1 ∧ GoodT n q.2) (nd : (rs.map (·.1)).Nodup) (l1 : 1 ≤ rs.length) (l2 : rs.length ≤ 2) (ha : GoodT n a) : GoodT (n + 1) (.tuple [.str "let", .tuple (rs.map rowP), a]) := by
  have wu : wt (.str "let") ≤ 40 := by decide +kernel
  have w1 := ha.w
  have z1 := ha.z
  have d1 := ha.dep
  have tg := tw_ge n
  have ne : (rs.map rowP).isEmpty = false := by
    cases rs with
    | nil => exact absurd l1 (by simp)
    | cons _ _ => rfl
  have facts : ∀ d ∈ rs.map rowP, rowOk2 d = true ∧ shD d = true ∧ psz d ≤ 2 + tz n ∧ wt d ≤ 110 + tw n ∧ Nst (3 * n + 4) d ∧ d.showable = true ∧ d.depth ≤ 3 * n + 4 := fun d hd => by
    obtain ⟨q, hq, rfl⟩ := List.mem_map.mp hd
    exact row_facts (hr q hq).1 (hr q hq).2
  have dn : diffD ((rs.map rowP).map (nth 0)) = true := by
    rw [row_nth0]
    unfold diffD
    rw [fm_strs, Bool.and_eq_true]
    refine ⟨List.all_eq_true.mpr fun d hd => ?_, decide_eq_true nd⟩
    obtain ⟨x, hx, rfl⟩ := List.mem_map.mp hd
    obtain ⟨q, hq, rfl⟩ := List.mem_map.mp hx
    exact (hr q hq).1.2
  have e : isTermD (.tuple [.str "let", .tuple (rs.map rowP), a]) = true := by
    rw [one_let, ne, dn, ha.term, List.all_eq_true.mpr fun d hd => (facts d hd).1]
    rfl
  have ep := pts_let (pts_some e)
  generalize hR : rs.map rowP = R at facts e ep ne
  have lR : R.length ≤ 2 := by rw [← hR, List.length_map]; exact l2
  have sz : pszL R ≤ 2 * (2 + tz n) ∧ wtL R ≤ 2 * (112 + tw n) ∧ shL R = true ∧ PyData.showableAll R = true ∧ PyData.depthAll R ≤ 3 * n + 4 := by
    match R, lR, facts with
    | [], _, _ => simp [pszL, wtL, shL, PyData.showableAll, PyData.depthAll]
    | [d], _, f =>
      obtain ⟨_, f2, f3, f4, f5, f6, f7⟩ := f d (by simp)
      simp only [pszL, wtL, shL, PyData.showableAll, PyData.depthAll, f2, f6]
      exact ⟨by omega, by omega, rfl, rfl, by omega⟩
    | [d, d'], _, f =>
      obtain ⟨_, f2, f3, f4, f5, f6, f7⟩ := f d (by simp)
      obtain ⟨_, g2, g3, g4, g5, g6, g7⟩ := f d' (by simp)
      simp only [pszL, wtL, shL, PyData.showableAll, PyData.depthAll, f2, f6, g2, g6]
      exact ⟨by omega, by omega, rfl, rfl, by omega⟩
  obtain ⟨s1, s2, s3, s4, s5⟩ := sz
  refine ⟨e, ?_, ⟨by rw [ep, List.length_append, List.length_map]; simp; omega, fun p hp => ?_⟩, ?_, ?_, fun d hd => ?_, by simp [PyData.showable, PyData.showableAll, ha.shw, s4], ?_⟩
  · simp only [shD, shL, ha.sh, s3, Bool.and_true, Bool.and_eq_true, decide_eq_true_eq]
    exact ⟨by simp, by decide, by omega⟩
  · rw [ep] at hp
    rcases List.mem_append.mp hp with hp | hp
    · obtain ⟨q, hq, rfl⟩ := List.mem_map.mp hp
      exact (hr q hq).2.drw
    · rw [List.mem_singleton.mp hp]
      exact ha.drw
  · simp only [psz, pszL, tz]
    omega
  · rw [wt_tup, wtL_cons, wtL_cons, wtL_cons, wt_tup]
    simp only [wtL, tw]
    omega
  · rcases List.mem_cons.mp hd with rfl | hd
    · exact True.intro
    rcases List.mem_cons.mp hd with rfl | hd
    · exact fun d hd => (facts d hd).2.2.2.2.1
    · rw [List.mem_singleton.mp hd]
      exact ha.nst.mono (by omega)
  · simp only [PyData.depth, PyData.depthAll]
    omega
theorem strs_facts {ns : List Str} (h : ∀ x ∈ ns, NmOk x) (l : ns.length ≤ 2) : shD (nmsD ns) = true ∧ psz (nmsD ns) ≤ 3 ∧ wt (nmsD ns) ≤ 200 ∧ (nmsD ns).showable = true ∧ (nmsD ns).depth ≤ 1 := by
  unfold nmsD
  match ns, l, h with
  | [], _, _ => simp [shD, shL, psz, pszL, wt, wtL, PyData.showable, PyData.showableAll, PyData.depth, PyData.depthAll]
  | [x], _, h =>
    have h1 := h x (by simp)
    have w1 := wt_nm h1.1
    have l1 := h1.1.2.1
    refine ⟨?_, by simp [psz, pszL], ?_, by simp [PyData.showable, PyData.showableAll], by simp [PyData.depth, PyData.depthAll]⟩
    · simp only [List.map_cons, List.map_nil, shD, shL, Bool.and_true, Bool.and_eq_true, decide_eq_true_eq]
      exact ⟨by simp, by omega⟩
    · rw [wt_tup, List.map_cons, List.map_nil, wtL_cons]
      simp only [wtL]
      omega
  | [x, y], _, h =>
    have h1 := h x (by simp)
    have w1 := wt_nm h1.1
    have l1 := h1.1.2.1
    have h2 := h y (by simp)
    have w2 := wt_nm h2.1
    have l2 := h2.1.2.1
    refine ⟨?_, by simp [psz, pszL], ?_, by simp [PyData.showable, PyData.showableAll], by simp [PyData.depth, PyData.depthAll]⟩
    · simp only [List.map_cons, List.map_nil, shD, shL, Bool.and_true, Bool.and_eq_true, decide_eq_true_eq]
      exact ⟨by simp, by omega, by omega⟩
    · rw [wt_tup, List.map_cons, List.map_cons, List.map_nil, wtL_cons, wtL_cons]
      simp only [wtL]
      omega
def wholeL : List PyData := [.int 0, .int (-(10 ^ 30)), .int (10 ^ 30), .int 5]
def textL : List PyData := [.str "", .str (repS "a" 200), .str "it's ~"]
end L3

namespace L3
open PySem PyProof.Rows PySem.Spec L2
def ArmOk (n : Nat) (q : Str × List Str × PyData) : Prop := NmOk q.1 ∧ (∀ x ∈ q.2.1, NmOk x) ∧ q.2.1.Nodup ∧ q.2.1.length ≤ 2 ∧ GoodT n q.2.2
theorem arm_facts {n : Nat} {q : Str × List Str × PyData} (h : ArmOk n q) : rowOk3 (armP q) = true ∧ shD (armP q) = true ∧ psz (armP q) ≤ 5 + tz n ∧ wt (armP q) ≤ 320 + tw n ∧ Nst (3 * n + 4) (armP q) ∧ (armP q).showable = true ∧ (armP q).depth ≤ 3 * n + 4 := by
  obtain ⟨hx, hns, nd, ln, ha⟩ := h
  obtain ⟨f1, f2, f3, f4, f5⟩ := strs_facts hns ln
  have w1 := ha.w
  have w2 := wt_nm hx.1
  have z1 := ha.z
  have d1 := ha.dep
  have l8 := hx.1.2.1
  have ea : armP q = .tuple [.str q.1, nmsD q.2.1, q.2.2] := rfl
  refine ⟨?_, ?_, ?_, ?_, fun d hd => ?_, ?_, ?_⟩
  · show (rowD 3 (.tuple [.str q.1, nmsD q.2.1, q.2.2]) && isNameD (.str q.1) && isTermD q.2.2 && namesOkD (nmsD q.2.1)) = true
    have en : namesOkD (nmsD q.2.1) = true := by
      show diffD (q.2.1.map .str) = true
      unfold diffD
      rw [fm_strs, Bool.and_eq_true]
      refine ⟨List.all_eq_true.mpr fun d hd => ?_, decide_eq_true nd⟩
      obtain ⟨x, hx, rfl⟩ := List.mem_map.mp hd
      exact (hns x hx).2
    rw [hx.2, ha.term, en]
    rfl
  · rw [ea]
    simp only [shD, shL, ha.sh, f1, Bool.and_true, Bool.and_eq_true, decide_eq_true_eq]
    exact ⟨by simp, by omega⟩
  · rw [ea]
    simp only [psz, pszL]
    omega
  · rw [ea, wt_tup, wtL_cons, wtL_cons, wtL_cons]
    simp only [wtL]
    omega
  · rcases List.mem_cons.mp hd with rfl | hd
    · exact True.intro
    rcases List.mem_cons.mp hd with rfl | hd
    · refine Nst.mono (n := 2) (fun d hd => ?_) (by omega)
      obtain ⟨x, _, rfl⟩ := List.mem_map.mp hd
      exact True.intro
    · rw [List.mem_singleton.mp hd]
      exact ha.nst
  · rw [ea]
    simp [PyData.showable, PyData.showableAll, ha.shw, f4]
  · rw [ea]
    simp only [PyData.depth, PyData.depthAll]
    omega
theorem good_match {n : Nat} {rs : List (Str × List Str × PyData)} {a : PyData} (hr : ∀ q ∈ rs, ArmOk n q) (l1 : 1 ≤ rs.length) (l2 : rs.length ≤ 2) (ha : GoodT n a) : GoodT (n + 1) (.tuple [.str "match", a, .tuple (rs.map armP)]) := by
  have wu : wt (.str "match") ≤ 40 := by decide +kernel
  have w1 := ha.w
  have z1 := ha.z
  have d1 := ha.dep
  have tg := tw_ge n
  have ne : (rs.map armP).isEmpty = false := by
    cases rs with
    | nil => exact absurd l1 (by simp)
    | cons _ _ => rfl
  have facts : ∀ d ∈ rs.map armP, rowOk3 d = true ∧ shD d = true ∧ psz d ≤ 5 + tz n ∧ wt d ≤ 320 + tw n ∧ Nst (3 * n + 4) d ∧ d.showable = true ∧ d.depth ≤ 3 * n + 4 := fun d hd => by
    obtain ⟨q, hq, rfl⟩ := List.mem_map.mp hd
    exact arm_facts (hr q hq)
  have e : isTermD (.tuple [.str "match", a, .tuple (rs.map armP)]) = true := by
    rw [one_match, ne, ha.term, List.all_eq_true.mpr fun d hd => (facts d hd).1]
    rfl
  have ep := pts_match (pts_some e)
  generalize hR : rs.map armP = R at facts e ep ne
  have lR : R.length ≤ 2 := by rw [← hR, List.length_map]; exact l2
  have sz : pszL R ≤ 2 * (5 + tz n) ∧ wtL R ≤ 2 * (322 + tw n) ∧ shL R = true ∧ PyData.showableAll R = true ∧ PyData.depthAll R ≤ 3 * n + 4 := by
    match R, lR, facts with
    | [], _, _ => simp [pszL, wtL, shL, PyData.showableAll, PyData.depthAll]
    | [d], _, f =>
      obtain ⟨_, f2, f3, f4, f5, f6, f7⟩ := f d (by simp)
      simp only [pszL, wtL, shL, PyData.showableAll, PyData.depthAll, f2, f6]
      exact ⟨by omega, by omega, rfl, rfl, by omega⟩
    | [d, d'], _, f =>
      obtain ⟨_, f2, f3, f4, f5, f6, f7⟩ := f d (by simp)
      obtain ⟨_, g2, g3, g4, g5, g6, g7⟩ := f d' (by simp)
      simp only [pszL, wtL, shL, PyData.showableAll, PyData.depthAll, f2, f6, g2, g6]
      exact ⟨by omega, by omega, rfl, rfl, by omega⟩
  obtain ⟨s1, s2, s3, s4, s5⟩ := sz
  refine ⟨e, ?_, ⟨by rw [ep]; simp; omega, fun p hp => ?_⟩, ?_, ?_, fun d hd => ?_, by simp [PyData.showable, PyData.showableAll, ha.shw, s4], ?_⟩
  · simp only [shD, shL, ha.sh, s3, Bool.and_true, Bool.true_and, Bool.and_eq_true, decide_eq_true_eq]
    exact ⟨by simp, by decide, by omega⟩
  · rw [ep] at hp
    rcases List.mem_cons.mp hp with rfl | hp
    · exact ha.drw
    · obtain ⟨q, hq, rfl⟩ := List.mem_map.mp hp
      exact (hr q hq).2.2.2.2.drw
  · simp only [psz, pszL, tz]
    omega
  · rw [wt_tup, wtL_cons, wtL_cons, wtL_cons, wt_tup]
    simp only [wtL, tw]
    omega
  · rcases List.mem_cons.mp hd with rfl | hd
    · exact True.intro
    rcases List.mem_cons.mp hd with rfl | hd
    · exact ha.nst.mono (by omega)
    · rw [List.mem_singleton.mp hd]
      exact fun d hd => (facts d hd).2.2.2.2.1
  · simp only [PyData.depth, PyData.depthAll]
    omega
theorem good_whole {i : Int} (h : i ∈ [(0 : Int), -(10 ^ 30), 10 ^ 30, 5]) : GoodT 0 (.tuple [.str "whole", .int i]) := by
  have all : ∀ i ∈ [(0 : Int), -(10 ^ 30), 10 ^ 30, 5], leafD "whole" (.int i) = true ∧ shD (.tuple [.str "whole", .int i]) = true ∧ wt (.int i) ≤ 240 ∧ (PyData.int i).showable = true := by decide +kernel
  obtain ⟨a, b, c, d⟩ := all i h
  exact good_lit (by decide +kernel) a b (by simp [psz]) c True.intro d (by simp [PyData.depth])
theorem good_text {x : Str} (h : x ∈ [("" : Str), repS "a" 200, "it's ~"]) : GoodT 0 (.tuple [.str "text", .str x]) := by
  have all : ∀ x ∈ [("" : Str), repS "a" 200, "it's ~"], leafD "text" (.str x) = true ∧ shD (.tuple [.str "text", .str x]) = true ∧ wt (.str x) ≤ 240 := by decide +kernel
  obtain ⟨a, b, c⟩ := all x h
  exact good_lit (by decide +kernel) a b (by simp [psz]) c True.intro (by simp [PyData.showable]) (by simp [PyData.depth])
end L3

namespace L3
open PySem PyProof.Rows PySem.Spec L2
/-- the words that the law draws are names, all different -/
def wokB (x : Str) : Bool := decide (1 ≤ x.length) && decide (x.length ≤ 8) && x.cps.toList.all fun c => decide (97 ≤ c) && decide (c ≤ 122)
theorem wokB_ok {x : Str} (h : wokB x = true) : Wok x := by
  unfold wokB at h
  simp only [Bool.and_eq_true, decide_eq_true_eq, List.all_eq_true] at h
  exact ⟨h.1.1, h.1.2, fun c hc => h.2 c hc⟩
theorem words_all : ∀ rest ∈ rests, ∀ d : Bool, ∀ first, first < 26 → ((lets first 4).map (mkW rest d)).all (fun x => wokB x && isNameD (.str x)) = true ∧ ((lets first 4).map (mkW rest d)).Nodup := by
  have key : rests.all (fun rest => [true, false].all fun d => (List.range 26).all fun first => ((lets first 4).map (mkW rest d)).all (fun x => wokB x && isNameD (.str x)) && decide ((lets first 4).map (mkW rest d)).Nodup) = true := by decide +kernel
  intro rest hrest d first hf
  have h1 := List.all_eq_true.mp key rest hrest
  have h2 := List.all_eq_true.mp h1 d (by cases d <;> simp)
  have h3 := List.all_eq_true.mp h2 first (List.mem_range.mpr hf)
  rw [Bool.and_eq_true, decide_eq_true_eq] at h3
  exact h3
theorem words_ok {rest : Str} (hr : rest ∈ rests) (d : Bool) {first : Nat} (hf : first < 26) : (∀ x ∈ (lets first 4).map (mkW rest d), NmOk x) ∧ ((lets first 4).map (mkW rest d)).Nodup := by
  obtain ⟨h1, h2⟩ := words_all rest hr d first hf
  refine ⟨fun x hx => ?_, h2⟩
  have := List.all_eq_true.mp h1 x hx
  rw [Bool.and_eq_true] at this
  exact ⟨wokB_ok this.1, this.2⟩
end L3

/-! list(d.values()); e that is never reached -/
namespace L3
open PySem PySem.Spec PyProof.Rows L2
/-- an expression that is never reached -/
def tNo : TE := fun _ _ _ => False
theorem pe_no {X : Cx} {e : Expr} : PE X e tNo := ⟨fun _ _ _ _ _ _ h => h.elim⟩
def iNo : TI := fun _ _ _ => False
theorem pi_no {X : Cx} {tg e : Expr} : PI X tg e iNo := ⟨fun _ _ _ _ _ _ h => h.elim⟩
theorem kv_snd {kvs : List (Key × V)} {vs : List (Key × Value)} (h : KV kvs vs) : Vals (kvs.map (·.2)) (vs.map (·.2)) := by
  unfold KV at h
  induction h with
  | nil => exact .nil
  | cons h t ih => exact .cons h.2 ih
def tListVals (te : TE) : TE := fun σ H Q => te σ H fun x H1 => ∃ (d : Addr) (kvs : List (Key × V)), x = .ref d ∧ H1 d = some (.dK kvs) ∧ ∀ l, H1 l = none → Q (.ref l) (upd H1 l (.lst (kvs.map (·.2))))
section
variable {X : Cx} {e : Expr} {te : TE} {p apos cpos pos : Pos}
theorem pe_listVals (hc : X.calm = true) (he : PE X e te) (hg : Gl X "list") (hm : X.mg "list" = none) (hv : bootBuiltins "list" = some (.type "list")) (hbase : attributeBase e "values" X.env (eval e X.env) = eval e X.env := by rfl) (hline : (apos.endLine == cpos.line) = true := by rfl)
    (hs : starEach [.Call (.Attribute e "values" apos) [] [] cpos] X.env = (false, eval (.Call (.Attribute e "values" apos) [] [] cpos) X.env) :: starEach [] X.env := by rfl) :
    PE X (.Call (.Name "list" p) [.Call (.Attribute e "values" apos) [] [] cpos] [] pos) (tListVals te) := by
  refine ⟨fun pins s σ H Q I hq => ?_⟩
  refine wpAny_Call_Name_kw (ld_blt I hg hm hv ?_)
  refine PyProof.Rows.callWith_type1 ?_ hs rfl
  rw [hs]
  show wpAny _ _ (spliced ((false, eval (.Call (.Attribute e "values" apos) [] [] cpos) X.env) :: backTo pos (starEach [] X.env))) _ _ s
  refine Calls.spliced_cons ?_
  refine wpAny_Call_method (T := "dict") (id := "dict.values") hbase rfl hline F.plainAttrs_dict F.slot_dict_values F.type_dict_values (thn (he.run pins s σ H _ I hq) fun u s1 ⟨x, H1, I1, rx, d, kvs, ex, hd, q⟩ => ?_)
  subst ex
  obtain rfl : u = Value.ref d := rx
  obtain ⟨hz, hs0, vs, kv, hdo⟩ := I1.hok d _ hd
  obtain ⟨ep, hat⟩ := hdo.dictAt
  have lk : kvs.length = vs.length := Paired.length kv
  have I2 : Inv X pins σ H1 { s1 with heap := s1.heap.push { cls := .type "dict_values", data := .fields #[.ref d] } } := I1.kept (t' := s1.toks) fun b ob q => Heap.get?_push_of_some _ q
  refine ⟨hdo.typeIs, hdo.mapOf.noDict, ?_⟩
  show wpAny _ _ (callWith cpos (.builtin "dict.values") [.ref d] [] []) _ X.xe s1
  refine method_meetsIn F.slot_dict_values F.entry_dict_values rfl (PySem.evalArgs_none ⟨rfl, hdo.typeIs, F.args_dict_values_1 _, _, meets_dict_values (mixKind X.prog X.w) d hs0, ⟨vs, hdo⟩, ?_⟩)
  refine Calls.spliced_nil ?_
  refine PySem.W.kdl_call (PySem.W.kdl_values (knd := mixKind X.prog X.w) (kvs := vs) (ep := ep)) (I1.ok.hd hc) ⟨⟨_, Heap.get?_push_size _ rfl, rfl, rfl⟩, hat.push _⟩ (by omega) fun h' tk acc c hk hS hacc => ?_
  have ea : acc.toList = vs.map (·.2) := by
    refine PySem.W.kdl_vals_eq acc.toList (by simpa using hacc.1) fun j v hv => hacc.2 j v ?_
    rw [← Array.getElem?_toList]
    exact hv
  have J := I2.laid (a := (s1.heap.push { cls := .type "dict_values", data := .fields #[.ref d] }).objs.size) (o := .lst (kvs.map (·.2))) (h' := h') (t' := tk) hk (Nat.le_refl _) ⟨by rw [List.length_map]; exact hz, acc.toList, c, by rw [ea]; exact kv_snd kv, by rw [Array.toArray_toList]; exact hS⟩
  exact ⟨.ref _, _, J, rfl, q _ (I2.hok.fresh (Nat.le_refl _))⟩
end
end L3

namespace L3
open PySem PyProof.Rows PySem.Spec L2
def tcost : Nat → Nat
  | 0 => 6
  | n + 1 => 12 + 3 * tcost n
theorem tcost_ge : ∀ n, 6 ≤ tcost n
  | 0 => Nat.le_refl _
  | n + 1 => by
    simp only [tcost]
    omega
theorem tk_ext {K : PySem.W.Frag} {t c : Addr} {b : Nat} {H H' : Hp} (e : Ext t H H') (T : Tape K H t c b) : TupsKept H H' := fun a xs z => by
  obtain ⟨_, _, _, h, _⟩ := T
  exact e a _ (fun y => by rw [y, h] at z; cases z) z
theorem GoodT.flat {n : Nat} {m : PyData} (h : GoodT n m) : Flt m := Trm.flat ⟨h.term, h.sh⟩
theorem flt_row {q : Str × PyData} (h : Flt q.2) : Flt (rowP q) := flt_two (flt_str _) h
theorem flt_arm {q : Str × List Str × PyData} (h : Flt q.2.2) : Flt (armP q) := flt_three (flt_str _) (flt_nms _) h
theorem cut_takeN (xs : List V) (j : Nat) : cutV xs none (some (j : Nat)) = xs.take j := by
  unfold cutV
  rw [HT.sIx_none, HT.sIx_nat, List.drop_zero, Nat.sub_zero]
  by_cases h : j ≤ xs.length
  · rw [Nat.min_eq_left h]
  · rw [Nat.min_eq_right (by omega), List.take_of_length_le (Nat.le_refl _), List.take_of_length_le (by omega)]
/-- the first names of a tuple of names -/
theorem sl_da {K : PySem.W.Frag} {t : Addr} {H : Hp} {u : V} {ns : List Str} {j : Nat} {Q : VK} (hu : Da t H u (nmsD ns)) (k : ∀ x H', Same H H' → Da t H' x (nmsD (ns.take j)) → Q x H') : rSlA K u none (some (j : Nat)) H Q := by
  obtain ⟨a, xs, rfl, ga, da⟩ := da_row (show Da t H u (.tuple (ns.map .str)) from hu)
  obtain rfl := daAll_strs0 da
  refine ⟨a, _, rfl, SqT.of ga, fun e => ?_, fun e p hp => ?_⟩
  · have e2 := e.2
    rw [HT.sIx_nat, List.length_map] at e2
    have : ns.take j = ns := List.take_of_length_le (by omega)
    have q := k (.ref a) H (Same.refl H)
    rw [this] at q
    exact q hu
  · rw [cut_takeN, ← List.map_take]
    exact k _ _ (same_new hp) (.tup upd_same (da_strs _))
theorem key_way {K : PySem.W.Frag} {t c : Addr} {b n : Nat} {H : Hp} {F : Hp → Int → Prop} {G : Prop} (g : (∀ H1 r, Ext t H H1 → Tape K H1 t c b → 0 ≤ r → (r < 4 ∨ (r < 8 ∧ 1 ≤ n)) → F H1 r) → G)
    (h : ∀ H1 r, Ext t H H1 → Tape K H1 t c b → 0 ≤ r → (r < 4 ∨ (r < 8 ∧ 1 ≤ n)) → F H1 r) : G := g h
section
variable {P : Program} {w : World} {K : PySem.W.Frag} {mg : Str → Option Value} {base : Heap}
abbrev s__law_term : Stmt := topS 39
abbrev N__law_term : List Str := ["_law_tape", "_law_names", "_law_deep", "_law_way", "_law_some", "_law_own", "_law_arms", "_law_name", "_law_k"]
theorem sc__law_term : FnScope N__law_term ["_law_tape", "_law_names", "_law_deep"] (defScope s__law_term) := ⟨rfl, rfl, rfl, by decide +kernel, rfl, by decide +kernel, by decide +kernel⟩
def spLTerm (K : PySem.W.Frag) (n : Nat) : Sp := fun vs H Q _ => ∃ (t c lN : Addr) (names : List Str) (deep b : Nat), vs = [.ref t, .ref lN, .int (deep : Nat)] ∧ H lN = some (.lst (names.map V.str)) ∧ lN ≠ t ∧ names.length = 4 ∧ (∀ x ∈ names, NmOk x) ∧ names.Nodup ∧ deep < n ∧ Tape K H t c (b + tcost deep) ∧
  ∀ H' x m, Ext t H H' → Tape K H' t c b → Da t H' x m → GoodT deep m → Q x H'
theorem ok_lterm {n k : Nat} (hk : 2 ≤ k) {f : Addr} {fd : FuncData} (F : Fun K "_law_term" "_law_term" s__law_term f fd) (B : Bl mg) (D__law_draw : Kn P w K mg base 1 "_law_draw" ["_law_tape", "_law_many"] (spDraw K)) (D__law_pick : Kn P w K mg base 2 "_law_pick" ["_law_tape", "_law_items"] (spPick K)) (D__law_shuffled : Kn P w K mg base 2 "_law_shuffled" ["_law_tape", "_law_items"] (spShuf K))
    (D__law_term : Kn P w K mg base k "_law_term" ["_law_tape", "_law_names", "_law_deep"] (spLTerm K n)) : FnOk P w K mg base CX0 (k + 1) f fd ["_law_tape", "_law_names", "_law_deep"] (spLTerm K (n + 1)) := by
  refine F.ok sc__law_term (fun vs H Q E h => ?_) (fun cdv A outer s H vs Q E hr h => ?_)
  · obtain ⟨t, c, lN, names, deep, b, rfl, _⟩ := h
    rfl
  · obtain ⟨t, c, lN, names, deep, b, rfl, gN, nlt, l4, hnm, nd, hdp, T, kk⟩ := h
    have hr__law_draw : Room 1 _ := hr.mono (by omega)
    have hr__law_pick : Room 2 _ := hr.mono hk
    have hr__law_shuffled : Room 2 _ := hr.mono hk
    have hr__law_term : Room k _ := hr
    refine ⟨_, (pss_cons (ps_set (i := 3) sc__law_term.nd rfl (Or.inl rfl) (pe_ifExp (pt_cmpR op_gt (pv 2) pe_int (nomark _)) (pe_kn D__law_draw hr__law_draw (pa_cons (pv 0) (pa_cons pe_int pa_nil))) (pe_kn D__law_draw hr__law_draw (pa_cons (pv 0) (pa_cons pe_int pa_nil)))))
  (pss_cons (ps_if (pt_cmpR op_lt (pv 3) pe_int (nomark _))
  (pss_cons (ps_set (i := 4) sc__law_term.nd rfl (Or.inl rfl) (pe_lst (pa_cons (pe_tup (pa_cons pe_str (pa_cons (pe_kn D__law_pick hr__law_pick (pa_cons (pv 0) (pa_cons (pe_lst (pa_cons pe_int (pa_cons (pe_un un_neg (pe_op op_pow pe_int pe_int)) (pa_cons (pe_op op_pow pe_int pe_int) (pa_cons pe_int pa_nil))))) pa_nil))) pa_nil))) (pa_cons (pe_tup (pa_cons pe_str (pa_cons (pe_kn D__law_pick hr__law_pick (pa_cons (pv 0) (pa_cons (pe_lst (pa_cons pe_str (pa_cons (pe_op op_repS pe_str pe_int) (pa_cons pe_str pa_nil)))) pa_nil))) pa_nil))) pa_nil))))
  (pss_one (ps_ret (pe_kn D__law_pick hr__law_pick (pa_cons (pv 0) (pa_cons (pe_op op_cat (pe_op op_cat (pe_lst (pa_cons (pe_tup (pa_cons pe_str (pa_cons (pe_kn D__law_pick hr__law_pick (pa_cons (pv 0) (pa_cons (pv 1) pa_nil))) pa_nil))) (pa_cons (pe_tup (pa_cons pe_str (pa_cons (pe_kn D__law_pick hr__law_pick (pa_cons (pv 0) (pa_cons (pv 1) pa_nil))) pa_nil))) pa_nil))) (pv 4)) (pe_lst (pa_cons (pe_tup (pa_cons pe_str pa_nil)) pa_nil))) pa_nil))))))
  pss_nil)
  (pss_cons (ps_if (pt_cmpR op_eq (pv 3) pe_int (nomark _))
  (pss_one (ps_ret (pe_tup (pa_cons pe_str (pa_cons (pe_kn D__law_term hr__law_term (pa_cons (pv 0) (pa_cons (pv 1) (pa_cons (pe_op op_sub (pv 2) pe_int) pa_nil)))) (pa_cons (pe_kn D__law_term hr__law_term (pa_cons (pv 0) (pa_cons (pv 1) (pa_cons (pe_op op_sub (pv 2) pe_int) pa_nil)))) pa_nil))))))
  pss_nil)
  (pss_cons (ps_if (pt_cmpR op_eq (pv 3) pe_int (nomark _))
  (pss_one (ps_ret (pe_tup (pa_cons pe_str (pa_cons (pe_kn D__law_pick hr__law_pick (pa_cons (pv 0) (pa_cons (pv 1) pa_nil))) (pa_cons (pe_kn D__law_term hr__law_term (pa_cons (pv 0) (pa_cons (pv 1) (pa_cons (pe_op op_sub (pv 2) pe_int) pa_nil)))) pa_nil))))))
  pss_nil)
  (pss_cons (ps_set (i := 5) sc__law_term.nd rfl (Or.inr rfl) (pe_callTy call_tuple_of (by rfl) B.tuple (by decide +kernel) (pa_cons (pe_slice sl_list (pe_kn D__law_shuffled hr__law_shuffled (pa_cons (pv 0) (pa_cons (pv 1) pa_nil))) po_none (po_some (pe_op op_add pe_int (pe_kn D__law_draw hr__law_draw (pa_cons (pv 0) (pa_cons pe_int pa_nil)))))) pa_nil)))
  (pss_cons (ps_if (pt_cmpR op_eq (pv 3) pe_int (nomark _))
  (pss_one (ps_ret (pe_tup (pa_cons pe_str (pa_cons (pe_callTy call_tuple_of (by rfl) B.tuple (by decide +kernel) (pa_cons (pe_lc (own := [("_law_name", 7)]) rfl sc__law_term.nd (pi_tup (pv 5)) (blkOk_by (N := N__law_term) (sc := (defScope s__law_term)) (own := [("_law_name", 7)]) (by decide +kernel)) (fun _ _ _ _ _ => (pg_name (i := 7) sc__law_term.nd rfl (Or.inl rfl))) (fun _ _ _ _ _ => pts_nil) (fun _ _ _ _ _ => (pe_tup (pa_cons (pv 7) (pa_cons (pe_kn D__law_term hr__law_term (pa_cons (pv 0) (pa_cons (pv 1) (pa_cons (pe_op op_sub (pv 2) pe_int) pa_nil)))) pa_nil))))) pa_nil)) (pa_cons (pe_kn D__law_term hr__law_term (pa_cons (pv 0) (pa_cons (pv 1) (pa_cons (pe_op op_sub (pv 2) pe_int) pa_nil)))) pa_nil))))))
  pss_nil)
  (pss_cons (ps_setLc (i := 6) (own := [("_law_k", 8)]) rfl sc__law_term.nd rfl rfl (sw_true rfl rfl rfl (by decide +kernel)) (pi_range1 (by rfl) B.range (pa_cons (pe_op op_add pe_int (pe_kn D__law_draw hr__law_draw (pa_cons (pv 0) (pa_cons pe_int pa_nil)))) pa_nil)) (blkOk_by (N := N__law_term) (sc := (defScope s__law_term)) (own := [("_law_k", 8)]) (by decide +kernel)) (fun _ _ _ _ _ => (pg_name (i := 8) sc__law_term.nd rfl (Or.inl rfl))) (fun _ _ _ _ _ => pts_nil) (fun _ _ _ _ _ => (pe_tup (pa_cons (pe_kn D__law_pick hr__law_pick (pa_cons (pv 0) (pa_cons (pv 1) pa_nil))) (pa_cons (pe_slice (show SlR _ (rSlA K) from sl_tupA) (pv 5) po_none (po_some (pe_kn D__law_draw hr__law_draw (pa_cons (pv 0) (pa_cons pe_int pa_nil))))) (pa_cons (pe_kn D__law_term hr__law_term (pa_cons (pv 0) (pa_cons (pv 1) (pa_cons (pe_op op_sub (pv 2) pe_int) pa_nil)))) pa_nil))))))
  (pss_one (ps_ret (pe_tup (pa_cons pe_str (pa_cons (pe_kn D__law_term hr__law_term (pa_cons (pv 0) (pa_cons (pv 1) (pa_cons (pe_op op_sub (pv 2) pe_int) pa_nil)))) (pa_cons (pe_callTy call_tuple_of (by rfl) B.tuple (by decide +kernel) (pa_cons (pv 6) pa_nil)) pa_nil))))))))))))), ?_⟩
    have gN' : ∀ {H' : Hp}, Ext t H H' → H' lN = some (.lst (names.map V.str)) := fun e => e _ _ nlt gN
    have tg := tcost_ge deep
    refine ⟨_, rfl, _, _, rfl, rfl, _, rfl, ?_⟩
    refine' key_way (K := K) (t := t) (c := c) (b := b + tcost deep - 1) (n := deep) (H := H) (fun h => ?_) (fun H1 r e1 T1 r1 r2 => ?_)
    rotate_left
    · by_cases hn : 1 ≤ deep
      · refine iT (decide_eq_true (by omega)) ?_
        exact ⟨_, rfl, t, c, 8, b + tcost deep - 1, rfl, by decide, by decide, T.less (by omega), fun H1 r e1 T1 r1 r2 => h H1 r e1 T1 r1 (.inr ⟨r2, hn⟩)⟩
      · refine iF (decide_eq_false (by omega)) ?_
        exact ⟨_, rfl, t, c, 4, b + tcost deep - 1, rfl, by decide, by decide, T.less (by omega), fun H1 r e1 T1 r1 r2 => h H1 r e1 T1 r1 (.inl r2)⟩
    -- the name of a drawn place
    have pick : ∀ {H2 : Hp} {b2 : Nat} {Q2 : VK}, Ext t H H2 → Tape K H2 t c (b2 + 1) → (∀ H3 x, Ext t H2 H3 → Tape K H3 t c b2 → x ∈ names → Q2 (.str x) H3) → spPick K [.ref t, .ref lN] H2 Q2 E0 := fun {H2 b2 Q2} e2 T2 k2 => by
      refine ⟨t, c, lN, names.map V.str, b2, rfl, SqL.of (gN' e2), by rw [List.length_map]; omega, by rw [List.length_map]; omega, T2, fun H3 v e3 T3 hv => ?_⟩
      obtain ⟨x, hx, rfl⟩ := List.mem_map.mp hv
      exact k2 H3 x e3 T3 hx
    refine ⟨_, rfl, _, _, rfl, rfl, _, rfl, ?_⟩
    by_cases c4 : r < 4
    · refine iT (decide_eq_true c4) ?_
      have T1 := T1.less (show b + 5 ≤ b + tcost deep - 1 by omega)
      have cp : CPow 10 30 := ⟨by decide, by decide, by decide⟩
      refine ⟨_, rfl, _, _, rfl, rfl, cp, _, rfl, _, _, rfl, rfl, cp, slz rfl, fun l1 hl1 => ?_⟩
      have T2 := T1.new (o := .lst [.int 0, .int (-(10 ^ (30 : Int).toNat)), .int (10 ^ (30 : Int).toNat), .int 5]) hl1
      have e2 := e1.trans (Ext.new (o := .lst [.int 0, .int (-(10 ^ (30 : Int).toNat)), .int (10 ^ (30 : Int).toNat), .int 5]) hl1)
      refine ⟨t, c, l1, _, b + 4, rfl, SqL.of upd_same, by simp, by simp, T2, fun H2 v e3 T3 hv => ?_⟩
      obtain ⟨i, hi, rfl⟩ : ∃ i ∈ [(0 : Int), -(10 ^ 30), 10 ^ 30, 5], v = .int i := by
        simp only [List.mem_cons, List.not_mem_nil, or_false] at hv
        rcases hv with rfl | rfl | rfl | rfl
        · exact ⟨0, by simp, rfl⟩
        · exact ⟨-(10 ^ 30), by simp, rfl⟩
        · exact ⟨10 ^ 30, by simp, rfl⟩
        · exact ⟨5, by simp, rfl⟩
      refine ⟨slz rfl, fun p1 hp1 => ?_⟩
      have E3 := (e2.trans e3).trans (Ext.new (o := .tup [.str "whole", .int i]) hp1)
      have T4 := T3.new (o := .tup [.str "whole", .int i]) hp1
      have d1 : Da t (upd H2 p1 (.tup [.str "whole", .int i])) (.ref p1) (.tuple [.str "whole", .int i]) := .tup upd_same (.cons (.str _) (.cons (.int _) .nil))
      generalize upd H2 p1 (.tup [.str "whole", .int i]) = H3 at E3 T4 d1 ⊢
      refine ⟨_, rfl, _, _, rfl, rfl, by decide, by decide, by decide, by rw [sizeLine_eq]; decide, slz rfl, fun l2 hl2 => ?_⟩
      have T5 := T4.new (o := .lst [.str "", .str (repS "a" (200 : Int).toNat), .str "it's ~"]) hl2
      have E5 := E3.trans (Ext.new (o := .lst [.str "", .str (repS "a" (200 : Int).toNat), .str "it's ~"]) hl2)
      have d15 := d1.kp (kp_same (same_new (o := .lst [.str "", .str (repS "a" (200 : Int).toNat), .str "it's ~"]) hl2))
      refine ⟨t, c, l2, _, b + 3, rfl, SqL.of upd_same, by simp, by simp, T5, fun H6 v e6 T6 hv => ?_⟩
      obtain ⟨x, hx, rfl⟩ : ∃ x ∈ [("" : Str), repS "a" 200, "it's ~"], v = .str x := by
        simp only [List.mem_cons, List.not_mem_nil, or_false] at hv
        rcases hv with rfl | rfl | rfl
        · exact ⟨_, by simp, rfl⟩
        · exact ⟨_, by simp, rfl⟩
        · exact ⟨_, by simp, rfl⟩
      have d16 := d15.kp (kp_ext e6 T5)
      refine ⟨slz rfl, fun p2 hp2 => ⟨slz rfl, fun l3 hl3 => ?_⟩⟩
      have sA := same_new (o := .tup [.str "text", .str x]) hp2
      have sB := same_new (o := .lst [.ref p1, .ref p2]) hl3
      have sAB := sA.trans sB
      have E7 := (E5.trans e6).trans (same_ext sAB)
      have T7 := T6.same sAB
      have d17 := d16.kp (kp_same sAB)
      have d27 : Da t (upd (upd H6 p2 (.tup [.str "text", .str x])) l3 (.lst [.ref p1, .ref p2])) (.ref p2) (.tuple [.str "text", .str x]) := .tup (sB _ _ upd_same) (.cons (.str _) (.cons (.str _) .nil))
      have g37 := upd_same (H := upd H6 p2 (.tup [.str "text", .str x])) (a := l3) (o := .lst [.ref p1, .ref p2])
      have n3 : l3 ≠ t := (T6.same sA).ne hl3
      generalize upd (upd H6 p2 (.tup [.str "text", .str x])) l3 (.lst [.ref p1, .ref p2]) = H7 at E7 T7 d17 d27 g37 ⊢
      refine ⟨_, rfl, _, rfl, _, rfl, ?_⟩
      refine pick (b2 := b + 2) E7 T7 fun H8 x1 e8 T8 hx1 => ?_
      refine ⟨slz rfl, fun p3 hp3 => ?_⟩
      have s8 := same_new (o := .tup [.str "name", .str x1]) hp3
      have E8 := (E7.trans e8).trans (same_ext s8)
      have T9 := T8.same s8
      have k8 := kp_ext e8 T7
      have d18 := (d17.kp k8).kp (kp_same s8)
      have d28 := (d27.kp k8).kp (kp_same s8)
      have g38 := s8 _ _ (e8 _ _ n3 g37)
      have d38 : Da t (upd H8 p3 (.tup [.str "name", .str x1])) (.ref p3) (.tuple [.str "name", .str x1]) := .tup upd_same (.cons (.str _) (.cons (.str _) .nil))
      generalize upd H8 p3 (.tup [.str "name", .str x1]) = H9 at E8 T9 d18 d28 g38 d38 ⊢
      refine ⟨_, rfl, _, rfl, ?_⟩
      refine pick (b2 := b + 1) E8 T9 fun H10 x2 e10 T10 hx2 => ?_
      refine ⟨slz rfl, fun p4 hp4 => ⟨slz rfl, fun l4 hl4 => ?_⟩⟩
      have s9 := same_new (o := .tup [.str "name", .str x2]) hp4
      have s10 := same_new (o := .lst [.ref p3, .ref p4]) hl4
      have k10 := kp_ext e10 T9
      have d110 := (d18.kp k10).kp (kp_same (s9.trans s10))
      have d210 := (d28.kp k10).kp (kp_same (s9.trans s10))
      have d310 := (d38.kp k10).kp (kp_same (s9.trans s10))
      have d410 : Da t (upd (upd H10 p4 (.tup [.str "name", .str x2])) l4 (.lst [.ref p3, .ref p4])) (.ref p4) (.tuple [.str "name", .str x2]) := .tup (s10 _ _ upd_same) (.cons (.str _) (.cons (.str _) .nil))
      have g310 := (s9.trans s10) _ _ (e10 _ _ n3 g38)
      have g410 := upd_same (H := upd H10 p4 (.tup [.str "name", .str x2])) (a := l4) (o := .lst [.ref p3, .ref p4])
      have E10 := (E8.trans e10).trans (same_ext (s9.trans s10))
      have T11 := T10.same (s9.trans s10)
      generalize upd (upd H10 p4 (.tup [.str "name", .str x2])) l4 (.lst [.ref p3, .ref p4]) = H11 at E10 T11 d110 d210 d310 d410 g310 g410 ⊢
      refine ⟨_, rfl, l4, l3, _, _, rfl, rfl, g410, g310, slz rfl, fun l5 hl5 => ?_⟩
      have s11 := same_new (o := .lst ([.ref p3, .ref p4] ++ [.ref p1, .ref p2])) hl5
      refine ⟨slz rfl, fun p5 hp5 => ⟨slz rfl, fun l6 hl6 => ?_⟩⟩
      have s12 := same_new (o := .tup [.str "hole"]) hp5
      have s13 := same_new (o := .lst [.ref p5]) hl6
      refine ⟨l5, l6, _, _, rfl, rfl, s13 _ _ (s12 _ _ upd_same), upd_same, slz rfl, fun l7 hl7 => ?_⟩
      have s14 := same_new (o := .lst ([.ref p3, .ref p4] ++ [.ref p1, .ref p2] ++ [.ref p5])) hl7
      have S := s11.trans (s12.trans (s13.trans s14))
      have T15 := T11.same S
      refine ⟨t, c, l7, _, b, rfl, SqL.of upd_same, by simp, by simp, T15, fun H15 v e15 T16 hv => ?_⟩
      have k15 := kp_ext e15 T15
      have E15 := (E10.trans (same_ext S)).trans e15
      have m0 : ∀ {m : PyData}, GoodT 0 m → GoodT deep m := fun g => g.mono (Nat.zero_le _)
      simp only [List.mem_append, List.mem_cons, List.not_mem_nil, or_false] at hv
      rcases hv with ((rfl | rfl) | (rfl | rfl)) | rfl
      · exact kk H15 _ _ E15 T16 ((d310.kp (kp_same S)).kp k15) (m0 (good_name (hnm _ hx1)))
      · exact kk H15 _ _ E15 T16 ((d410.kp (kp_same S)).kp k15) (m0 (good_name (hnm _ hx2)))
      · exact kk H15 _ _ E15 T16 ((d110.kp (kp_same S)).kp k15) (m0 (good_whole hi))
      · exact kk H15 _ _ E15 T16 ((d210.kp (kp_same S)).kp k15) (m0 (good_text hx))
      · have d5 : Da t _ (.ref p5) (.tuple [.str "hole"]) := .tup (s14 _ _ (s13 _ _ upd_same)) (.cons (.str _) .nil)
        exact kk H15 _ _ E15 T16 (d5.kp k15) (m0 good_hole)
    refine iF (decide_eq_false c4) ?_
    obtain ⟨r8, d1⟩ : r < 8 ∧ 1 ≤ deep := r2.elim (fun z => absurd z c4) id
    obtain ⟨dp, rfl⟩ : ∃ dp, deep = dp + 1 := ⟨deep - 1, by omega⟩
    have tcs : tcost (dp + 1) = 12 + 3 * tcost dp := rfl
    have T1 := T1.less (show b + 11 + 3 * tcost dp ≤ b + tcost (dp + 1) - 1 by omega)
    -- a part
    have part : ∀ {H2 : Hp} {b2 : Nat} {Q2 : VK}, Ext t H H2 → Tape K H2 t c (b2 + tcost dp) → (∀ H3 x m, Ext t H2 H3 → Tape K H3 t c b2 → Da t H3 x m → GoodT dp m → Q2 x H3) → spLTerm K n [.ref t, .ref lN, .int (((dp + 1 : Nat) : Int) - 1)] H2 Q2 E0 := fun {H2 b2 Q2} e2 T2 k2 => by
      refine ⟨t, c, lN, names, dp, b2, by rw [show (((dp + 1 : Nat) : Int) - 1) = (dp : Nat) by omega], gN' e2, nlt, l4, hnm, nd, by omega, T2, fun H3 x m e3 T3 dx g => k2 H3 x m e3 T3 dx g⟩
    refine ⟨_, rfl, rfl, _, rfl, ?_⟩
    by_cases c5 : r = 4
    · refine iT (decide_eq_true (by rw [c5])) ?_
      refine ⟨_, rfl, _, rfl, _, rfl, _, _, rfl, rfl, ?_⟩
      refine part (b2 := b + 11 + 2 * tcost dp) e1 (T1.less (by omega)) fun H2 x m e2 T2 dx gm => ?_
      refine ⟨_, rfl, _, rfl, _, rfl, _, _, rfl, rfl, ?_⟩
      refine part (b2 := b) (e1.trans e2) (T2.less (by omega)) fun H3 y m' e3 T3 dy gm' => ?_
      refine ⟨slz rfl, fun p hp => ?_⟩
      have s4 := same_new (o := .tup [.str "use", x, y]) hp
      exact kk _ _ _ (((e1.trans e2).trans e3).trans (same_ext s4)) (T3.same s4) (.tup upd_same (.cons (.str _) (.cons ((dx.kp (kp_ext e3 T2)).kp (kp_same s4)) (.cons (dy.kp (kp_same s4)) .nil)))) (good_use gm gm')
    refine iF (decide_eq_false fun z => c5 (by injection z)) ?_
    refine ⟨_, rfl, rfl, _, rfl, ?_⟩
    by_cases c6 : r = 5
    · refine iT (decide_eq_true (by rw [c6])) ?_
      refine ⟨_, rfl, _, rfl, ?_⟩
      refine pick (b2 := b + tcost dp) e1 (T1.less (by omega)) fun H2 x e2 T2 hx => ?_
      refine ⟨_, rfl, _, rfl, _, rfl, _, _, rfl, rfl, ?_⟩
      refine part (b2 := b) (e1.trans e2) T2 fun H3 y m e3 T3 dy gm => ?_
      refine ⟨slz rfl, fun p hp => ?_⟩
      have s4 := same_new (o := .tup [.str "given", .str x, y]) hp
      exact kk _ _ _ (((e1.trans e2).trans e3).trans (same_ext s4)) (T3.same s4) (.tup upd_same (.cons (.str _) (.cons (.str _) (.cons (dy.kp (kp_same s4)) .nil)))) (good_given (hnm x hx) gm)
    refine iF (decide_eq_false fun z => c6 (by injection z)) ?_
    -- the names of its own
    refine ⟨_, rfl, _, rfl, ?_⟩
    refine ⟨t, c, lN, names, b + 7 + 3 * tcost dp, rfl, SqL.of (gN' e1), fun x hx => (hnm x hx).1, by omega, by rw [l4]; exact T1.less (by omega), fun H2 lS ns e2 T2 hlS gS hns pm => ?_⟩
    refine ⟨_, rfl, t, c, 2, b + 6 + 3 * tcost dp, rfl, by decide, by decide, T2.less (by omega), fun H3 r3 e3 T3 q1 q2 => ?_⟩
    obtain ⟨r3', rfl⟩ : ∃ m : Nat, r3 = (m : Int) := ⟨r3.toNat, (Int.toNat_of_nonneg q1).symm⟩
    have hr3 : r3' < 2 := by omega
    have nS : lS ≠ t := T1.ne hlS
    have gS3 := e3 _ _ nS gS
    refine ⟨_, _, rfl, rfl, _, rfl, lS, _, rfl, SqL.of gS3, fun q hq => ?_⟩
    rw [show (1 : Int) + (r3' : Int) = ((1 + r3' : Nat) : Int) by omega, cut_takeN, ← List.map_take]
    have nns : ns.Nodup := pm.nodup_iff.mpr nd
    have lns : ns.length = 4 := pm.length_eq.trans l4
    have own1 : ∀ x ∈ ns.take (1 + r3'), NmOk x := fun x hx => hnm x (pm.mem_iff.mp (List.mem_of_mem_take hx))
    have own2 : (ns.take (1 + r3')).Nodup := nns.sublist (List.take_sublist _ _)
    have own3 : (ns.take (1 + r3')).length = 1 + r3' := by rw [List.length_take]; omega
    generalize ns.take (1 + r3') = own at own1 own2 own3 ⊢
    refine ⟨q, _, rfl, .inl ⟨SqL.of upd_same, fun ow how => ?_⟩⟩
    have sA := same_new (o := .lst (own.map V.str)) hq
    have sB := same_new (o := .tup (own.map V.str)) how
    have E5 := ((e1.trans e2).trans e3).trans (same_ext (sA.trans sB))
    have T5 := T3.same (sA.trans sB)
    have gow := upd_same (H := upd H3 q (.lst (own.map V.str))) (a := ow) (o := .tup (own.map V.str))
    have now : ow ≠ t := (T3.same sA).ne how
    generalize upd (upd H3 q (.lst (own.map V.str))) ow (.tup (own.map V.str)) = H5 at E5 T5 gow ⊢
    have dow : Da t H5 (.ref ow) (nmsD own) := .tup gow (da_strs _)
    refine ⟨_, rfl, rfl, _, rfl, ?_⟩
    by_cases c7 : r = 6
    · refine iT (decide_eq_true (by rw [c7])) ?_
      refine ⟨_, rfl, ow, rfl, ⟨_, SqT.of gow⟩, fun D hD => lc_it walk_tup (fun i H' => Ext t H5 H' ∧ Tape K H' t c (b + tcost dp + (own.length - i) * tcost dp) ∧ ∃ (us : List V) (R : List (Str × PyData)), H' D = some (.lst us) ∧ DaAll t H' us (R.map rowP) ∧ R.map (·.1) = own.take i ∧ ∀ q ∈ R, GoodT dp q.2) ⟨Ext.new hD, (T5.new hD).less (by
        rw [own3, Nat.sub_zero]
        have : (1 + r3') * tcost dp ≤ 2 * tcost dp := Nat.mul_le_mul_right _ (by omega)
        omega), [], [], upd_same, .nil, rfl, fun q hq => (nomatch hq)⟩ (fun i H' _ h => SqT.of (h.1 _ _ now gow)) ?_ ?_⟩
      · rintro i y H6 H7 hi ⟨e6, T6, us, R, gD, dR, mR, okR⟩ ⟨rfl, ey⟩
        rw [List.length_map] at hi
        obtain ⟨x, hx, rfl⟩ : ∃ x, own[i]? = some x ∧ y = .str x := by
          rw [List.getElem?_map] at ey
          obtain ⟨x, hx, rfl⟩ := Option.map_eq_some_iff.mp ey
          exact ⟨x, hx, rfl⟩
        have hbud : (own.length - i) * tcost dp = (own.length - (i + 1)) * tcost dp + tcost dp := by
          rw [show own.length - i = own.length - (i + 1) + 1 by omega, Nat.add_mul, Nat.one_mul]
        have nD : D ≠ t := T5.ne hD
        refine ⟨rfl, _, rfl, _, rfl, _, rfl, _, rfl, _, _, rfl, rfl, ?_⟩
        refine part (b2 := b + tcost dp + (own.length - (i + 1)) * tcost dp) (E5.trans e6) (T6.less (by omega)) fun H8 z m e8 T8 dz gm => ?_
        refine ⟨slz rfl, fun p hp => ?_⟩
        have s9 := same_new (o := .tup [.str x, z]) hp
        have gD9 := s9 _ _ (e8 _ _ nD gD)
        have tk := tk_upd (ys := us ++ [.ref p]) gD9
        have lu := dR.len
        have lR : R.length ≤ 2 := by
          have := congrArg List.length mR
          rw [List.length_map, List.length_take] at this
          omega
        rw [List.length_map] at lu
        have E9 : Ext t H5 (upd (upd H8 p (.tup [.str x, z])) D (.lst (us ++ [.ref p]))) := ((e6.trans e8).trans (same_ext s9)).upd hD
        refine ⟨us, gD9, szl (by omega), E9, ?_, us ++ [.ref p], R ++ [(x, m)], upd_same, ?_, ?_, ?_⟩
        · exact Tape.put T5 ((e6.trans e8).trans (same_ext s9)) (T8.same s9) hD
        · rw [List.map_append]
          refine (daAll_tk ((tk_ext e8 T6).trans ((tk_same s9).trans tk)) dR fun d hd => ?_).app (.cons (.tup (tk _ _ upd_same) (.cons (.str _) (.cons (dz.tk ((tk_same s9).trans tk) gm.flat) .nil))) .nil)
          obtain ⟨q, hq, rfl⟩ := List.mem_map.mp hd
          exact flt_row (okR q hq).flat
        · rw [List.map_append, mR, List.take_add_one, hx]
          rfl
        · intro q hq
          rcases List.mem_append.mp hq with hq | hq
          · exact okR q hq
          · rw [List.mem_singleton.mp hq]
            exact gm
      · rintro H6 ⟨e6, T6, us, R, gD, dR, mR, okR⟩
        rw [List.length_map, List.take_length] at mR
        rw [List.length_map, Nat.sub_self, Nat.zero_mul] at T6
        refine ⟨D, _, rfl, .inl ⟨SqL.of gD, fun q2 hq2 => ?_⟩⟩
        have s7 := same_new (o := .tup us) hq2
        have T7 := T6.same s7
        have dT : Da t (upd H6 q2 (.tup us)) (.ref q2) (.tuple (R.map rowP)) := .tup upd_same (dR.kp (kp_same s7))
        have E7 := (E5.trans e6).trans (same_ext s7)
        generalize upd H6 q2 (.tup us) = H7 at T7 dT E7 ⊢
        refine ⟨_, rfl, _, rfl, _, rfl, _, _, rfl, rfl, ?_⟩
        refine part (b2 := b) E7 (T7.less (by omega)) fun H8 z m e8 T8 dz gm => ?_
        refine ⟨slz rfl, fun p hp => ?_⟩
        have s9 := same_new (o := .tup [.str "let", .ref q2, z]) hp
        have lR : R.length = own.length := by rw [← mR, List.length_map]
        refine kk _ _ _ ((E7.trans e8).trans (same_ext s9)) (T8.same s9) (.tup upd_same (.cons (.str _) (.cons ((dT.kp (kp_ext e8 T7)).kp (kp_same s9)) (.cons (dz.kp (kp_same s9)) .nil)))) (good_let (fun q hq => ⟨own1 q.1 ?_, okR q hq⟩) (by rw [mR]; exact own2) (by omega) (by omega) gm)
        rw [← mR]
        exact List.mem_map_of_mem hq
    refine iF (decide_eq_false fun z => c7 (by injection z)) ?_
    refine ⟨_, rfl, t, c, 2, b + 5 + 3 * tcost dp, rfl, by decide, by decide, T5.less (by omega), fun H6 r6 e6 T6 q3 q4 => ?_⟩
    obtain ⟨r6', rfl⟩ : ∃ m : Nat, r6 = (m : Int) := ⟨r6.toNat, (Int.toNat_of_nonneg q3).symm⟩
    have hr6 : r6' < 2 := by omega
    have E6 := E5.trans e6
    have dow6 := dow.kp (kp_ext e6 T5)
    have gow6 := e6 _ _ now gow
    refine ⟨_, _, rfl, rfl, ((1 + r6' : Nat) : Int), by show [V.int ((1 : Int) + (r6' : Int))] = _; rw [show (1 : Int) + (r6' : Int) = ((1 + r6' : Nat) : Int) by omega], by omega, by omega, fun D hD => ?_⟩
    have nD : D ≠ t := T6.ne hD
    refine lc_range (lo := 0) (n := 1 + r6') (fun i H' => Ext t H6 H' ∧ Tape K H' t c (b + tcost dp + 1 + ((1 + r6') - i) * (tcost dp + 2)) ∧ ∃ (us : List V) (R : List (Str × List Str × PyData)), H' D = some (.lst us) ∧ DaAll t H' us (R.map armP) ∧ R.length = i ∧ ∀ q ∈ R, ArmOk dp q) ⟨Ext.new hD, (T6.new hD).less (by
      rw [Nat.sub_zero]
      have : (1 + r6') * (tcost dp + 2) ≤ 2 * (tcost dp + 2) := Nat.mul_le_mul_right _ (by omega)
      omega), [], [], upd_same, .nil, rfl, fun q hq => (nomatch hq)⟩ (fun i H' hi ⟨e7, T7, us, R, gD, dR, lR, okR⟩ => ⟨rfl, ?_⟩) (fun H7 ⟨e7, T7, us, R, gD, dR, lR, okR⟩ => ?_)
    · have hbud : ((1 + r6') - i) * (tcost dp + 2) = ((1 + r6') - (i + 1)) * (tcost dp + 2) + (tcost dp + 2) := by
        rw [show (1 + r6') - i = (1 + r6') - (i + 1) + 1 by omega, Nat.add_mul, Nat.one_mul]
      refine ⟨_, rfl, _, rfl, ?_⟩
      refine pick (b2 := b + tcost dp + 1 + ((1 + r6') - (i + 1)) * (tcost dp + 2) + (tcost dp + 1)) (E6.trans e7) (T7.less (by omega)) fun H8 x e8 T8 hx => ?_
      refine ⟨_, rfl, _, rfl, t, c, 3, b + tcost dp + 1 + ((1 + r6') - (i + 1)) * (tcost dp + 2) + tcost dp, rfl, by decide, by decide, T8.less (by omega), fun H9 r9 e9 T9 q5 q6 => ⟨_, rfl, ?_⟩⟩
      obtain ⟨r9', rfl⟩ : ∃ m : Nat, r9 = (m : Int) := ⟨r9.toNat, (Int.toNat_of_nonneg q5).symm⟩
      have dow9 := ((dow6.kp (kp_ext e7 T6)).kp (kp_ext e8 T7)).kp (kp_ext e9 T8)
      refine sl_da dow9 fun y H10 s10 dy => ?_
      have T10 := T9.same s10
      have E10 := (((E6.trans e7).trans e8).trans e9).trans (same_ext s10)
      refine ⟨_, rfl, _, rfl, _, rfl, _, _, rfl, rfl, ?_⟩
      refine part (b2 := b + tcost dp + 1 + ((1 + r6') - (i + 1)) * (tcost dp + 2)) E10 T10 fun H11 z m e11 T11 dz gm => ?_
      refine ⟨slz rfl, fun p hp => ?_⟩
      have s12 := same_new (o := .tup [.str x, y, z]) hp
      have eAll : Ext t H' (upd H11 p (.tup [.str x, y, z])) := (((e8.trans e9).trans (same_ext s10)).trans e11).trans (same_ext s12)
      have gD12 := eAll _ _ nD gD
      have tk := tk_upd (ys := us ++ [.ref p]) gD12
      have lu := dR.len
      rw [List.length_map] at lu
      have d1 := (dy.kp (kp_ext e11 T10)).kp (kp_same s12)
      have d2 := dz.kp (kp_same s12)
      have ok' : ArmOk dp (x, own.take r9', m) := ⟨hnm x hx, fun n hn => own1 n (List.mem_of_mem_take hn), own2.sublist (List.take_sublist _ _), by rw [List.length_take]; omega, gm⟩
      refine ⟨us, gD12, szl (by omega), (e7.trans eAll).upd hD, Tape.put T6 (e7.trans eAll) (T11.same s12) hD, us ++ [.ref p], R ++ [(x, own.take r9', m)], upd_same, ?_, by rw [List.length_append, lR]; rfl, ?_⟩
      · rw [List.map_append]
        refine (daAll_tk ((tk_ext eAll T7).trans tk) dR fun d hd => ?_).app (.cons (.tup (tk _ _ upd_same) (.cons (.str _) (.cons (d1.tk tk (flt_nms _)) (.cons (d2.tk tk gm.flat) .nil)))) .nil)
        obtain ⟨q, hq, rfl⟩ := List.mem_map.mp hd
        exact flt_arm (okR q hq).2.2.2.2.flat
      · intro q hq
        rcases List.mem_append.mp hq with hq | hq
        · exact okR q hq
        · rw [List.mem_singleton.mp hq]
          exact ok'
    · rw [Nat.sub_self, Nat.zero_mul] at T7
      have E7 := E6.trans e7
      refine ⟨_, rfl, _, rfl, _, rfl, _, _, rfl, rfl, ?_⟩
      refine part (b2 := b + 1) E7 (T7.less (by omega)) fun H8 z m e8 T8 dz gm => ?_
      have gD8 := e8 _ _ nD gD
      have dR8 := daAll_tk (tk_ext e8 T7) dR fun d hd => by
        obtain ⟨q, hq, rfl⟩ := List.mem_map.mp hd
        exact flt_arm (okR q hq).2.2.2.2.flat
      refine ⟨_, rfl, D, _, rfl, .inl ⟨SqL.of gD8, fun q2 hq2 => ?_⟩⟩
      have s9 := same_new (o := .tup us) hq2
      refine ⟨slz rfl, fun p hp => ?_⟩
      have s10 := same_new (o := .tup [.str "match", z, .ref q2]) hp
      have S := s9.trans s10
      refine kk _ _ _ ((E7.trans e8).trans (same_ext S)) ((T8.same S).less (by omega)) (.tup upd_same (.cons (.str _) (.cons (dz.kp (kp_same S)) (.cons (.tup (s10 _ _ upd_same) (dR8.kp (kp_same S))) .nil)))) (good_match okR (by omega) (by omega) gm)
end
end L3

/-! values with a change at a drawn place -/
namespace L3
open PySem PyProof.Rows PySem.Spec L2
theorem DaAll.take {t : Addr} {H : Hp} : ∀ {vs : List V} {ds : List PyData} (j : Nat), DaAll t H vs ds → DaAll t H (vs.take j) (ds.take j)
  | _, _, 0, _ => .nil
  | _, _, _ + 1, .nil => .nil
  | _, _, j + 1, .cons h1 h2 => .cons h1 (DaAll.take j h2)
theorem cut_last (xs : List V) : cutV xs none (some (-1)) = xs.take (xs.length - 1) := by
  unfold cutV
  rw [HT.sIx_none, List.drop_zero, Nat.sub_zero]
  congr 1
  unfold HT.sIx
  show (if (-1 : Int) < 0 then ((-1 : Int) + (xs.length : Int)).toNat else _) = _
  rw [if_pos (by decide)]
  omega
theorem pszL_take : ∀ (ds : List PyData) (j : Nat), pszL (ds.take j) ≤ pszL ds
  | [], _ => by simp
  | d :: ds, 0 => by simp [pszL]
  | d :: ds, j + 1 => by
    have := pszL_take ds j
    simp only [List.take_succ_cons, pszL]
    omega
theorem shL_of : ∀ {ds : List PyData}, (∀ d ∈ ds, shD d = true) → shL ds = true
  | [], _ => rfl
  | d :: ds, h => by
    simp only [shL, Bool.and_eq_true]
    exact ⟨h d (List.mem_cons_self ..), shL_of fun e he => h e (List.mem_cons_of_mem _ he)⟩
theorem sh_tup {ds : List PyData} (hl : ds.length ≤ 1000) (h : ∀ d ∈ ds, shD d = true) : shD (.tuple ds) = true := by
  simp only [shD, Bool.and_eq_true, decide_eq_true_eq]
  exact ⟨hl, shL_of h⟩
theorem pszL_lenB : ∀ (ds : List PyData), ds.length ≤ pszL ds
  | [] => Nat.zero_le _
  | d :: ds => by
    have := pszL_lenB ds
    have := psz_pos d
    simp only [List.length_cons, pszL]
    omega
theorem key_bent {K : PySem.W.Frag} {t c : Addr} {b : Nat} {H : Hp} {F : Hp → Prop} {G : Prop} (g : (∀ H1, Ext t H H1 → Tape K H1 t c b → F H1) → G) (h : ∀ H1, Ext t H H1 → Tape K H1 t c b → F H1) : G := g h
section
variable {P : Program} {w : World} {K : PySem.W.Frag} {mg : Str → Option Value} {base : Heap}
abbrev s__law_bent : Stmt := topS 47
abbrev N__law_bent : List Str := ["_law_tape", "_law_x", "_law_some", "_law_at", "_law_way"]
theorem sc__law_bent : FnScope N__law_bent ["_law_tape", "_law_x", "_law_some"] (defScope s__law_bent) := ⟨rfl, rfl, rfl, by decide +kernel, rfl, by decide +kernel, by decide +kernel⟩
def spBent (K : PySem.W.Frag) (n : Nat) : Sp := fun vs H Q _ => ∃ (t c lS : Addr) (v : V) (d : PyData) (ws : List V) (es : List PyData) (b : Nat), vs = [.ref t, v, .ref lS] ∧ lS ≠ t ∧ H lS = some (.lst ws) ∧ DaAll t H ws es ∧ 0 < ws.length ∧ ws.length ≤ 1000 ∧ (∀ e ∈ es, shD e = true ∧ Nst 3 e ∧ psz e ≤ 900) ∧ Da t H v d ∧ shD d = true ∧ Nst n d ∧ psz d ≤ 900 ∧ Tape K H t c (b + (2 * n + 3)) ∧
  ∀ (H' : Hp) (v' : V) (d' : PyData), Ext t H H' → Tape K H' t c b → Da t H' v' d' → shD d' = true → Nst (n + 3) d' → psz d' ≤ 2 * psz d + 900 → Q v' H'
theorem ok_bent {n k : Nat} (hk : 2 ≤ k) {f : Addr} {fd : FuncData} (F : Fun K "_law_bent" "_law_bent" s__law_bent f fd) (B : Bl mg) (B9 : Bl9 mg) (D__law_draw : Kn P w K mg base 1 "_law_draw" ["_law_tape", "_law_many"] (spDraw K)) (D__law_pick : Kn P w K mg base 2 "_law_pick" ["_law_tape", "_law_items"] (spPick K))
    (D__law_bent : Kn P w K mg base k "_law_bent" ["_law_tape", "_law_x", "_law_some"] (spBent K n)) : FnOk P w K mg base CX0 (k + 1) f fd ["_law_tape", "_law_x", "_law_some"] (spBent K (n + 1)) := by
  refine F.ok sc__law_bent (fun vs H Q E h => ?_) (fun cdv A outer s H vs Q E hr h => ?_)
  · obtain ⟨t, c, lS, v, d, ws, es, b, rfl, _⟩ := h
    rfl
  · obtain ⟨t, c, lS, v, d, ws, es, b, rfl, nS, gS, dS, lw0, lw1, okS, hd, hsh, hnst, hz, hT, kk⟩ := h
    have hr__law_draw : Room 1 _ := hr.mono (by omega)
    have hr__law_pick : Room 2 _ := hr.mono hk
    have hr__law_bent : Room k _ := hr
    have hu64 := hr.units
    refine ⟨_, (pss_cons (ps_if (PW.pt (pw_and (pt_val (pe_callB call_isi (by rfl) B9.isinstance PyProof.Rows.boot_isinstance (pa_cons (pv 1) (pa_cons (pe_bltn (v := .ty "tuple") (by rfl) B9.tuple (by decide +kernel) rfl) pa_nil)))) (pw_and (pt_cmpR (op_neNil hu64) (pv 1) (pe_tup pa_nil) (nomark _)) (pw_and1 (pt_cmpR op_gt (pe_kn D__law_draw hr__law_draw (pa_cons (pv 0) (pa_cons pe_int pa_nil))) pe_int (nomark _))))))
  (pss_cons (ps_set (i := 3) sc__law_bent.nd rfl (Or.inl rfl) (pe_kn D__law_draw hr__law_draw (pa_cons (pv 0) (pa_cons (pe_callB call_len (by rfl) B.len PySem.boot_len (pa_cons (pv 1) pa_nil)) pa_nil))))
  (pss_one (ps_ret (pe_op (show OpR _ _ (rCatA K) from op_catA) (pe_op (show OpR _ _ (rCatA K) from op_catA) (pe_slice (show SlR _ (rSlA K) from sl_tupA) (pv 1) po_none (po_some (pv 3))) (pe_tup (pa_cons (pe_kn D__law_bent hr__law_bent (pa_cons (pv 0) (pa_cons (pe_ix ix_tup (pv 1) (pv 3) (fun _ _ => rfl)) (pa_cons (pv 2) pa_nil)))) pa_nil))) (pe_slice (show SlR _ (rSlA K) from sl_tupA) (pv 1) (po_some (pe_op op_add (pv 3) pe_int)) po_none)))))
  pss_nil)
  (pss_cons (ps_set (i := 4) sc__law_bent.nd rfl (Or.inl rfl) (pe_kn D__law_draw hr__law_draw (pa_cons (pv 0) (pa_cons pe_int pa_nil))))
  (pss_cons (ps_if (PW.pt (pw_and (pt_val (pe_callB call_isi (by rfl) B9.isinstance PyProof.Rows.boot_isinstance (pa_cons (pv 1) (pa_cons (pe_bltn (v := .ty "tuple") (by rfl) B9.tuple (by decide +kernel) rfl) pa_nil)))) (pw_and1 (pt_cmpR op_gt (pv 4) pe_int (nomark _)))))
  (pss_one (ps_ret (pe_ix ix_list (pe_lst (pa_cons (pe_callTy call_listN (by rfl) B.list (by decide +kernel) (pa_cons (pv 1) pa_nil)) (pa_cons (pe_slice (show SlR _ (rSlA K) from sl_tupA) (pv 1) po_none (po_some (pe_un un_neg pe_int))) (pa_cons (pe_op (show OpR _ _ (rCatA K) from op_catA) (pv 1) (pe_slice (show SlR _ (rSlA K) from sl_tupA) (pv 1) po_none (po_some pe_int))) pa_nil)))) (pe_op op_sub (pv 4) pe_int) (fun _ _ => rfl))))
  pss_nil)
  (pss_one (ps_ret (pe_kn D__law_pick hr__law_pick (pa_cons (pv 0) (pa_cons (pv 2) pa_nil)))))))), ?_⟩
    -- a value of the list
    have leafB : ∀ {H1 : Hp} {Q1 : VK}, Ext t H H1 → Tape K H1 t c (b + 1) → (∀ (H' : Hp) (v' : V) (d' : PyData), Ext t H H' → Tape K H' t c b → Da t H' v' d' → shD d' = true → Nst (n + 1 + 3) d' → psz d' ≤ 2 * psz d + 900 → Q1 v' H') → spPick K [.ref t, .ref lS] H1 Q1 E0 := fun {H1 Q1} E1 T1 k1 => by
      refine ⟨t, c, lS, ws, b, rfl, SqL.of (E1 _ _ nS gS), lw0, by omega, T1, fun H2 v2 E2 T2 hv => ?_⟩
      obtain ⟨d2, hd2, dv⟩ := (dS.kp (kp_ext (E1.trans E2) hT)).mem hv
      obtain ⟨o1, o2, o3⟩ := okS d2 hd2
      exact k1 H2 v2 d2 (E1.trans E2) T2 dv o1 (o2.mono (by omega)) (by omega)
    refine ⟨_, rfl, v, .ty "tuple", .type (tyName d), .type "tuple", isTup d, rfl, .ty "tuple", hd.ty, kit_tup d, _, rfl, ?_⟩
    cases ht : isTup d with
    | false =>
      refine iF rfl ?_
      refine ⟨_, rfl, t, c, 4, b + (2 * n + 4), rfl, by decide, by decide, hT.less (by omega), fun H2 r2 E2 T2 r21 r22 => ?_⟩
      refine ⟨_, rfl, v, .ty "tuple", .type (tyName d), .type "tuple", isTup d, rfl, .ty "tuple", (hd.kp (kp_ext E2 hT)).ty, kit_tup d, _, rfl, ?_⟩
      rw [ht]
      refine iF rfl ?_
      refine ⟨_, rfl, _, rfl, ?_⟩
      exact leafB E2 (T2.less (by omega)) kk
    | true =>
      obtain ⟨ds, rfl⟩ : ∃ ds, d = .tuple ds := by
        cases d with
        | tuple es => exact ⟨es, rfl⟩
        | _ => cases ht
      obtain ⟨a, xs, rfl, ga, da⟩ := da_row hd
      have le := da.len
      have hsh2 := (shD_tup hsh).2
      have lds : ds.length ≤ 900 := by
        have := pszL_lenB ds
        simp only [psz] at hz
        omega
      have lw : xs.length ≤ 900 := by omega
      refine iT rfl ?_
      refine ⟨_, rfl, slz rfl, fun q hq => ?_⟩
      have s1 := same_new (o := .tup []) hq
      have g1 : (upd H q (.tup [])) q = some (.tup []) := upd_same
      generalize upd H q (.tup []) = H1 at s1 g1 ⊢
      have T1 := hT.same s1
      refine ⟨a, q, xs, rfl, rfl, s1 _ _ ga, g1, _, rfl, ?_⟩
      refine' key_bent (K := K) (t := t) (c := c) (b := b + 2) (H := H) (fun h => ?_) (fun H2 E2 T2 => ?_)
      rotate_left
      · cases hx : xs.isEmpty with
        | true => exact iF rfl (iF rfl (h H1 (same_ext s1) (T1.less (by omega))))
        | false =>
          refine iT rfl ?_
          refine ⟨_, rfl, t, c, 4, b + (2 * n + 4), rfl, by decide, by decide, T1.less (by omega), fun H2 r2 E2 T2 r21 r22 => ?_⟩
          refine ⟨_, _, rfl, rfl, _, rfl, ?_⟩
          have EE2 := (same_ext s1).trans E2
          by_cases hr : 0 < r2
          · refine iT (decide_eq_true hr) ?_
            have lx : 1 ≤ xs.length := by
              cases xs with
              | nil => cases hx
              | cons _ _ => simp
            refine ⟨_, rfl, _, rfl, .ref a, xs.length, rfl, .inr ⟨xs, SqT.of (Ext.tups E2 T1 _ _ (s1 _ _ ga)), rfl⟩, t, c, (xs.length : Int), b + (2 * n + 3), rfl, by omega, by omega, T2.less (by omega), fun H4 at' E3 T4 a1 a2 => ?_⟩
            have EE4 := EE2.trans E3
            have ga4 := Ext.tups EE4 hT _ _ ga
            obtain ⟨l, x, r, dl, dx, dr, rfl, rfl, e3, q1, q2, q3⟩ := daAll_split at'.toNat (by omega) da
            obtain rfl : at' = (l.length : Int) := by omega
            have kp4 : Kp t H H4 := kp_ext EE4 hT
            have atx : atI (l ++ x :: r) (l.length : Int) = some x := at_ofG rfl (by simp)
            have hx1 : shD dx = true := shL_mem hsh2 (by simp)
            have hx2 : Nst n dx := hnst dx (by simp)
            have hzz : pszL dl + psz dx + pszL dr + 1 ≤ 900 := by
              simp only [psz, pszL_app, pszL] at hz
              omega
            rw [List.length_append, List.length_cons] at lw
            refine ⟨_, rfl, _, rfl, _, rfl, slA_ok ga4 fun H5 p5 s5 g5 => ?_⟩
            rw [cut_front] at g5
            have T5 := T4.same s5
            have ga5 := s5 _ _ ga4
            have E5 := EE4.trans (same_ext s5)
            refine ⟨_, rfl, _, rfl, _, rfl, _, _, _, _, rfl, rfl, SqT.of ga5, atx, _, rfl, t, c, lS, x, dx, ws, es, b, rfl, nS, E5 _ _ nS gS, dS.kp (kp_ext E5 hT), lw0, lw1, okS, (q2.kp kp4).kp (kp_same s5), hx1, hx2, by omega, T5, fun H6 v6 d6 E6 T6 da6 ok6 dep6 wt6 => ?_⟩
            refine ⟨slz rfl, fun q7 hq7 => ?_⟩
            have s7 := same_new (o := .tup [v6]) hq7
            have g7 : (upd H6 q7 (.tup [v6])) q7 = some (.tup [v6]) := upd_same
            generalize upd H6 q7 (.tup [v6]) = H7 at s7 g7 ⊢
            have g5' := s7 _ _ (Ext.tups E6 T5 _ _ g5)
            have ga7 := s7 _ _ (Ext.tups E6 T5 _ _ ga5)
            refine catA_ok g5' g7 (by show _ + 1 ≤ _; omega) fun H8 p8 s8 g8 => ?_
            refine ⟨_, rfl, _, rfl, _, _, rfl, rfl, _, rfl, ?_⟩
            unfold tNoPart
            refine slA_ok (s8 _ _ ga7) fun H9 p9 s9 g9 => ?_
            rw [cut_back] at g9
            refine catA_ok (s9 _ _ g8) g9 (by rw [List.length_append]; show _ + 1 + _ ≤ _; omega) fun H10 p10 s10 g10 => ?_
            have S10 := s7.trans (s8.trans (s9.trans s10))
            have EE10 := E5.trans (E6.trans (same_ext S10))
            have kp10 : Kp t H H10 := kp_ext EE10 hT
            have mm : ∀ e ∈ dl ++ [d6] ++ dr, e = d6 ∨ e ∈ dl ++ dx :: dr := fun e he => by
              simp only [List.mem_append, List.mem_cons, List.not_mem_nil, or_false] at he ⊢
              rcases he with (he | he) | he
              · exact .inr (.inl he)
              · exact .inl he
              · exact .inr (.inr (.inr he))
            refine kk H10 _ (.tuple (dl ++ [d6] ++ dr)) EE10 (T6.same S10) (.tup g10 (((q1.kp kp10).app (.cons (da6.kp (kp_same S10)) .nil)).app (q3.kp kp10))) ?_ ?_ ?_
            · refine sh_tup ?_ fun e he => ?_
              · simp only [List.length_append, List.length_cons, List.length_nil] at lds ⊢
                omega
              · rcases mm e he with rfl | he
                · exact ok6
                · exact shL_mem hsh2 he
            · intro e he
              rcases mm e he with rfl | he
              · exact dep6.mono (by omega)
              · exact (hnst e he).mono (by omega)
            · simp only [psz, pszL_app, pszL]
              omega
          · exact iF (decide_eq_false hr) (h H2 EE2 (T2.less (by omega)))
      · refine ⟨_, rfl, t, c, 4, b + 1, rfl, by decide, by decide, T2.less (by omega), fun H3 way E3 T3 w1 w2 => ?_⟩
        have EE3 := E2.trans E3
        have kp3 : Kp t H H3 := kp_ext EE3 hT
        refine ⟨_, rfl, .ref a, .ty "tuple", .type (tyName (.tuple ds)), .type "tuple", true, rfl, .ty "tuple", (hd.kp kp3).ty, kit_tup (.tuple ds), _, rfl, ?_⟩
        refine iT rfl ?_
        refine ⟨_, rfl, _, _, rfl, rfl, _, rfl, ?_⟩
        by_cases hw : 0 < way
        · refine iT (decide_eq_true hw) ?_
          have ga3 := Ext.tups EE3 hT _ _ ga
          refine ⟨_, rfl, a, _, rfl, SqT.of ga3, fun l10 nl10 ns => ?_⟩
          have s4 := same_new (o := .lst xs) nl10
          have g4 := upd_same (H := H3) (a := l10) (o := .lst xs)
          generalize upd H3 l10 (.lst xs) = H4 at s4 g4 ⊢
          refine ⟨_, rfl, _, rfl, _, rfl, slA_ok (s4 _ _ ga3) fun H5 p5 s5 g5 => ?_⟩
          rw [cut_last] at g5
          refine ⟨_, rfl, _, rfl, _, rfl, slA_ok (s5 _ _ (s4 _ _ ga3)) fun H6 p6 s6 g6 => ?_⟩
          rw [show (1 : Int) = ((1 : Nat) : Int) from rfl, cut_takeN] at g6
          refine catA_ok (s6 _ _ (s5 _ _ (s4 _ _ ga3))) g6 (by rw [List.length_take]; omega) fun H7 p7 s7 g7 => ?_
          refine ⟨slz rfl, fun q8 hq8 => ?_⟩
          have s8 := same_new (o := .lst [.ref l10, .ref p5, .ref p7]) hq8
          have g8 := upd_same (H := H7) (a := q8) (o := .lst [.ref l10, .ref p5, .ref p7])
          generalize upd H7 q8 (.lst [.ref l10, .ref p5, .ref p7]) = H8 at s8 g8 ⊢
          have S5 := s5.trans (s6.trans (s7.trans s8))
          have S4 := s4.trans S5
          have EE8 := EE3.trans (same_ext S4)
          have T8 := (T3.same S4).less (show b ≤ _ by omega)
          have da8 : DaAll t H8 xs ds := da.kp (kp_ext EE8 hT)
          have mt : ∀ (j : Nat), ∀ e ∈ ds.take j, e ∈ ds := fun j e he => List.mem_of_mem_take he
          rcases (by omega : way = 1 ∨ way = 2 ∨ way = 3) with rfl | rfl | rfl
          · exact ⟨_, rfl, _, _, rfl, rfl, q8, _, _, _, rfl, rfl, SqL.of g8, at_ofG (j := 0) rfl rfl, kk H8 _ (.list ds) EE8 T8 (.lst (S5 _ _ g4) ns da8) rfl True.intro (by simp only [psz]; omega)⟩
          · refine ⟨_, rfl, _, _, rfl, rfl, q8, _, _, _, rfl, rfl, SqL.of g8, at_ofG (j := 1) rfl rfl, kk H8 _ (.tuple (ds.take (xs.length - 1))) EE8 T8 (.tup ((s6.trans (s7.trans s8)) _ _ g5) (da8.take _)) (sh_tup (by rw [List.length_take]; omega) fun e he => shL_mem hsh2 (mt _ e he)) (fun e he => (hnst e (mt _ e he)).mono (by omega)) ?_⟩
            have := pszL_take ds (xs.length - 1)
            simp only [psz]
            omega
          · refine ⟨_, rfl, _, _, rfl, rfl, q8, _, _, _, rfl, rfl, SqL.of g8, at_ofG (j := 2) rfl rfl, kk H8 _ (.tuple (ds ++ ds.take 1)) EE8 T8 (.tup (s8 _ _ g7) (da8.app (da8.take _))) (sh_tup (by rw [List.length_append, List.length_take]; omega) fun e he => shL_mem hsh2 ((List.mem_append.mp he).elim id (mt _ e))) (fun e he => (hnst e ((List.mem_append.mp he).elim id (mt _ e))).mono (by omega)) ?_⟩
            have := pszL_take ds 1
            simp only [psz, pszL_app]
            omega
        · refine iF (decide_eq_false hw) ?_
          refine ⟨_, rfl, _, rfl, ?_⟩
          exact leafB EE3 (T3.less (by omega)) kk
end
end L3

/-! the places that are none; how long all places and parts are shown -/
namespace L3
open PySem PyProof.Rows PySem.Spec L2
/-- what holds of a tuple's members holds of a term's parts -/
theorem spots_here {q : Spot} (h : isTermD q.2 = true) : q ∈ spots q := by
  rw [spots_step h]
  exact List.mem_cons_self
theorem spots_kid {q : Spot} {j : Nat} {d : PyData} (h : isTermD q.2 = true) (hj : (ptsD q.2)[j]? = some d) : ∀ s ∈ spots (q.1 ++ [j], d), s ∈ spots q := fun s hs => by
  rw [spots_step h]
  refine List.mem_cons_of_mem _ (List.mem_flatMap.mpr ⟨(q.1 ++ [j], d), ?_, hs⟩)
  refine List.mem_of_getElem? (i := j) ?_
  rw [kidsP_get, hj]
  simp
/-- a place where there is a part is among the places -/
theorem walk_spots : ∀ (ds : List PyData) {p : List Nat} {m m' : PyData}, isTermD m = true → walkT m ds = some m' → ∃ r : List Nat, ds = r.map (fun k : Nat => PyData.int (k : Int)) ∧ (p ++ r, m') ∈ spots (p, m)
  | [], p, m, m', h, e => by
    cases e
    refine ⟨[], rfl, ?_⟩
    rw [List.append_nil]
    exact spots_here (q := (p, m)) h
  | d :: ds, p, m, m', h, e => by
    have e : (stepT m d).bind (fun m1 => walkT m1 ds) = some m' := e
    cases d with
    | int i =>
      cases hs : stepT m (.int i) with
      | none => rw [hs] at e; cases e
      | some m1 =>
        rw [hs] at e
        have hs' : (if 0 ≤ i ∧ i < (ptsD m).length then (ptsD m)[i.toNat]? else none) = some m1 := hs
        by_cases c : 0 ≤ i ∧ i < (ptsD m).length
        · rw [if_pos c] at hs'
          have ht := pts_term h (List.mem_of_getElem? hs')
          obtain ⟨r, rfl, hm⟩ := walk_spots ds (p := p ++ [i.toNat]) ht e
          refine ⟨i.toNat :: r, ?_, ?_⟩
          · rw [List.map_cons, Int.toNat_of_nonneg c.1]
          · have := spots_kid (q := (p, m)) h hs' _ hm
            rwa [List.append_assoc] at this
        · rw [if_neg c] at hs'
          cases hs'
    | _ => cases e
theorem at_spots {m d m' : PyData} (h : isTermD m = true) (e : atT m d = some m') : ∃ p : List Nat, d = plD p ∧ (p, m') ∈ spots ([], m) := by
  cases d with
  | tuple ds =>
    obtain ⟨r, rfl, hm⟩ := walk_spots ds (p := []) h e
    exact ⟨r, rfl, hm⟩
  | _ => cases e
/-- at a place there is its part -/
theorem spots_walk : ∀ (n : Nat) {p : List Nat} {m : PyData}, psz m ≤ n → isTermD m = true → ∀ s ∈ spots (p, m), ∃ r : List Nat, s.1 = p ++ r ∧ walkT m (r.map (fun k : Nat => PyData.int (k : Int))) = some s.2 := by
  intro n
  induction n with
  | zero =>
    intro p m hn h
    have := psz_pos m
    omega
  | succ n ih =>
    intro p m hn h s hs
    rw [spots_step (q := (p, m)) h] at hs
    rcases List.mem_cons.mp hs with rfl | hs
    · exact ⟨[], by simp, rfl⟩
    · obtain ⟨k, hk, hs⟩ := List.mem_flatMap.mp hs
      obtain ⟨j, ej⟩ := List.mem_iff_getElem?.mp hk
      rw [kidsP_get] at ej
      obtain ⟨d, hd, rfl⟩ := Option.map_eq_some_iff.mp ej
      have mem := List.mem_of_getElem? hd
      have lt := psz_pts h mem
      obtain ⟨r, e1, e2⟩ := ih (by omega) (pts_term h mem) s hs
      refine ⟨j :: r, by rw [e1]; simp, ?_⟩
      have lj : j < (ptsD m).length := (List.getElem?_eq_some_iff.mp hd).1
      show (stepT m (.int (j : Int))).bind _ = _
      have : stepT m (.int (j : Int)) = some d := by
        show (if 0 ≤ (j : Int) ∧ (j : Int) < (ptsD m).length then (ptsD m)[(j : Int).toNat]? else none) = some d
        rw [if_pos ⟨by omega, by omega⟩]
        exact hd
      rw [this]
      exact e2
theorem spots_at {m : PyData} (h : isTermD m = true) {s : Spot} (hs : s ∈ spots ([], m)) : atT m (plD s.1) = some s.2 := by
  obtain ⟨r, e1, e2⟩ := spots_walk (psz m) (Nat.le_refl _) h s hs
  rw [List.nil_append] at e1
  rw [e1]
  exact e2
end L3

namespace L3
open PySem PyProof.Rows PySem.Spec L2
/-- what holds of a tuple's members holds of a term's parts -/
theorem pts_her {Pr : PyData → Prop} (hP : ∀ es, Pr (.tuple es) → ∀ d ∈ es, Pr d) {m d : PyData} (h : isTermD m = true) (hd : d ∈ ptsD m) (hm : Pr m) : Pr d := by
  cases view_of h with
  | name x hx =>
    rw [pts_leaf h] at hd
    cases hd
  | whole e he =>
    rw [pts_leaf h] at hd
    cases hd
  | text e he =>
    rw [pts_leaf h] at hd
    cases hd
  | hole =>
    have hd : d ∈ ([] : List PyData) := hd
    cases hd
  | use a b ha hb =>
    have hd : d ∈ [a, b] := hd
    refine hP _ hm d ?_
    rcases List.mem_cons.mp hd with rfl | hd
    · simp
    · rw [List.mem_singleton.mp hd]
      simp
  | given x a hx ha =>
    rw [pts_given (pts_some h)] at hd
    rw [List.mem_singleton.mp hd]
    exact hP _ hm _ (by simp)
  | lett rs a hr ne ha =>
    rw [pts_let (pts_some h)] at hd
    rcases List.mem_append.mp hd with hd | hd
    · obtain ⟨q, hq, rfl⟩ := List.mem_map.mp hd
      exact hP _ (hP _ (hP _ hm (.tuple (rs.map rowP)) (by simp)) _ (List.mem_map_of_mem hq)) _ (by simp [rowP])
    · rw [List.mem_singleton.mp hd]
      exact hP _ hm _ (by simp)
  | matc a rs ha ne hr =>
    rw [pts_match (pts_some h)] at hd
    rcases List.mem_cons.mp hd with rfl | hd
    · exact hP _ hm _ (by simp)
    · obtain ⟨q, hq, rfl⟩ := List.mem_map.mp hd
      exact hP _ (hP _ (hP _ hm (.tuple (rs.map armP)) (by simp)) _ (List.mem_map_of_mem hq)) _ (by simp [armP])
theorem spots_her {Pr : PyData → Prop} (hP : ∀ es, Pr (.tuple es) → ∀ d ∈ es, Pr d) : ∀ (n : Nat) {p : List Nat} {m : PyData}, psz m ≤ n → isTermD m = true → Pr m → ∀ s ∈ spots (p, m), Pr s.2 := by
  intro n
  induction n with
  | zero =>
    intro p m hn h
    have := psz_pos m
    omega
  | succ n ih =>
    intro p m hn h hm s hs
    rw [spots_step (q := (p, m)) h] at hs
    rcases List.mem_cons.mp hs with rfl | hs
    · exact hm
    · obtain ⟨k, hk, hs⟩ := List.mem_flatMap.mp hs
      have mem := (kidsP_mem hk).1
      have lt := psz_pts h mem
      exact ih (p := k.1) (m := k.2) (by omega) (pts_term h mem) (pts_her hP h mem hm) s hs
def g3 : Nat → Nat
  | 0 => 0
  | n + 1 => 1 + 3 * g3 n
theorem sum3 {α : Type} {f : α → Nat} {b : Nat} : ∀ {l : List α}, (∀ x ∈ l, f x ≤ b) → (l.map f).sum ≤ l.length * b
  | [], _ => by simp
  | x :: l, h => by
    have h1 := h x List.mem_cons_self
    have h2 := sum3 (l := l) (b := b) fun y hy => h y (List.mem_cons_of_mem _ hy)
    rw [List.map_cons, List.sum_cons, List.length_cons, Nat.add_mul, Nat.one_mul]
    omega
theorem spots_num : ∀ (n : Nat) {p : List Nat} {m : PyData}, isTermD m = true → Drw n m → (spots (p, m)).length ≤ g3 n ∧ ∀ s ∈ spots (p, m), s.1.length ≤ p.length + n
  | 0, _, _, _, h => h.elim
  | n + 1, p, m, ht, h => by
    rw [spots_step (q := (p, m)) ht]
    refine ⟨?_, fun s hs => ?_⟩
    · rw [List.length_cons]
      unfold flat
      rw [List.length_flatMap]
      have h1 : ((kidsP p 0 (ptsD m)).map fun q => (spots q).length).sum ≤ (kidsP p 0 (ptsD m)).length * g3 n := sum3 fun q hq => by
        have mem := (kidsP_mem hq).1
        exact (spots_num n (p := q.1) (pts_term ht mem) (h.2 _ mem)).1
      rw [kidsP_len] at h1
      have h2 : (ptsD m).length * g3 n ≤ 3 * g3 n := Nat.mul_le_mul_right _ h.1
      show _ + 1 ≤ 1 + 3 * g3 n
      have h3 : ((kidsP (p, m).1 0 (ptsD (p, m).2)).map fun q => (spots q).length).sum ≤ (ptsD m).length * g3 n := h1
      omega
    · rcases List.mem_cons.mp hs with rfl | hs
      · show p.length ≤ _
        omega
      · obtain ⟨q, hq, hs⟩ := List.mem_flatMap.mp hs
        have mem := (kidsP_mem hq).1
        have l := (spots_num n (p := q.1) (pts_term ht mem) (h.2 _ mem)).2 s hs
        have l2 := (kidsP_mem hq).2
        have l3 : q.1.length = p.length + 1 := l2
        omega
/-- the numbers of a place are small -/
theorem spots_small : ∀ (n : Nat) {p : List Nat} {m : PyData}, isTermD m = true → Drw n m → (∀ k ∈ p, k < 3) → ∀ s ∈ spots (p, m), ∀ k ∈ s.1, k < 3
  | 0, _, _, _, h, _ => h.elim
  | n + 1, p, m, ht, h, hp => fun s hs => by
    rw [spots_step (q := (p, m)) ht] at hs
    rcases List.mem_cons.mp hs with rfl | hs
    · exact hp
    · obtain ⟨q, hq, hs⟩ := List.mem_flatMap.mp hs
      obtain ⟨j, ej⟩ := List.mem_iff_getElem?.mp hq
      rw [kidsP_get] at ej
      obtain ⟨d, hd, rfl⟩ := Option.map_eq_some_iff.mp ej
      have lj : j < (ptsD m).length := (List.getElem?_eq_some_iff.mp hd).1
      have mem := List.mem_of_getElem? hd
      refine spots_small n (pts_term ht mem) (h.2 _ mem) (fun k hk => ?_) s hs
      rcases List.mem_append.mp hk with hk | hk
      · exact hp k hk
      · rw [List.mem_singleton.mp hk]
        have := h.1
        omega
theorem wt_pl : ∀ {p : List Nat}, (∀ k ∈ p, k < 3) → wt (plD p) ≤ 7 + 12 * p.length := by
  intro p hp
  unfold plD
  rw [wt_tup]
  have key : ∀ l : List Nat, (∀ k ∈ l, k < 3) → wtL (l.map fun n : Nat => PyData.int (n : Int)) ≤ 12 * l.length := by
    intro l
    induction l with
    | nil => intro _; simp [wtL]
    | cons k l ih =>
      intro h
      have h1 := ih fun x hx => h x (List.mem_cons_of_mem _ hx)
      have h2 : wt (.int (k : Int)) ≤ 10 := by
        have hk := h k List.mem_cons_self
        match k, hk with
        | 0, _ => decide +kernel
        | 1, _ => decide +kernel
        | 2, _ => decide +kernel
      rw [List.map_cons, wtL_cons, List.length_cons]
      omega
  have := key p hp
  omega
end L3

/-! what the law shows can be shown -/
namespace L3
open PySem PyProof.Rows PySem.Spec L2
/-- a value that can be shown, a long one too -/
structure ShL (d : PyData) : Prop where
  sh : d.showable = true
  dep : d.depth ≤ 60
  len : d.shown.length ≤ sizeLine
  ni : ∀ i, d = .int i → i.natAbs.log2 < 1920
theorem shw_all : ∀ {ds : List PyData}, (∀ d ∈ ds, d.showable = true) → PyData.showableAll ds = true
  | [], _ => by simp [PyData.showableAll]
  | d :: ds, h => by
    simp only [PyData.showableAll, Bool.and_eq_true]
    exact ⟨h d List.mem_cons_self, shw_all fun e he => h e (List.mem_cons_of_mem _ he)⟩
theorem shw_mem : ∀ {ds : List PyData}, PyData.showableAll ds = true → ∀ d ∈ ds, d.showable = true
  | [], _, d, hd => nomatch hd
  | e :: ds, h, d, hd => by
    simp only [PyData.showableAll, Bool.and_eq_true] at h
    rcases List.mem_cons.mp hd with rfl | hd
    · exact h.1
    · exact shw_mem h.2 d hd
theorem dep_all {k : Nat} : ∀ {ds : List PyData}, (∀ d ∈ ds, d.depth ≤ k) → PyData.depthAll ds ≤ k
  | [], _ => by simp [PyData.depthAll]
  | d :: ds, h => by
    have h1 := h d List.mem_cons_self
    have h2 := dep_all fun e he => h e (List.mem_cons_of_mem d he)
    simp only [PyData.depthAll]
    omega
theorem dep_mem : ∀ {ds : List PyData}, ∀ d ∈ ds, d.depth ≤ PyData.depthAll ds
  | [], d, hd => nomatch hd
  | e :: ds, d, hd => by
    simp only [PyData.depthAll]
    rcases List.mem_cons.mp hd with rfl | hd
    · omega
    · have := dep_mem d hd
      omega
theorem wtL_all {k : Nat} : ∀ {ds : List PyData}, (∀ d ∈ ds, wt d ≤ k) → wtL ds ≤ ds.length * (k + 2)
  | [], _ => by simp [wtL]
  | d :: ds, h => by
    have h1 := h d List.mem_cons_self
    have h2 := wtL_all fun e he => h e (List.mem_cons_of_mem d he)
    rw [wtL_cons, List.length_cons, Nat.add_mul, Nat.one_mul]
    omega
theorem wt_memL : ∀ {ds : List PyData}, ∀ d ∈ ds, wt d ≤ wtL ds
  | [], d, hd => nomatch hd
  | e :: ds, d, hd => by
    rw [wtL_cons]
    rcases List.mem_cons.mp hd with rfl | hd
    · omega
    · have := wt_memL d hd
      omega
theorem shL_list {ds : List PyData} {k n : Nat} (hn : ds.length ≤ n) (hz : 7 + n * (k + 2) ≤ 16777216) (h : ∀ d ∈ ds, d.showable = true ∧ d.depth ≤ 50 ∧ wt d ≤ k) : ShL (.list ds) ∧ ShL (.tuple ds) := by
  have h1 := shw_all fun d hd => (h d hd).1
  have h2 := dep_all fun d hd => (h d hd).2.1
  have h3 := wtL_all fun d hd => (h d hd).2.2
  have h4 : ds.length * (k + 2) ≤ n * (k + 2) := Nat.mul_le_mul_right _ hn
  have h5 := shown_wt (.list ds)
  have h6 := shown_wt (.tuple ds)
  rw [wt_lst] at h5
  rw [wt_tup] at h6
  refine ⟨⟨by simp only [PyData.showable]; exact h1, by simp only [PyData.depth]; omega, by rw [sizeLine_eq]; omega, fun i z => nomatch z⟩, ⟨by simp only [PyData.showable]; exact h1, by simp only [PyData.depth]; omega, by rw [sizeLine_eq]; omega, fun i z => nomatch z⟩⟩
/-- shown, flat, not deep -/
def Shd (d : PyData) : Prop := d.showable = true ∧ d.depth ≤ 15 ∧ wt d ≤ tw 4
theorem shd_her : ∀ es, Shd (.tuple es) → ∀ d ∈ es, Shd d := fun es h d hd => by
  obtain ⟨h1, h2, h3⟩ := h
  simp only [PyData.showable] at h1
  simp only [PyData.depth] at h2
  rw [wt_tup] at h3
  have := dep_mem d hd
  have := wt_memL d hd
  exact ⟨shw_mem h1 d hd, by omega, by omega⟩
theorem tw4 : tw 4 = 56300 := by decide
theorem spots_shd {m : PyData} (g : GoodT 4 m) : ∀ s ∈ spots ([], m), Shd s.2 := spots_her shd_her _ (Nat.le_refl _) g.term ⟨g.shw, g.dep, g.w⟩
theorem spots_121 {m : PyData} (g : GoodT 4 m) : (spots ([], m)).length ≤ 121 := (spots_num 5 g.term g.drw).1
theorem pl_show {p : List Nat} (h3 : ∀ k ∈ p, k < 3) : (plD p).showable = true ∧ (plD p).depth ≤ 1 := by
  constructor
  · unfold plD
    simp only [PyData.showable]
    refine shw_all fun d hd => ?_
    obtain ⟨k, hk, rfl⟩ := List.mem_map.mp hd
    have := h3 k hk
    rcases (by omega : k = 0 ∨ k = 1 ∨ k = 2) with rfl | rfl | rfl <;> decide +kernel
  · unfold plD
    simp only [PyData.depth]
    have := dep_all (k := 0) (ds := p.map fun n : Nat => PyData.int (n : Int)) fun d hd => by
      obtain ⟨k, hk, rfl⟩ := List.mem_map.mp hd
      simp [PyData.depth]
    omega
theorem spots_pl {m : PyData} (g : GoodT 4 m) : ∀ s ∈ spots ([], m), (∀ k ∈ s.1, k < 3) ∧ s.1.length ≤ 5 := fun s hs =>
  ⟨spots_small 5 g.term g.drw (fun _ h => by cases h) s hs, by have := (spots_num 5 g.term g.drw (p := [])).2 s hs; simpa using this⟩
theorem pl_ok {p : List Nat} (h3 : ∀ k ∈ p, k < 3) (hl : p.length ≤ 6) : ShowOk (plD p) := by
  obtain ⟨a, b⟩ := pl_show h3
  have c := wt_pl h3
  have d := shown_wt (plD p)
  exact ⟨a, by omega, by omega, fun i z => nomatch z⟩
/-- all places -/
theorem show_places {m : PyData} (g : GoodT 4 m) : ShL (.list ((spots ([], m)).map fun q => plD q.1)) := by
  refine (shL_list (k := 67) (n := 121) (by rw [List.length_map]; exact spots_121 g) (by decide) fun d hd => ?_).1
  obtain ⟨s, hs, rfl⟩ := List.mem_map.mp hd
  obtain ⟨h3, h5⟩ := spots_pl g s hs
  obtain ⟨a, b⟩ := pl_show h3
  have c := wt_pl h3
  exact ⟨a, by omega, by omega⟩
/-- all parts -/
theorem show_parts {m : PyData} (g : GoodT 4 m) : ShL (.list ((spots ([], m)).map (·.2))) := by
  refine (shL_list (k := 56300) (n := 121) (by rw [List.length_map]; exact spots_121 g) (by decide) fun d hd => ?_).1
  obtain ⟨s, hs, rfl⟩ := List.mem_map.mp hd
  obtain ⟨a, b, c⟩ := spots_shd g s hs
  rw [tw4] at c
  exact ⟨a, by omega, c⟩
/-- a value that is shown like no place has no part -/
theorem at_none {m d : PyData} (h : isTermD m = true) (hn : d.shown ∉ (spots ([], m)).map fun q => (plD q.1).shown) : atT m d = none := by
  cases e : atT m d with
  | none => rfl
  | some m' =>
    obtain ⟨p, rfl, hs⟩ := at_spots h e
    exact absurd (List.mem_map.mpr ⟨_, hs, rfl⟩) hn
/-- the free names are shown -/
theorem fre_name : ∀ {m : PyData} {hs : List Str} {x : Str}, Fre m hs x → isTermD m = true → isNameD (.str x) = true := by
  intro m hs x h
  induction h with
  | @here m hs x e n =>
    intro ht
    cases view_of ht with
    | name y hy =>
      have e : some y = some x := e
      injection e with e
      rw [← e]
      exact hy
    | _ => first | cases e | (exfalso; revert e; unfold nameOf; intro e; exact absurd e (by decide))
  | @deep m hs x q e hq _ ih => exact fun ht => ih (kids_term ht q hq)
theorem name_wt {x : Str} (h : isNameD (.str x) = true) : wt (.str x) ≤ 90 := by
  have h : (wok x && !decide (x ∈ barL)) = true := h
  rw [Bool.and_eq_true] at h
  have h1 := h.1
  unfold wok at h1
  simp only [Bool.and_eq_true, decide_eq_true_eq, Array.all_eq_true] at h1
  have h3 : ∀ c ∈ x.cps.toList, lo c = true := fun c hc => by
    obtain ⟨i, hi, rfl⟩ := List.mem_iff_getElem.mp hc
    exact h1.2 i (by simpa using hi)
  have h2 := StrLaws.reprText_len x (fun c hc => by
    have := h3 c hc
    unfold lo at this
    simp only [Bool.and_eq_true, decide_eq_true_eq] at this
    omega)
  have e : (PyData.str x).shown = reprText x := by simp only [PyData.shown]
  simp only [wt]
  rw [e]
  omega
theorem show_names {m : PyData} {ss : List Str} (h : isTermD m = true) (hl : ss.length ≤ 3000) (hf : FreeOf m ss) : ShL (nmsD ss) := by
  refine (shL_list (k := 90) (n := 3000) (by rw [List.length_map]; exact hl) (by decide) fun d hd => ?_).2
  obtain ⟨x, hx, rfl⟩ := List.mem_map.mp hd
  have hw := name_wt (fre_name ((hf.2.2 x).mp hx) h)
  exact ⟨by simp [PyData.showable], by simp [PyData.depth], hw⟩
end L3

/-! the odd values; the pairs of places and parts in the heap -/
namespace L3
open PySem PyProof.Rows PySem.Spec L2
def nstB : Nat → PyData → Bool
  | 0, _ => false
  | n + 1, .tuple ds => ds.all (nstB n)
  | _ + 1, _ => true
theorem nstB_ok : ∀ {n : Nat} {d : PyData}, nstB n d = true → Nst n d
  | 0, _, h => by cases h
  | n + 1, .tuple ds, h => fun d hd => nstB_ok (List.all_eq_true.mp (show ds.all (nstB n) = true from h) d hd)
  | n + 1, .none, _ => True.intro
  | n + 1, .bool _, _ => True.intro
  | n + 1, .int _, _ => True.intro
  | n + 1, .str _, _ => True.intro
  | n + 1, .list _, _ => True.intro
  | n + 1, .dict _, _ => True.intro
def smallB : PyData → Bool
  | .int i => decide (i.natAbs.log2 < 1920)
  | _ => true
/-- what is asked of a value that the law bends with, and of a value that it shows -/
structure OddOk (d : PyData) : Prop where
  sh : shD d = true
  nst : Nst 3 d
  z : psz d ≤ 900
  show' : ShowOk d
def oddB' (d : PyData) : Bool := shD d && nstB 3 d && decide (psz d ≤ 900) && d.showable && decide (d.depth ≤ 60) && decide (d.shown.length ≤ 100000) && smallB d
theorem oddB'_ok {d : PyData} (h : oddB' d = true) : OddOk d := by
  unfold oddB' at h
  simp only [Bool.and_eq_true, decide_eq_true_eq] at h
  obtain ⟨⟨⟨⟨⟨⟨h1, h2⟩, h3⟩, h4⟩, h5⟩, h6⟩, h7⟩ := h
  exact ⟨h1, nstB_ok h2, h3, h4, h5, h6, fun i e => by
    rw [e] at h7
    exact of_decide_eq_true h7⟩
theorem odds_okB : odds.all oddB' = true := by decide +kernel
theorem odd_ok {d : PyData} (h : d ∈ odds) : OddOk d := oddB'_ok (List.all_eq_true.mp odds_okB d h)
/-- the pairs of places and parts -/
structure Pairs2 (t : Addr) (H : Hp) (us ps ms : List V) (L : List Spot) : Prop where
  p : DaAll t H ps (L.map fun q => plD q.1)
  m : DaAll t H ms (L.map (·.2))
  u : ∀ (i : Nat) (u : V), us[i]? = some u → ∃ (a : Addr) (x y : V), u = .ref a ∧ H a = some (.tup [x, y]) ∧ ps[i]? = some x ∧ ms[i]? = some y
theorem pairs_of {t : Addr} {H : Hp} : ∀ {us : List V} {L : List Spot}, DaAll t H us (L.map spotP) → ∃ ps ms, Pairs2 t H us ps ms L
  | us, [], h => by
    cases us with
    | nil => exact ⟨[], [], .nil, .nil, fun i u e => by cases e⟩
    | cons _ _ => cases h
  | us, q :: L, h => by
    cases us with
    | nil => cases h
    | cons v vs =>
      have h : DaAll t H (v :: vs) (spotP q :: L.map spotP) := h
      cases h with
      | cons h1 h2 =>
        obtain ⟨ps, ms, R⟩ := pairs_of h2
        obtain ⟨a, xs, rfl, ga, da⟩ := da_row (show Da t H v (.tuple [plD q.1, q.2]) from h1)
        cases da with
        | @cons x _ _ _ dx r1 =>
          cases r1 with
          | @cons y _ _ _ dy r2 =>
            cases r2
            refine ⟨x :: ps, y :: ms, .cons dx R.p, .cons dy R.m, fun i u e => ?_⟩
            cases i with
            | zero =>
              cases e
              exact ⟨a, x, y, rfl, ga, rfl, rfl⟩
            | succ i => exact R.u i u e
theorem Pairs2.same {t : Addr} {H H' : Hp} {us ps ms : List V} {L : List Spot} (h : Pairs2 t H us ps ms L) (s : Same H H') : Pairs2 t H' us ps ms L := ⟨h.p.kp (kp_same s), h.m.kp (kp_same s), fun i u e => by
  obtain ⟨a, x, y, e1, e2, e3⟩ := h.u i u e
  exact ⟨a, x, y, e1, s _ _ e2, e3⟩⟩
theorem Pairs2.ext {K : PySem.W.Frag} {t c : Addr} {b : Nat} {H H' : Hp} {us ps ms : List V} {L : List Spot} (h : Pairs2 t H us ps ms L) (e : Ext t H H') (T : Tape K H t c b) : Pairs2 t H' us ps ms L := ⟨h.p.kp (kp_ext e T), h.m.kp (kp_ext e T), fun i u q => by
  obtain ⟨a, x, y, e1, e2, e3⟩ := h.u i u q
  exact ⟨a, x, y, e1, Ext.tups e T _ _ e2, e3⟩⟩
end L3

/-! [e for x in xs if ..], where it matters that the new list is not the dict of the modules -/
namespace L3
open PySem PySem.Spec PyProof.Rows L2
def tLcN (wi : TI) (g : TG) (tt : TT) (te : TE) (vs : List Nat) : TE := fun σ H Q => wi σ H fun J H1 => ∀ D, H1 D = none → D ≠ sysModules → ∃ W : Nat → Nat → Hp → Prop, (∃ m, W 0 m (upd H1 D (.lst []))) ∧ ∀ i m H, W i m H →
  (J.stop i H ∧ Q (.ref D) H) ∨ (J.go i H ∧ ∃ Nx : Hp → Prop, (∀ H', Nx H' → ∃ m', m' < m ∧ W (i + 1) m' H') ∧ ∀ x H', J.yld i H x H' → g x (wipe σ vs) H' fun σ2 H2 => wipe σ2 vs = wipe σ vs ∧ tt σ2 H2 fun b H3 =>
    if b = true then te σ2 H3 fun y H4 => ∃ acc, H4 D = some (.lst acc) ∧ acc.length < sizeLine ∧ Nx (upd H4 D (.lst (acc ++ [y]))) else Nx H3)
section
variable {X : Cx}
theorem pe_lcN {elt tg iter : Expr} {ifs : List Expr} {scope : Scope} {own : List (Str × Nat)} {pos : Pos} {wi : TI} {g : TG} {tt : TT} {te : TE} (calm : X.calm = true) (nd : X.N.Nodup) (hi : PI X tg iter wi) (ok : BlkOk X.N X.env.scope scope own)
    (hg : ∀ (s : Shared) (H : Hp) (C : Addr) (cl : List (Str × Addr)) (fp : List Addr), PG (X.blk s H scope (compEnvC scope cl C X.env) fp) tg g)
    (ht : ∀ (s : Shared) (H : Hp) (C : Addr) (cl : List (Str × Addr)) (fp : List Addr), PTs (X.blk s H scope (compEnvC scope cl C X.env) fp) ifs tt)
    (he : ∀ (s : Shared) (H : Hp) (C : Addr) (cl : List (Str × Addr)) (fp : List Addr), PE (X.blk s H scope (compEnvC scope cl C X.env) fp) elt te)
    (hfold : ∀ x, foldedSetIterable iter X.env x = pure x := by intro _; rfl) :
    PE X (.ListComp elt [⟨tg, iter, ifs, 0⟩] scope pos) (tLcN wi g tt te (own.map (·.2))) := by
  refine ⟨fun pins s σ H Q I h => ?_⟩
  rw [eval_ListComp]
  have free : ∀ y ∈ scope.names, y.2 = .free → ∃ c, X.env.cells.lookup y.1 = some c := fun y hy q => (ok.free y hy q).elim (fun k => I.ok.has _ (.inl k)) (fun k => I.ok.has _ (.inr k))
  have last : ∀ {D C : Addr} {s' : Shared} {m : Str → Option Value} {H' : Hp}, Inv X pins σ H' s' → Q (.ref D) H' → s'.heap.Ns C m → FpOk X pins H' C → compPost (model X.prog X.w) X.A X.xe none (EP X pins σ Q) (.ref D) C (.ok .next) s' := by
    intro D C s' m H' I' q hn f
    obtain ⟨f0, f1, f2, f3, f4, f5⟩ := f
    exact ⟨m, hn, fun h'' sb => ⟨.ref D, H', I'.turned (t' := s'.toks) (fun c o n q => (sb.2 c n).trans q) f0 f1 f3 f4 f5, rfl, q⟩⟩
  refine wpAny_comprehension_free (use := none) rfl hfold (closure_ok free) ok.kind (fun y hy q => by rw [ok.uniq y hy, q]) (thn (hi.run pins s σ H _ I h) fun xv s1 hx => thn hx fun itv s2 come => ?_)
  obtain ⟨it, fp, tn, J, H2, ev, I2, T, st2, F2, q⟩ := come
  subst ev
  refine wpAny_newObj_type (newEnv_comp ?_) (by show 0 ≤ sizeLine; decide)
  generalize eD : s2.heap.objs.size = D
  obtain ⟨W, ⟨m0, w0⟩, turn⟩ := q D (I2.hok.fresh (Nat.le_of_eq eD)) (by rw [← eD]; exact Nat.ne_of_gt I2.big)
  generalize eN : ({ cls := .type "list", data := .seq ([] : List Value).toArray } : Obj) = N
  have at3 : (s2.heap.push N).get? D = some N := by
    rw [← eD, ← eN]
    exact Heap.get?_push_size _ rfl
  have k3 : ∀ c o, s2.heap.get? c = some o → (s2.heap.push N).get? c = some o := fun c o q => Heap.get?_push_of_some _ q
  have I3 : Inv X pins σ (upd H2 D (.lst [])) { s2 with heap := s2.heap.push N } := I2.laid (t' := s2.toks) k3 (Nat.le_of_eq eD) ⟨Nat.zero_le _, [], 0, .nil, by rw [at3, ← eN]⟩
  have st3 : tn 0 (s2.heap.push N) := T.keep _ _ _ st2 fun c _ o q => k3 c o q
  have lt3 : ∀ c ∈ fp, c < s2.heap.objs.size := fun c m => let ⟨_, q, _⟩ := T.obj _ _ st2 c m; Heap.lt_size q
  have F3 : ∀ c ∈ fp, FpOk X pins (upd H2 D (.lst [])) c ∧ c < (s2.heap.push N).objs.size := fun c m => by
    refine ⟨⟨?_, (F2 c m).2⟩, ?_⟩
    · rw [upd_ne (by rw [← eD]; exact Nat.ne_of_lt (lt3 c m))]
      exact (F2 c m).1
    · obtain ⟨_, q, _⟩ := T.obj _ _ st3 c m
      exact Heap.lt_size q
  generalize e3 : ({ s2 with heap := s2.heap.push N } : Shared) = s3 at I3 ⊢
  have h3 : s3.heap = s2.heap.push N := by rw [← e3]
  rw [← h3] at F3 st3
  generalize eH : upd H2 D (.lst []) = H3 at I3 F3 w0 ⊢
  have I4 := block_start I3 ok nd F3
  have pg := hg s3 H3 s3.heap.objs.size (cellsFrom (s3.heap.objs.size + 1) scope.names (cloFrom X.env.cells scope.names [])) fp
  have pt := ht s3 H3 s3.heap.objs.size (cellsFrom (s3.heap.objs.size + 1) scope.names (cloFrom X.env.cells scope.names [])) fp
  have pe := he s3 H3 s3.heap.objs.size (cellsFrom (s3.heap.objs.size + 1) scope.names (cloFrom X.env.cells scope.names [])) fp
  show codeAny _ _ (.compStart (.ListComp elt [⟨tg, iter, ifs, 0⟩] scope pos) 0 (.ref it) (.ref D) (compEnvC scope (cellsFrom (s3.heap.objs.size + 1) scope.names (cloFrom X.env.cells scope.names [])) s3.heap.objs.size X.env)) (compPost _ _ _ none (EP X pins σ Q) (.ref D) s3.heap.objs.size) { s3 with heap := pushCells (s3.heap.push { cls := .type "dict", data := .dict #[] }) scope.names }
  generalize ec : compEnvC scope (cellsFrom (s3.heap.objs.size + 1) scope.names (cloFrom X.env.cells scope.names [])) s3.heap.objs.size X.env = ce at I4 pg pt pe ⊢
  have cl : ce.locals = s3.heap.objs.size := by rw [← ec]; rfl
  generalize e4 : ({ s3 with heap := pushCells (s3.heap.push { cls := .type "dict", data := .dict #[] }) scope.names } : Shared) = s4 at I4 ⊢
  have st4 : tn 0 s4.heap := T.keep _ _ _ st3 fun c _ o q => by
    rw [← e4]
    exact pushCells_keeps _ _ _ _ (Heap.get?_push_of_some _ q)
  have still : ∀ {σ' : L2.St} {H' : Hp} {s' : Shared}, Inv (X.blk s3 H3 scope ce fp) [] σ' H' s' → (∀ c ∈ fp, H' c = none) → ∀ c ∈ fp, FpOk (X.blk s3 H3 scope ce fp) [] H' c := fun {σ' H' s'} J n c m =>
    ⟨n c m, (J.ok.exf c m).1, J.ok.exfs c m, .inl m, fun y d q => (J.ok.exf c m).2 y d q, fun r hr => absurd (show r ∈ ([] : List (Addr × Obj)) ++ [] from hr) (by simp)⟩
  have loop : codeAny (model X.prog X.w) X.A (.compLoop (.ListComp elt [⟨tg, iter, ifs, 0⟩] scope pos) 0 (.ref it) (.ref D) ce) (compPost (model X.prog X.w) X.A X.xe none (EP X pins σ Q) (.ref D) s3.heap.objs.size) s4 := by
    refine compLoop_any (fun n s' => ∃ i H', Inv (X.blk s3 H3 scope ce fp) [] (wipe σ (own.map (·.2))) H' s' ∧ tn i s'.heap ∧ (∀ c ∈ fp, H' c = none) ∧ W i n H') ?_ m0 ⟨0, H3, I4, st4, fun c m => (F3 c m).1.1, w0⟩
    rintro n s5 ⟨i, H5, I5, st5, n5, w5⟩
    rcases turn i n H5 w5 with ⟨stop, qq⟩ | ⟨go, Nx, hNx, step⟩
    · refine thnF (T.done (X.blk s3 H3 scope ce fp) rfl rfl rfl calm i [] s5 _ H5 (fun _ _ => False) I5 (still I5 n5) st5 stop) fun r s6 ⟨er, I6⟩ => ?_
      subst er
      have I7 : Inv X pins σ H5 s6 := I3.call' (ch := fp) I6.os I6.base I6.hok I6.bare fun c m => ⟨(F3 c m).1.2.2.2.1, (F3 c m).1.2.1, (F3 c m).1.2.2.2.2.1, (F3 c m).1.2.2.2.2.2⟩
      have nC : H5 s3.heap.objs.size = none := by
        have q : H5 ce.locals = none := I6.free
        rw [cl] at q
        exact q
      obtain ⟨mm, hn, _⟩ := I6.loc
      have hn' : s6.heap.Ns ce.locals mm := hn
      rw [cl] at hn'
      exact last I7 qq hn' (I3.fpOk (Nat.le_refl _) nC)
    · refine thnF (T.item (X.blk s3 H3 scope ce fp) rfl rfl rfl calm i [] s5 _ H5 (fun _ _ => False) I5 (still I5 n5) st5 go) fun r s6 ⟨u, er, h6⟩ => ?_
      subst er
      refine thnF h6 fun _ s7 ⟨x, H7, I7, r7, y7, st7, n7⟩ => ?_
      have J7 := I7.pinned (still I7 n7) (T.obj _ _ st7)
      refine thnF (pg.run _ s7 _ H7 x u _ J7 r7 (step x H7 y7)) fun _ s8 ⟨σ8, H8, I8, hw8, q8⟩ => ?_
      refine thnF (pt.run _ s8 σ8 H8 _ I8 q8) fun c s9 ⟨H9, I9, q9⟩ => ?_
      have fin : ∀ {s' : Shared} {H' : Hp}, Inv (X.blk s3 H3 scope ce fp) ([] ++ pinsAt fp s7.heap) σ8 H' s' → Nx H' → ∃ m, m < n ∧ ∃ i H', Inv (X.blk s3 H3 scope ce fp) [] (wipe σ (own.map (·.2))) H' s' ∧ tn i s'.heap ∧ (∀ c ∈ fp, H' c = none) ∧ W i m H' := fun {s' H'} J nx => by
        obtain ⟨m', lt, w'⟩ := hNx H' nx
        have pin : ∀ c ∈ fp, ∀ o, s7.heap.get? c = some o → s'.heap.get? c = some o ∧ H' c = none := fun c m o q =>
          let w := J.pin (c, o) (List.mem_append_right _ (List.mem_append_right _ (mem_pinsAt m q)))
          ⟨w.1, w.2.1⟩
        have ln : (wipe σ (own.map (·.2))).length = σ8.length := by rw [← hw8, wipe_length]
        refine ⟨m', lt, i + 1, H', (J.unpinned (pins := [])).weak ln (fun j v q => ?_), T.keep _ _ _ st7 fun c m o q => (pin c m o q).1, fun c m => ?_, w'⟩
        · rw [← hw8] at q
          exact (wipe_some q).1
        · obtain ⟨o, q, _⟩ := T.obj _ _ st7 c m
          exact (pin c m o q).2
      cases c with
      | false =>
        simp only [Bool.false_eq_true, if_false] at q9 ⊢
        exact fin I9 q9
      | true =>
        simp only [if_true] at q9 ⊢
        refine thnF (pe.run _ s9 σ8 H9 _ I9 q9) fun zz s10 ⟨yv, H10, I10, r10, acc, hD10, hz10, nx⟩ => ?_
        exact app_ok (X := X.blk s3 H3 scope ce fp) I10 hD10 hz10 r10 fun s11 I11 => fin I11 nx
  exact codeAny_compStart_list loop (T.self X.A 0 _ _ _ st4 loop)
end
end L3

/-! a text in a list of texts -/
namespace L3
open PySem PySem.Spec PyProof.Rows L2
theorem in_strs (x : Str) : ∀ l : List Str, inV (.str x) (l.map V.str) = decide (x ∈ l)
  | [] => by simp [inV]
  | y :: l => by
    have ih := in_strs x l
    unfold inV at ih ⊢
    rw [List.map_cons, List.any_cons, ih]
    show ((y == x) || decide (x ∈ l)) = _
    by_cases e : y = x
    · subst e
      rw [beq_self_eq_true, decide_eq_true (List.mem_cons_self)]
      rfl
    · have e2 : ¬ x = y := fun z => e z.symm
      rw [beq_eq_false_iff_ne.mpr e]
      simp [e2]
theorem flat_strs : ∀ l : List Str, (l.map V.str).all flatV = true
  | [] => rfl
  | y :: l => by
    rw [List.map_cons, List.all_cons, flat_strs l]
    rfl
end L3

/-! list(g), where it matters that the new list is not the dict of the modules -/
namespace L3
open PySem PySem.Spec PyProof.Rows L2
variable {X : Cx}
def tListN (tg : TGen) : TE := fun σ H Q => tg σ H fun out H2 => ∀ p, H2 p = none → p ≠ sysModules → Q (.ref p) (upd H2 p (.lst out))
theorem pe_listN {k : Nat} {p pos : Pos} {e : Expr} {tg : TGen} (h : PGen X k e tg E0) (hx : Passes (CX X.prog X.w) X E0) (hr : Room (k + 3) X.A) (hg : Gl X "list") (hm : X.mg "list" = none) (he : starEach [e] X.env = (false, eval e X.env) :: starEach [] X.env := by rfl) : PE X (.Call (.Name "list" p) [e] [] pos) (tListN tg) := by
  have hns : NoStop X.K E0 := fun _ _ _ z => z.elim
  refine ⟨fun pins s σ H Q I hq => ?_⟩
  refine wpAny_Call_Name_kw (ld_blt I hg hm (by decide +kernel : bootBuiltins ("list" : Str) = some (.type "list")) ?_ (by decide) (by decide))
  refine PyProof.Rows.callWith_type1 ?_ he rfl
  rw [he]
  refine Calls.spliced_cons (thn (h.run pins s σ H _ I hq) fun u s1 ⟨H1, s2, ex, J, hex, made⟩ => Calls.spliced_nil ?_)
  have lt : s2.heap.objs.size ≤ s1.heap.objs.size := by
    obtain ⟨_, _, _, _, h1, h2, _⟩ := made
    exact Nat.le_trans h1 (Nat.le_of_lt h2)
  refine call_list_new hr J.ok.frames made (fun S s' acc c H' ys q0 q1 q2 hl q3 q4 q5 q6 q7 q8 => ?_) fun e s' g hc => ?_
  · have big := Nat.lt_of_lt_of_le J.big (Nat.le_trans lt q0)
    exact ⟨.ref S, upd H' S (.lst ys), J.drained (Nat.le_trans lt q0) hl q1 q2 hex q3 q4 q5 q6 q7, rfl, q8 S q7 (Nat.ne_of_gt big)⟩
  · obtain ⟨_, _, _, _, _, _, _, _, _, _, _, _, z⟩ := hc
    exact z.elim
end L3

namespace L3
open PySem PyProof.Rows PySem.Spec L2
theorem show_bl (b : Bool) : ShL (.bool b) := ⟨by cases b <;> decide +kernel, by cases b <;> decide +kernel, by rw [sizeLine_eq]; cases b <;> decide +kernel, fun i z => nomatch z⟩
theorem da_zeros {t : Addr} {H : Hp} : ∀ n : Nat, DaAll t H (List.replicate n [V.int 0]).flatten (List.replicate n (.int 0))
  | 0 => .nil
  | n + 1 => .cons (.int 0) (da_zeros n)
section
variable {P : Program} {w : World} {K : PySem.W.Frag} {mg : Str → Option Value} {base : Heap}
abbrev s_law : Stmt := topS 49
abbrev N_law : List Str := ["_law_script", "_law_tape", "_law_turn", "_law_names", "_law_term_here", "_law_spots_here", "_law_x", "_law_again", "_law_spot", "_law_part"]
theorem sc_law : FnScope N_law ["_law_script"] (defScope s_law) := ⟨rfl, rfl, rfl, by decide +kernel, rfl, by decide +kernel, by decide +kernel⟩
def spLaw (K : PySem.W.Frag) : List V → Hp → VK → Prop := fun vs H Q => ∃ (a : Addr) (ns : List Int), vs = [.ref a] ∧ SqL K H a (ns.map V.int) ∧ ∀ H', Q (.bl true) H'
theorem law_run {C fp : Addr} {f : Addr} {fd fdp : FuncData} (F : Fun K "law" "law" s_law f fd) (B : Bl mg) (B9 : Bl9 mg) (BM : mg "min" = none) (BS : mg "set" = none)
    (G_places : GFn P w K mg base 6 fp fdp ["term"] spPlaces) (hm_places : mg "places" = some (.ref fp)) (hk_places : PySem.W.keepIn K (.ref fp) = true) (hb_places : Binds K fdp ["term"] [])
    (D__law_begin : Kn P w K mg base 1 "_law_begin" ["_law_script"] (spBegin K)) (D__law_draw : Kn P w K mg base 1 "_law_draw" ["_law_tape", "_law_many"] (spDraw K)) (D__law_pick : Kn P w K mg base 2 "_law_pick" ["_law_tape", "_law_items"] (spPick K)) (D__law_odd : Kn P w K mg base 3 "_law_odd" ["_law_tape"] (spOdd K)) (D__law_words : Kn P w K mg base 3 "_law_words" ["_law_tape", "_law_many"] (spWords K))
    (D__law_term : Kn P w K mg base 7 "_law_term" ["_law_tape", "_law_names", "_law_deep"] (spLTerm K 5)) (D__law_spots : Kn P w K mg base 6 "_law_spots" ["_law_term_here", "_law_spot"] (spSpots 5)) (D__law_free : Kn P w K mg base 6 "_law_free" ["_law_term_here", "_law_hidden"] (spLFree 5)) (D__law_is_one : Kn P w K mg base 20 "_law_is_one" ["_law_x"] (spOne 18)) (D__law_bent : Kn P w K mg base 17 "_law_bent" ["_law_tape", "_law_x", "_law_some"] (spBent K 15))
    (D_is_term : Kn P w K mg base 6 "is_term" ["value"] spTerm) (D_free_names : Kn P w K mg base 9 "free_names" ["term"] spFree) (D_part_at : KnX P w K mg base 6 "part_at" ["term", "place"] (spAt C)) (D__law_is_outside : KnG P w K mg base 7 "_law_is_outside" spOut) : LawRun P w K mg base f fd "_law_script" (spLaw K) := by
  refine lawRun_of F sc_law (k := 24) ⟨rfl, by decide, by decide⟩ (fun cdv s H v Q hr h => ?_)
  obtain ⟨a, ns, h, hS, k⟩ := h
  cases h
  have hgd : (callerA.deeper (PyProof.Rows.envOfC "law" (defScope s_law) s.heap.objs.size f cdv)).guards = some [] := rfl
  have hr__law_begin : Room 1 _ := hr.mono (by decide)
  have hr__law_draw : Room 1 _ := hr.mono (by decide)
  have hr__law_pick : Room 2 _ := hr.mono (by decide)
  have hr__law_odd : Room 3 _ := hr.mono (by decide)
  have hr__law_words : Room 3 _ := hr.mono (by decide)
  have hr__law_term : Room 7 _ := hr.mono (by decide)
  have hr__law_spots : Room 6 _ := hr.mono (by decide)
  have hr__law_free : Room 6 _ := hr.mono (by decide)
  have hr__law_is_one : Room 20 _ := hr.mono (by decide)
  have hr__law_bent : Room 17 _ := hr.mono (by decide)
  have hr_is_term : Room 6 _ := hr.mono (by decide)
  have hr_free_names : Room 9 _ := hr.mono (by decide)
  have hr_part_at : Room 6 _ := hr.mono (by decide)
  have hr__law_is_outside : Room 7 _ := hr.mono (by decide)
  have hr_places : Room 6 _ := hr.mono (by decide)
  have hr_places3 : Room (6 + 3) _ := hr.mono (by decide)
  have hu64 := hr.units
  refine ⟨_, (pss_cons (ps_set (i := 1) sc_law.nd rfl (Or.inl rfl) (pe_kn D__law_begin hr__law_begin (pa_cons (pv 0) pa_nil)))
  (pss_cons (ps_for PassesOwn.never rfl (pi_range1 (by rfl) B.range (pa_cons (pe_op op_add pe_int (pe_callB (call_min2 rfl) (by rfl) BM PyProof.Rows.boot_min (pa_cons pe_int (pa_cons (pe_callB call_len (by rfl) B.len PySem.boot_len (pa_cons (pv 0) pa_nil)) pa_nil)))) pa_nil)) (pg_name (i := 2) sc_law.nd rfl (Or.inl rfl))
  (pss_cons (ps_set (i := 3) sc_law.nd rfl (Or.inl rfl) (pe_kn D__law_words hr__law_words (pa_cons (pv 1) (pa_cons pe_int pa_nil))))
  (pss_cons (ps_set (i := 4) sc_law.nd rfl (Or.inr rfl) (pe_kn D__law_term hr__law_term (pa_cons (pv 1) (pa_cons (pv 3) (pa_cons (pe_op op_add pe_int (pe_kn D__law_draw hr__law_draw (pa_cons (pv 1) (pa_cons pe_int pa_nil)))) pa_nil)))))
  (pss_cons (ps_set (i := 5) sc_law.nd rfl (Or.inl rfl) (pe_kn D__law_spots hr__law_spots (pa_cons (pv 4) (pa_cons (pe_tup pa_nil) pa_nil))))
  (pss_cons (ps_if (PW.pt (pw_or (pt_cmpR op_isnot_bl (pe_kn D_is_term hr_is_term (pa_cons (pv 4) pa_nil)) pe_bl (nomark _)) (pw_or1 (pt_cmpR op_ne (pe_callB (call_reprAny hgd hu64) (by rfl) B.repr (by decide +kernel) (pa_cons (pe_listN (k := 6) (pgen_call (E := E0) G_places hr_places (by rfl) hm_places hk_places hb_places .nil (pa_cons (pv 4) pa_nil)) (passes_call LamX.takes0 fun _ _ _ _ h => h) hr_places3 (by rfl) B.list) pa_nil)) (pe_callB (call_reprAny hgd hu64) (by rfl) B.repr (by decide +kernel) (pa_cons (pe_lcN (own := [("_law_spot", 8), ("_law_part", 9)]) (g := gTup K 2 (gCons (gName 8) (gCons (gName 9) gNil))) rfl sc_law.nd (pi_list (pv 5)) (blkOk_by (N := N_law) (sc := (defScope s_law)) (own := [("_law_spot", 8), ("_law_part", 9)]) (by decide +kernel)) (fun _ _ _ _ _ => (pg_tup (by rfl) (pgs_cons (pg_name (i := 8) sc_law.nd rfl (Or.inl rfl)) (pgs_cons (pg_name (i := 9) sc_law.nd rfl (Or.inl rfl)) pgs_nil)))) (fun _ _ _ _ _ => pts_nil) (fun _ _ _ _ _ => (pv 8))) pa_nil)) (nomark _)))))
  (pss_one (ps_ret pe_bl))
  pss_nil)
  (pss_cons (ps_if (pt_cmpR op_ne (pe_callB (call_reprAny hgd hu64) (by rfl) B.repr (by decide +kernel) (pa_cons (pe_lcN (own := [("_law_spot", 8), ("_law_part", 9)]) (g := gTup K 2 (gCons (gName 8) (gCons (gName 9) gNil))) rfl sc_law.nd (pi_list (pv 5)) (blkOk_by (N := N_law) (sc := (defScope s_law)) (own := [("_law_spot", 8), ("_law_part", 9)]) (by decide +kernel)) (fun _ _ _ _ _ => (pg_tup (by rfl) (pgs_cons (pg_name (i := 8) sc_law.nd rfl (Or.inl rfl)) (pgs_cons (pg_name (i := 9) sc_law.nd rfl (Or.inl rfl)) pgs_nil)))) (fun _ _ _ _ _ => pts_nil) (fun _ _ _ _ _ => (pe_knX (E := E0) D_part_at hr_part_at LamX.takes0 (pa_cons (pv 4) (pa_cons (pv 8) pa_nil))))) pa_nil)) (pe_callB (call_reprAny hgd hu64) (by rfl) B.repr (by decide +kernel) (pa_cons (pe_lcN (own := [("_law_spot", 8), ("_law_part", 9)]) (g := gTup K 2 (gCons (gName 8) (gCons (gName 9) gNil))) rfl sc_law.nd (pi_list (pv 5)) (blkOk_by (N := N_law) (sc := (defScope s_law)) (own := [("_law_spot", 8), ("_law_part", 9)]) (by decide +kernel)) (fun _ _ _ _ _ => (pg_tup (by rfl) (pgs_cons (pg_name (i := 8) sc_law.nd rfl (Or.inl rfl)) (pgs_cons (pg_name (i := 9) sc_law.nd rfl (Or.inl rfl)) pgs_nil)))) (fun _ _ _ _ _ => pts_nil) (fun _ _ _ _ _ => (pv 9))) pa_nil)) (nomark _))
  (pss_one (ps_ret pe_bl))
  pss_nil)
  (pss_cons (ps_if (pt_cmpR op_ne (pe_callB (call_reprAny hgd hu64) (by rfl) B.repr (by decide +kernel) (pa_cons (pe_kn D_free_names hr_free_names (pa_cons (pv 4) pa_nil)) pa_nil)) (pe_callB (call_reprAny hgd hu64) (by rfl) B.repr (by decide +kernel) (pa_cons (pe_callTy call_tuple_of (by rfl) B.tuple (by decide +kernel) (pa_cons (pe_callB (cr_sortTx rfl) (by rfl) B.sorted (by decide +kernel) (pa_cons (pe_callTy (cr_setTx rfl) (by rfl) BS (by decide +kernel) (pa_cons (pe_kn D__law_free hr__law_free (pa_cons (pv 4) (pa_cons (pe_tup pa_nil) pa_nil))) pa_nil)) pa_nil)) pa_nil)) pa_nil)) (nomark _))
  (pss_one (ps_ret pe_bl))
  pss_nil)
  (pss_cons (ps_for PassesOwn.never rfl (pi_list (pe_lst (pa_cons (pe_kn D__law_odd hr__law_odd (pa_cons (pv 1) pa_nil)) (pa_cons (pe_op op_catA (pe_ix ix_tup (pe_kn D__law_pick hr__law_pick (pa_cons (pv 1) (pa_cons (pv 5) pa_nil))) pe_int (fun _ _ => rfl)) (pe_tup (pa_cons (pe_kn D__law_draw hr__law_draw (pa_cons (pv 1) (pa_cons pe_int pa_nil))) pa_nil))) (pa_cons (pe_tup (pa_cons pe_int (pa_cons pe_bl pa_nil))) (pa_cons (pe_lstN (pa_cons pe_int pa_nil)) (pa_cons (pe_op L2.op_repT (pe_tup (pa_cons pe_int pa_nil)) pe_int) (pa_cons (pe_tup (pa_cons pe_str pa_nil)) (pa_cons (pe_tup (pa_cons (pe_un un_neg pe_int) pa_nil)) pa_nil))))))))) (pg_name (i := 6) sc_law.nd rfl (Or.inl rfl))
  (pss_one (ps_if (PW.pt (pw_and (pt_cmpR op_notIn_seq (pe_callB (call_reprAny hgd hu64) (by rfl) B.repr (by decide +kernel) (pa_cons (pv 6) pa_nil)) (pe_lcN (own := [("_law_spot", 8), ("_law_part", 9)]) (g := gTup K 2 (gCons (gName 8) (gCons (gName 9) gNil))) rfl sc_law.nd (pi_list (pv 5)) (blkOk_by (N := N_law) (sc := (defScope s_law)) (own := [("_law_spot", 8), ("_law_part", 9)]) (by decide +kernel)) (fun _ _ _ _ _ => (pg_tup (by rfl) (pgs_cons (pg_name (i := 8) sc_law.nd rfl (Or.inl rfl)) (pgs_cons (pg_name (i := 9) sc_law.nd rfl (Or.inl rfl)) pgs_nil)))) (fun _ _ _ _ _ => pts_nil) (fun _ _ _ _ _ => (pe_callB (show CallR _ (.builtin "repr") (fun xs H Q => ∃ t, rReprV t xs H Q) from call_reprAny hgd hu64) (by rfl) B.repr (by decide +kernel) (pa_cons (pv 8) pa_nil)))) (by rfl)) (pw_and1 (pt_not (pt_val (pe_kg D__law_is_outside hr__law_is_outside hgd (pa_cons (pv 4) (pa_cons (pv 6) pa_nil))))))))
  (pss_one (ps_ret pe_bl))
  pss_nil)))
  (pss_one (ps_for PassesOwn.never rfl (pi_range1 (by rfl) B.range (pa_cons pe_int pa_nil)) (pg_name (i := 7) sc_law.nd rfl (Or.inl rfl))
  (pss_cons (ps_set (i := 6) sc_law.nd rfl (Or.inl rfl) (pe_kn D__law_bent hr__law_bent (pa_cons (pv 1) (pa_cons (pv 4) (pa_cons (pe_lst (pa_cons (pe_kn D__law_odd hr__law_odd (pa_cons (pv 1) pa_nil)) (pa_cons (pe_kn D__law_odd hr__law_odd (pa_cons (pv 1) pa_nil)) (pa_cons pe_str (pa_cons (pe_op op_repS pe_str pe_int) (pa_cons (pe_op op_repS pe_str pe_int) (pa_cons (pe_op op_add (pe_op op_pow pe_int pe_int) pe_int) (pa_cons pe_bl (pa_cons (pe_ix ix_list (pv 3) pe_int (fun _ _ => rfl)) (pa_cons (pe_tup pa_nil) pa_nil)))))))))) pa_nil)))))
  (pss_one (ps_if (pt_cmpR op_ne (pe_callB (call_reprAny hgd hu64) (by rfl) B.repr (by decide +kernel) (pa_cons (pe_kn D_is_term hr_is_term (pa_cons (pv 6) pa_nil)) pa_nil)) (pe_callB (call_reprAny hgd hu64) (by rfl) B.repr (by decide +kernel) (pa_cons (pe_kn D__law_is_one hr__law_is_one (pa_cons (pv 6) pa_nil)) pa_nil)) (nomark _))
  (pss_one (ps_ret pe_bl))
  pss_nil)))))))))))))
  (pss_one (ps_ret pe_bl)))), ?_⟩
  refine ⟨_, rfl, a, ns, rfl, hS, fun H1 t c s1 nt T1 => ?_⟩
  obtain ⟨N, hN, lN⟩ : ∃ N : Nat, (5 + if (ns.length : Int) < 5 then (ns.length : Int) else 5) = (N : Int) ∧ N ≤ 10 := by
    by_cases q : ns.length < 5
    · exact ⟨5 + ns.length, by rw [if_pos (by omega)]; omega, by omega⟩
    · exact ⟨10, by rw [if_neg (by omega)]; rfl, by omega⟩
  refine ⟨_, rfl, .ref a, ns.length, rfl, .inl ⟨_, s1.seq hS, by rw [List.length_map]⟩, _, _, rfl, _, _, rfl, rfl, ?_⟩
  refine ⟨N, congrArg (fun z => [V.int z]) hN, by omega, by omega, ?_⟩
  refine for_range (lo := 0) (n := N) (fun i σ H' => ∃ (v2 v3 v4 v5 v6 v7 : Option V), σ = [some (.ref a), some (.ref t), v2, v3, v4, v5, v6, v7, none, none] ∧ Tape K H' t c ((N - i) * 1300)) ⟨_, _, _, _, _, _, rfl, T1.less (by omega)⟩ (fun i σ H2 hi h => ?_) (fun σ H2 h => ?_)
  · obtain ⟨v2, v3, v4, v5, v6, v7, rfl, T2⟩ := h
    have cost : (N - i) * 1300 = (N - (i + 1)) * 1300 + 1300 := by omega
    rw [cost] at T2
    generalize (N - (i + 1)) * 1300 = b at T2 ⊢
    refine ⟨_, rfl, t, c, 4, b + 1297, rfl, by decide, T2, fun H3 lN rest first dd e3 T3 hlN hrest hfirst gN => ?_⟩
    obtain ⟨hnm, nd⟩ := words_ok hrest dd hfirst
    have ln4 : ((lets first 4).map (mkW rest dd)).length = 4 := by rw [List.length_map, lets_length]
    have nlt : lN ≠ t := T2.ne hlN
    generalize (lets first 4).map (mkW rest dd) = names at gN hnm nd ln4
    refine ⟨_, rfl, _, rfl, _, rfl, t, c, 4, b + 1296, rfl, by decide, by decide, T3.less (by omega), fun H4 r e4 T4 r0 r4 => ?_⟩
    obtain ⟨r', rfl⟩ : ∃ m : Nat, r = (m : Int) := ⟨r.toNat, (Int.toNat_of_nonneg r0).symm⟩
    have gN4 := e4 _ _ nlt gN
    have tc4 : tcost (1 + r') ≤ 966 := by
      rcases (by omega : r' = 0 ∨ r' = 1 ∨ r' = 2 ∨ r' = 3) with rfl | rfl | rfl | rfl <;> decide
    refine ⟨_, _, rfl, rfl, t, c, lN, names, 1 + r', b + 330, by show [V.ref t, V.ref lN, V.int ((1 : Int) + (r' : Int))] = _; rw [show (1 : Int) + (r' : Int) = ((1 + r' : Nat) : Int) by omega], gN4, nlt, ln4, hnm, nd, by omega, T4.less (by omega), fun H5 x m e5 T5 dx gm => ?_⟩
    have gN5 := e5 _ _ nlt gN4
    have gm : GoodT 4 m := gm.mono (by omega)
    have tm : Trm m := ⟨gm.term, gm.sh⟩
    have zm : psz m ≤ 763 := Nat.le_trans gm.z (by decide)
    refine ⟨_, rfl, slz rfl, fun q hq => ?_⟩
    have s6 := same_new (o := .tup []) hq
    have g6 := upd_same (H := H5) (a := q) (o := .tup [])
    generalize upd H5 q (.tup []) = H6 at s6 g6 ⊢
    refine ⟨t, x, .ref q, m, [], rfl, dx.kp (kp_same s6), tm, by omega, gm.drw.dep, .tup g6 .nil, by decide, fun H7 l us s7 hl gl dl => ?_⟩
    have S7 := s6.trans s7
    have T7 := T5.same S7
    have dx7 := dx.kp (kp_same S7)
    have gN7 := S7 _ _ gN5
    obtain ⟨ps, ms, R7⟩ := pairs_of dl
    have lus := dl.len
    rw [List.length_map] at lus
    have l121 := spots_121 gm
    have nlt7 : l ≠ t := (T5.same s6).ne hl
    clear dl s6 g6 hq s7 S7
    refine ⟨_, rfl, t, x, m, rfl, dx7, gm.sh, by omega, fun H8 s8 => ?_⟩
    rw [gm.term]
    refine ⟨_, _, rfl, rfl, _, rfl, iF rfl ?_⟩
    clear H1 s1 nt T1 e3 e4 e5 T3 T4 T5 cost hN hi tc4 gN gN4 gN5 hrest hfirst hlN dx
    have lps : ps.length = us.length := by
      have := R7.p.len
      rw [List.length_map] at this
      omega
    have lms : ms.length = us.length := by
      have := R7.m.len
      rw [List.length_map] at this
      omega
    -- the places
    refine ⟨_, rfl, t, x, m, rfl, dx7.kp (kp_same s8), tm, by omega, fun ys H9 s9 dys pA hpA nA => ?_⟩
    have sA := same_new (o := .lst ys) hpA
    refine ⟨t, .ref pA, _, rfl, .lst upd_same nA (dys.kp (kp_same sA)), (show_places gm).sh, (show_places gm).dep, (show_places gm).len, (show_places gm).ni, ?_⟩
    have S10 := s8.trans (s9.trans sA)
    generalize upd H9 pA (.lst ys) = H10 at S10 ⊢
    have gl10 := S10 _ _ gl
    have R10 := R7.same S10
    refine ⟨_, rfl, l, rfl, ⟨_, SqL.of gl10⟩, fun D hD nD => lc_it walk_list (fun j H' => Same H10 H' ∧ H' D = some (.lst (ps.take j))) ⟨same_new hD, upd_same⟩ (fun _ _ _ h => SqL.of (h.1 _ _ gl10)) ?_ ?_⟩
    · rintro j z H11 H12 hj ⟨s11, gD⟩ ⟨rfl, ez⟩
      obtain ⟨ar, x0, y0, rfl, ga, ex, ey⟩ := R10.u j z ez
      refine ⟨ar, _, rfl, SqT.of (s11 _ _ ga), rfl, _, _, rfl, _, _, rfl, rfl, rfl, ?_⟩
      refine ⟨_, rfl, _, gD, szl (by rw [List.length_take]; omega), fun b' o q => ?_, ?_⟩
      · rw [upd_ne (ne_of_none q hD)]
        exact s11 _ _ q
      · rw [upd_same, List.take_add_one, ex]
        rfl
    rintro H11 ⟨s11, gD⟩
    rw [← lps, List.take_length] at gD
    refine ⟨t, .ref D, _, rfl, .lst gD nD (R10.p.kp (kp_same s11)), (show_places gm).sh, (show_places gm).dep, (show_places gm).len, (show_places gm).ni, rfl, _, rfl, iF (by rw [decide_eq_true rfl]; rfl) ?_⟩
    have S11 := S10.trans s11
    have T11 := T7.same S11
    have gl11 := S11 _ _ gl
    have R11 := R7.same S11
    have dx11 := dx7.kp (kp_same S11)
    have gN11 := S11 _ _ gN7
    clear s8 s9 sA S10 R10 gl10 gD hD nD s11 hpA nA dys S11 gl R7 gN7 dx7 T7
    -- the parts
    have fL : ∀ s ∈ spots ([], m), Flt s.2 := fun s hs => (spots_trm (q := ([], m)) tm hs).flat
    refine ⟨_, rfl, l, rfl, ⟨_, SqL.of gl11⟩, fun D hD nD => lc_it walk_list (fun j H' => Same H11 H' ∧ ∃ rs, H' D = some (.lst rs) ∧ DaAll t H' rs (((spots ([], m)).take j).map (·.2))) ⟨same_new hD, [], upd_same, .nil⟩ (fun _ _ _ h => SqL.of (h.1 _ _ gl11)) ?_ ?_⟩
    · rintro j z H12 H13 hj ⟨s12, rs, gD, dR⟩ ⟨rfl, ez⟩
      obtain ⟨ar, x0, y0, rfl, ga, ex, ey⟩ := R11.u j z ez
      obtain ⟨dd0, hd0, d0⟩ := da_at R11.p ex
      rw [List.getElem?_map] at hd0
      obtain ⟨q0, hq0, rfl⟩ := Option.map_eq_some_iff.mp hd0
      have mq0 := List.mem_of_getElem? hq0
      refine ⟨ar, _, rfl, SqT.of (s12 _ _ ga), rfl, _, _, rfl, _, _, rfl, rfl, rfl, ?_⟩
      refine ⟨_, rfl, _, rfl, t, x, x0, m, plD q0.1, rfl, dx11.kp (kp_same s12), tm, d0.kp (kp_same s12), fun H13 r m' s13 hat dr => ?_, fun hat => ?_⟩
      · rw [spots_at gm.term mq0] at hat
        cases hat
        have gD13 := s13 _ _ gD
        have tk := tk_upd (ys := rs ++ [r]) gD13
        have lr := dR.len
        rw [List.length_map, List.length_take] at lr
        refine ⟨rs, gD13, szl (by omega), fun b' o q => ?_, rs ++ [r], upd_same, ?_⟩
        · rw [upd_ne (ne_of_none q hD)]
          exact s13 _ _ (s12 _ _ q)
        · rw [List.take_add_one, hq0, List.map_append]
          refine (daAll_tk ((tk_same s13).trans tk) dR fun d hd => ?_).app (.cons (dr.tk tk (fL _ mq0)) .nil)
          obtain ⟨q, hq, rfl⟩ := List.mem_map.mp hd
          exact fL _ (List.mem_of_mem_take hq)
      · rw [spots_at gm.term mq0] at hat
        cases hat
    rintro H12 ⟨s12, rs, gD, dR⟩
    rw [lus, List.take_length] at dR
    refine ⟨t, .ref D, _, rfl, .lst gD nD dR, (show_parts gm).sh, (show_parts gm).dep, (show_parts gm).len, (show_parts gm).ni, ?_⟩
    have gl12 := s12 _ _ gl11
    have R12 := R11.same s12
    clear hD nD gD dR
    refine ⟨_, rfl, l, rfl, ⟨_, SqL.of gl12⟩, fun D hD nD => lc_it walk_list (fun j H' => Same H12 H' ∧ H' D = some (.lst (ms.take j))) ⟨same_new hD, upd_same⟩ (fun _ _ _ h => SqL.of (h.1 _ _ gl12)) ?_ ?_⟩
    · rintro j z H13 H14 hj ⟨s13, gD⟩ ⟨rfl, ez⟩
      obtain ⟨ar, x0, y0, rfl, ga, ex, ey⟩ := R12.u j z ez
      refine ⟨ar, _, rfl, SqT.of (s13 _ _ ga), rfl, _, _, rfl, _, _, rfl, rfl, rfl, ?_⟩
      refine ⟨_, rfl, _, gD, szl (by rw [List.length_take]; omega), fun b' o q => ?_, ?_⟩
      · rw [upd_ne (ne_of_none q hD)]
        exact s13 _ _ q
      · rw [upd_same, List.take_add_one, ey]
        rfl
    rintro H13 ⟨s13, gD⟩
    rw [← lms, List.take_length] at gD
    refine ⟨t, .ref D, _, rfl, .lst gD nD (R12.m.kp (kp_same s13)), (show_parts gm).sh, (show_parts gm).dep, (show_parts gm).len, (show_parts gm).ni, rfl, _, rfl, iF (by rw [decide_eq_true rfl]; rfl) ?_⟩
    have S13 := s12.trans s13
    have T13 := T11.same S13
    have gl13 := S13 _ _ gl11
    have R13 := R11.same S13
    have dx13 := dx11.kp (kp_same S13)
    have gN13 := S13 _ _ gN11
    clear gD hD nD s12 s13 S13 gl11 gl12 R11 R12 dx11 gN11 T11
    -- the free names
    refine ⟨_, rfl, t, x, m, rfl, dx13, tm, by omega, fun H14 pF ss s14 gF lF freeF => ?_⟩
    have shN := show_names gm.term lF freeF
    refine ⟨t, .ref pF, nmsD ss, rfl, .tup gF (da_strs _), shN.sh, shN.dep, shN.len, shN.ni, ?_⟩
    refine ⟨_, rfl, slz rfl, fun q hq => ?_⟩
    have s15 := same_new (o := .tup []) hq
    have g15 := upd_same (H := H14) (a := q) (o := .tup [])
    generalize upd H14 q (.tup []) = H15 at s15 g15 ⊢
    have S15 := s14.trans s15
    refine ⟨t, x, .ref q, m, [], rfl, dx13.kp (kp_same S15), tm, by omega, gm.drw.dep, .tup g15 .nil, by simp; omega, fun H16 lf fs s16 hlf glf lfs memf => ?_⟩
    refine ⟨lf, fs, rfl, .inl (SqL.of glf), by omega, fun p1 hp1 => ?_⟩
    have l1 := setL_len (xs := fs) (L := [])
    refine ⟨p1, _, rfl, upd_same, by simp only [List.length_nil] at l1; omega, fun p2 ss2 hp2 asc => ?_⟩
    refine ⟨p2, _, rfl, .inl ⟨SqL.of upd_same, fun p3 hp3 => ?_⟩⟩
    have free2 : FreeOf m ss2 := ⟨asc.1.nodup_iff.mpr (setL_nodup List.nodup_nil), asc.2, fun y => by
      rw [asc.1.mem_iff, setL_mem, memf y]
      simp⟩
    obtain rfl := freeOf_uniq free2 freeF
    have s17 := ((same_new (o := TxO P w p1 (setL [] fs)) hp1).trans (same_new (o := .lst (ss2.map V.str)) hp2)).trans (same_new (o := .tup (ss2.map V.str)) hp3)
    refine ⟨t, .ref p3, nmsD ss2, rfl, .tup upd_same (da_strs _), shN.sh, shN.dep, shN.len, shN.ni, rfl, _, rfl, iF (by rw [decide_eq_true rfl]; rfl) ?_⟩
    have S17 := (S15.trans s16).trans s17
    have T17 := T13.same S17
    have gl17 := S17 _ _ gl13
    have R17 := R13.same S17
    have dx17 := dx13.kp (kp_same S17)
    have gN17 := S17 _ _ gN13
    clear asc free2 freeF memf l1 s14 gF s15 g15 hq S15 s16 hlf glf s17 S17 gl13 R13 dx13 gN13 T13 hp1 hp2 hp3
    -- the values that are no places
    refine ⟨_, rfl, t, c, b + 329, rfl, T17.less (by omega), fun H18 v1 d1 e18 T18 dv1 od1 => ?_⟩
    refine ⟨_, rfl, _, rfl, t, c, l, us, b + 328, rfl, SqL.of (e18 _ _ nlt7 gl17), by rw [lus]; exact List.length_pos_of_mem (spots_here (q := ([], m)) gm.term), by omega, T18.less (by omega), fun H19 v2' e19 T19 hv2 => ?_⟩
    have R19 := (R17.ext e18 T17).ext e19 T18
    obtain ⟨i2, ei2⟩ := List.mem_iff_getElem?.mp hv2
    obtain ⟨ar, x0, y0, rfl, ga, ex, ey⟩ := R19.u i2 v2' ei2
    obtain ⟨dd0, hd0, d0⟩ := da_at R19.p ex
    rw [List.getElem?_map] at hd0
    obtain ⟨q0, hq0, rfl⟩ := Option.map_eq_some_iff.mp hd0
    have mq0 := List.mem_of_getElem? hq0
    obtain ⟨q3, q5⟩ := spots_pl gm q0 mq0
    obtain ⟨ap, xs0, rfl, gap, dxs⟩ := da_row (show Da t H19 x0 (.tuple (q0.1.map fun n : Nat => .int (n : Int))) from d0)
    have lxs := dxs.len
    rw [List.length_map] at lxs
    have dv19 := dv1.kp (kp_ext e19 T18)
    refine ⟨ar, _, 0, _, rfl, rfl, SqT.of ga, rfl, _, rfl, t, c, 3, b + 327, rfl, by decide, by decide, T19.less (by omega), fun H20 r2 e20 T20 r20 r23 => ⟨slz rfl, fun p1 hp1 => ?_⟩⟩
    obtain ⟨r2', rfl⟩ : ∃ m : Nat, r2 = (m : Int) := ⟨r2.toNat, (Int.toNat_of_nonneg r20).symm⟩
    have k20 := kp_ext e20 T19
    have sp1 := same_new (o := .tup [.int (r2' : Int)]) hp1
    have gp1 := upd_same (H := H20) (a := p1) (o := .tup [.int (r2' : Int)])
    have E20 := (e18.trans e19).trans e20
    generalize upd H20 p1 (.tup [.int (r2' : Int)]) = H21 at sp1 gp1 ⊢
    refine catA_ok (sp1 _ _ (Ext.tups e20 T19 _ _ gap)) gp1 (by show _ + 1 ≤ _; omega) fun H22 p2 s22 g22 => ?_
    have dv2 : Da t H22 (.ref p2) (plD (q0.1 ++ [r2'])) := by
      unfold plD
      rw [List.map_append]
      exact .tup g22 (((dxs.kp k20).kp (kp_same (sp1.trans s22))).app (.cons (.int _) .nil))
    have dv1' := (dv19.kp k20).kp (kp_same (sp1.trans s22))
    have T22 := T20.same (sp1.trans s22)
    have E22 := E20.trans (same_ext (sp1.trans s22))
    refine ⟨slz rfl, fun p3 hp3 => ?_⟩
    have s23 := same_new (o := .tup [.int 0, .bl true]) hp3
    have g23 := upd_same (H := H22) (a := p3) (o := .tup [.int 0, .bl true])
    generalize upd H22 p3 (.tup [.int 0, .bl true]) = H23 at s23 g23 ⊢
    refine ⟨slz rfl, fun p4 hp4 np4 => ?_⟩
    have s24 := same_new (o := .lst [.int 0]) hp4
    have g24 := upd_same (H := H23) (a := p4) (o := .lst [.int 0])
    generalize upd H23 p4 (.lst [.int 0]) = H24 at s24 g24 ⊢
    refine ⟨slz rfl, fun p5 hp5 => ?_⟩
    have s25 := same_new (o := .tup [.int 0]) hp5
    have g25 := upd_same (H := H24) (a := p5) (o := .tup [.int 0])
    generalize upd H24 p5 (.tup [.int 0]) = H25 at s25 g25 ⊢
    refine ⟨p5, 30, _, rfl, rfl, SqT.of g25, by simp, by decide, by decide, by decide, fun p6 hp6 => ?_⟩
    have s26 := same_new (o := .tup (List.replicate (30 : Int).toNat [V.int 0]).flatten) hp6
    have g26 := upd_same (H := H25) (a := p6) (o := .tup (List.replicate (30 : Int).toNat [V.int 0]).flatten)
    generalize upd H25 p6 (.tup (List.replicate (30 : Int).toNat [V.int 0]).flatten) = H26 at s26 g26 ⊢
    refine ⟨slz rfl, fun p7 hp7 => ?_⟩
    have s27 := same_new (o := .tup [.str "0"]) hp7
    have g27 := upd_same (H := H26) (a := p7) (o := .tup [.str "0"])
    generalize upd H26 p7 (.tup [.str "0"]) = H27 at s27 g27 ⊢
    refine ⟨_, rfl, slz rfl, fun p8 hp8 => ?_⟩
    have s28 := same_new (o := .tup [.int (-1)]) hp8
    have g28 := upd_same (H := H27) (a := p8) (o := .tup [.int (-1)])
    generalize upd H27 p8 (.tup [.int (-1)]) = H28 at s28 g28 ⊢
    refine ⟨slz rfl, fun p9 hp9 => ⟨p9, rfl, ⟨_, SqL.of upd_same⟩, ?_⟩⟩
    have s29 := same_new (o := .lst [v1, .ref p2, .ref p3, .ref p4, .ref p6, .ref p7, .ref p8]) hp9
    have g29 := upd_same (H := H28) (a := p9) (o := .lst [v1, .ref p2, .ref p3, .ref p4, .ref p6, .ref p7, .ref p8])
    generalize upd H28 p9 (.lst [v1, .ref p2, .ref p3, .ref p4, .ref p6, .ref p7, .ref p8]) = H29 at s29 g29 ⊢
    have S27 := s28.trans s29
    have S26 := s27.trans S27
    have S25 := s26.trans S26
    have S24 := s25.trans S25
    have S23 := s24.trans S24
    have S22 := s23.trans S23
    obtain ⟨ds, seven, okds⟩ : ∃ ds, DaAll t H29 [v1, .ref p2, .ref p3, .ref p4, .ref p6, .ref p7, .ref p8] ds ∧ ∀ d ∈ ds, ShowOk d := by
      refine ⟨[d1, plD (q0.1 ++ [r2']), .tuple [.int 0, .bool true], .list [.int 0], .tuple (List.replicate 30 (.int 0)), .tuple [.str "0"], .tuple [.int (-1)]], .cons (dv1'.kp (kp_same S22)) (.cons (dv2.kp (kp_same S22)) (.cons (.tup (S23 _ _ g23) (.cons (.int _) (.cons (.bl _) .nil))) (.cons (.lst (S24 _ _ g24) np4 (.cons (.int _) .nil)) (.cons (.tup (S26 _ _ g26) ?_) (.cons (.tup (S27 _ _ g27) (.cons (.str _) .nil)) (.cons (.tup (s29 _ _ g28) (.cons (.int _) .nil)) .nil)))))), fun d hd => ?_⟩
      · exact da_zeros 30
      · simp only [List.mem_cons, List.not_mem_nil, or_false] at hd
        rcases hd with rfl | rfl | rfl | rfl | rfl | rfl | rfl
        · exact (odd_ok od1).show'
        · refine pl_ok (fun k hk => ?_) (by rw [List.length_append]; show _ + 1 ≤ _; omega)
          rcases List.mem_append.mp hk with hk | hk
          · exact q3 k hk
          · rw [List.mem_singleton.mp hk]
            omega
        · exact (oddB'_ok (d := .tuple [.int 0, .bool true]) (by decide +kernel)).show'
        · exact (oddB'_ok (d := .list [.int 0]) (by decide +kernel)).show'
        · exact (oddB'_ok (d := .tuple (List.replicate 30 (.int 0))) (by decide +kernel)).show'
        · exact (oddB'_ok (d := .tuple [.str "0"]) (by decide +kernel)).show'
        · exact (oddB'_ok (d := .tuple [.int (-1)]) (by decide +kernel)).show'
    have T29 := T22.same S22
    have E29 := E22.trans (same_ext S22)
    have gl29 := E29 _ _ nlt7 gl17
    have gN29 := E29 _ _ nlt gN17
    have R29 := R17.ext E29 T17
    have dx29 := dx17.kp (kp_ext E29 T17)
    clear gl17 gN17 R17 dx17 E29 E22 E20 T17 T18 T19 T20 T22 S22 S23 S24 S25 S26 S27 s22 s23 s24 s25 s26 s27 s28 s29 g22 g23 g24 g25 g26 g27 g28 hp1 hp3 hp4 hp5 hp6 hp7 hp8 hp9 dv1 dv2 dv1' dv19 sp1 gp1 e18 e19 e20 R19 k20 dxs gap d0 ga ex ey ei2
    generalize [v1, .ref p2, .ref p3, .ref p4, .ref p6, .ref p7, .ref p8] = vs7 at g29 seven
    refine for_list (K := K) (a := p9) (xs := vs7) (fun n σ H' => Same H29 H' ∧ ∃ (w6 w7 : Option V), σ = [some (.ref a), some (.ref t), some (.int (0 + (i : Int))), some (.ref lN), some x, some (.ref l), w6, w7, none, none]) ⟨Same.refl _, _, _, rfl⟩ (fun n σ H' _ ⟨s, _⟩ => SqL.of (s _ _ g29)) ?_ ?_
    · rintro n xv σ H30 hxv ⟨s30, w6, w7, rfl⟩
      obtain ⟨d, hd, dxv⟩ := da_at seven hxv
      have okd := okds d (List.mem_of_getElem? hd)
      have dsl : d.shown.length ≤ sizeLine := by
        have := okd.len
        rw [sizeLine_eq]
        omega
      refine ⟨_, rfl, t, xv, d, rfl, dxv.kp (kp_same s30), okd.sh, okd.dep, dsl, okd.ni, ?_⟩
      have gl30 := s30 _ _ gl29
      have R30 := R29.same s30
      refine ⟨_, rfl, l, rfl, ⟨_, SqL.of gl30⟩, fun D hD nD => lc_it walk_list (fun j H' => Same H30 H' ∧ H' D = some (.lst ((((spots ([], m)).take j).map fun q => (plD q.1).shown).map V.str))) ⟨same_new hD, upd_same⟩ (fun _ _ _ h => SqL.of (h.1 _ _ gl30)) ?_ ?_⟩
      · rintro j z H31 H32 hj ⟨s31, gD⟩ ⟨rfl, ez⟩
        obtain ⟨ar, x0, y0, rfl, ga, ex, ey⟩ := R30.u j z ez
        obtain ⟨dd0, hd0, d0⟩ := da_at R30.p ex
        rw [List.getElem?_map] at hd0
        obtain ⟨q1, hq1, rfl⟩ := Option.map_eq_some_iff.mp hd0
        have mq1 := List.mem_of_getElem? hq1
        obtain ⟨z3, z5⟩ := spots_pl gm q1 mq1
        have okp := pl_ok z3 (by omega)
        have psl : (plD q1.1).shown.length ≤ sizeLine := by
          have := okp.len
          rw [sizeLine_eq]
          omega
        refine ⟨ar, _, rfl, SqT.of (s31 _ _ ga), rfl, _, _, rfl, _, _, rfl, rfl, rfl, ?_⟩
        refine ⟨_, rfl, t, x0, plD q1.1, rfl, d0.kp (kp_same s31), okp.sh, okp.dep, psl, okp.ni, _, gD, szl (by rw [List.length_map, List.length_map, List.length_take]; omega), fun b' o q => ?_, ?_⟩
        · rw [upd_ne (ne_of_none q hD)]
          exact s31 _ _ q
        · rw [upd_same, List.take_add_one, hq1, List.map_append, List.map_append]
          rfl
      rintro H31 ⟨s31, gD⟩
      rw [lus, List.take_length] at gD
      refine ⟨D, _, rfl, .inl (SqL.of gD), rfl, flat_strs _, _, rfl, ?_⟩
      rw [in_strs]
      by_cases hm : d.shown ∈ (spots ([], m)).map fun q => (plD q.1).shown
      · rw [decide_eq_true hm]
        exact iF rfl (iF rfl ⟨s30.trans s31, _, _, rfl⟩)
      · rw [decide_eq_false hm]
        refine iT rfl ?_
        have S31 := s30.trans s31
        refine ⟨_, rfl, _, rfl, t, x, xv, m, d, rfl, dx29.kp (kp_same S31), tm, dxv.kp (kp_same S31), okd, at_none gm.term hm, fun H32 s32 => ⟨_, rfl, iF rfl ?_⟩⟩
        exact ⟨S31.trans s32, _, _, rfl⟩
    · rintro σ H30 ⟨s30, w6, w7, rfl⟩
      have T30 := T29.same s30
      have gN30 := s30 _ _ gN29
      have dx30 := dx29.kp (kp_same s30)
      clear g29 seven okds R29 gl29 gN29 dx29 T29 s30
      refine ⟨8, rfl, by decide, by decide, for_range (lo := 0) (n := 8) (fun n σ H' => Ext t H30 H' ∧ Tape K H' t c (b + (8 - n) * 40) ∧ ∃ (w6 w7 : Option V), σ = [some (.ref a), some (.ref t), some (.int (0 + (i : Int))), some (.ref lN), some x, some (.ref l), w6, w7, none, none]) ⟨Ext.refl _ _, T30.less (by omega), _, _, rfl⟩ ?_ ?_⟩
      · rintro n σ H31 hn ⟨e31, T31, w6, w7, rfl⟩
        have cost : (8 - n) * 40 = (8 - (n + 1)) * 40 + 40 := by omega
        rw [cost] at T31
        have eb : b + ((8 - (n + 1)) * 40 + 40) = b + (8 - (n + 1)) * 40 + 40 := by omega
        rw [eb] at T31
        generalize b + (8 - (n + 1)) * 40 = bb at T31 ⊢
        refine ⟨_, rfl, _, rfl, _, rfl, t, c, bb + 39, rfl, T31, fun H32 u1 f1 e32 T32 du1 ou1 => ?_⟩
        refine ⟨_, rfl, t, c, bb + 38, rfl, T32, fun H33 u2 f2 e33 T33 du2 ou2 => ?_⟩
        have cp : CPow 10 30 := ⟨by decide, by decide, by decide⟩
        refine ⟨_, _, rfl, rfl, by decide, by decide, by decide, by rw [sizeLine_eq]; decide, ?_⟩
        refine ⟨_, _, rfl, rfl, by decide, by decide, by decide, by rw [sizeLine_eq]; decide, ?_⟩
        refine ⟨_, _, rfl, rfl, cp, _, _, rfl, rfl, ?_⟩
        obtain ⟨n0, nr, en⟩ : ∃ n0 nr, names = n0 :: nr := by
          cases names with
          | nil => cases ln4
          | cons n0 nr => exact ⟨n0, nr, rfl⟩
        have hn0 := (hnm n0 (by rw [en]; exact List.mem_cons_self)).1
        have E33 := (e31.trans e32).trans e33
        have gN33 := E33 _ _ nlt gN30
        have at0 : atI (names.map V.str) 0 = some (.str n0) := by
          rw [en]
          exact at_ofG (j := 0) rfl rfl
        refine ⟨_, rfl, lN, _, 0, _, rfl, rfl, SqL.of gN33, at0, slz rfl, fun q hq => ⟨slz rfl, fun lS hlS => ?_⟩⟩
        have s34 := same_new (o := .tup []) hq
        have g34 := upd_same (H := H33) (a := q) (o := .tup [])
        generalize upd H33 q (.tup []) = H34 at s34 g34 hlS ⊢
        have s35 := same_new (o := .lst [u1, u2, .str "in", .str (repS "a" (9 : Int).toNat), .str (repS "a" (201 : Int).toNat), .int (10 ^ (30 : Int).toNat + 1), .bl true, .str n0, .ref q]) hlS
        have g35 := upd_same (H := H34) (a := lS) (o := .lst [u1, u2, .str "in", .str (repS "a" (9 : Int).toNat), .str (repS "a" (201 : Int).toNat), .int (10 ^ (30 : Int).toNat + 1), .bl true, .str n0, .ref q])
        have nS : lS ≠ t := (T33.same s34).ne hlS
        generalize upd H34 lS (.lst [u1, u2, .str "in", .str (repS "a" (9 : Int).toNat), .str (repS "a" (201 : Int).toNat), .int (10 ^ (30 : Int).toNat + 1), .bl true, .str n0, .ref q]) = H35 at s35 g35 ⊢
        have S35 := s34.trans s35
        have T35 := T33.same S35
        have E35 := E33.trans (same_ext S35)
        obtain ⟨es, des, okes⟩ : ∃ es, DaAll t H35 [u1, u2, .str "in", .str (repS "a" (9 : Int).toNat), .str (repS "a" (201 : Int).toNat), .int (10 ^ (30 : Int).toNat + 1), .bl true, .str n0, .ref q] es ∧ ∀ e ∈ es, shD e = true ∧ Nst 3 e ∧ psz e ≤ 900 := by
          refine ⟨[f1, f2, .str "in", .str (repS "a" (9 : Int).toNat), .str (repS "a" (201 : Int).toNat), .int (10 ^ (30 : Int).toNat + 1), .bool true, .str n0, .tuple []], .cons ((du1.kp (kp_ext e33 T32)).kp (kp_same S35)) (.cons (du2.kp (kp_same S35)) (.cons (.str _) (.cons (.str _) (.cons (.str _) (.cons (.int _) (.cons (.bl _) (.cons (.str _) (.cons (.tup (s35 _ _ g34) .nil) .nil)))))))), fun e he => ?_⟩
          simp only [List.mem_cons, List.not_mem_nil, or_false] at he
          rcases he with rfl | rfl | rfl | rfl | rfl | rfl | rfl | rfl | rfl
          · have := odd_ok ou1
            exact ⟨this.sh, this.nst, this.z⟩
          · have := odd_ok ou2
            exact ⟨this.sh, this.nst, this.z⟩
          · exact ⟨by decide +kernel, True.intro, by decide⟩
          · exact ⟨by decide +kernel, True.intro, by simp only [psz]; decide⟩
          · exact ⟨by decide +kernel, True.intro, by simp only [psz]; decide⟩
          · exact ⟨rfl, True.intro, by simp only [psz]; decide⟩
          · exact ⟨rfl, True.intro, by simp only [psz]; decide⟩
          · refine ⟨?_, True.intro, by simp only [psz]; decide⟩
            simp only [shD, decide_eq_true_eq]
            have := hn0.2.1
            omega
          · exact ⟨rfl, fun d hd => (by cases hd), by decide⟩
        refine ⟨t, c, lS, x, m, _, es, bb, rfl, nS, g35, des, by show 0 < 9; decide, by show 9 ≤ 1000; decide, okes, dx30.kp (kp_ext E35 T30), gm.sh, gm.nst, by omega, T35.less (by omega), fun H36 v' d' e36 T36 dv' sh' nst' z' => ?_⟩
        have sbl := show_bl (isTermD d')
        refine ⟨_, rfl, t, v', d', rfl, dv', sh', by omega, fun H37 s37 => ⟨t, _, .bool (isTermD d'), rfl, .bl _, sbl.sh, sbl.dep, sbl.len, sbl.ni, ?_⟩⟩
        refine ⟨_, rfl, t, v', d', rfl, dv'.kp (kp_same s37), sh', nst', fun H38 s38 => ⟨t, _, .bool (isTermD d'), rfl, .bl _, sbl.sh, sbl.dep, sbl.len, sbl.ni, rfl, _, rfl, iF (by rw [decide_eq_true rfl]; rfl) ?_⟩⟩
        exact ⟨(E35.trans e36).trans (same_ext (s37.trans s38)), (T36.same (s37.trans s38)).less (by omega), _, _, rfl⟩
      · rintro σ H31 ⟨e31, T31, w6, w7, rfl⟩
        exact ⟨_, _, _, _, _, _, rfl, T31.less (by omega)⟩
  · exact k _
end
end L3

/-! a dict of the module whose keys are texts: what it has -/
namespace L3
open PySem L2
def keyNm (e : DictEntry) : Option Str := match e.key with
  | .str x _ => some x
  | _ => none
theorem has_of {K : PySem.W.Frag} {a : Addr} {es : Array DictEntry} {n : Nat} {ks : List Str} (l : K.lookup a = some ⟨.type "dict", none, .dict es n, #[]⟩) (hk : es.toList.map keyNm = ks.map some) : ∀ z : Str, ∃ r, PySem.W.nsIn K a z = some r ∧ r.isSome = decide (z ∈ ks) := by
  intro z
  unfold PySem.W.nsIn
  rw [l]
  show ∃ r, (match es.toList.find? (·.key.isStr z) with
    | some e => some (some e.val)
    | none => if es.toList.any (·.refKey) then none else some none) = some r ∧ _
  generalize es.toList = l at hk
  have key : ∀ (l : List DictEntry) (ks : List Str), l.map keyNm = ks.map some → (l.find? (·.key.isStr z)).isSome = decide (z ∈ ks) ∧ l.any (·.refKey) = false := by
    intro l
    induction l with
    | nil =>
      intro ks h
      cases ks with
      | nil => exact ⟨rfl, rfl⟩
      | cons _ _ => cases h
    | cons e r ih =>
      intro ks h
      cases ks with
      | nil => cases h
      | cons x ks =>
        rw [List.map_cons, List.map_cons] at h
        injection h with h1 h2
        obtain ⟨i1, i2⟩ := ih ks h2
        obtain ⟨tk, ek⟩ : ∃ tk, e.key = .str x tk := by
          unfold keyNm at h1
          split at h1
          · rename_i y tk q
            injection h1 with h1
            exact ⟨tk, by rw [q, h1]⟩
          · cases h1
        refine ⟨?_, ?_⟩
        · rw [List.find?_cons]
          have es : e.key.isStr z = decide (z = x) := by
            rw [ek]
            show (x == z) = decide (z = x)
            rw [Bool.eq_iff_iff, beq_iff_eq, decide_eq_true_eq]
            exact eq_comm
          rw [es]
          by_cases c : z = x
          · rw [decide_eq_true c]
            simp [c]
          · rw [decide_eq_false c]
            simp only [i1]
            rw [Bool.eq_iff_iff, decide_eq_true_eq, decide_eq_true_eq, List.mem_cons]
            exact ⟨.inr, fun h => h.resolve_left c⟩
        · rw [List.any_cons, i2, Bool.or_false]
          unfold DictEntry.refKey
          rw [ek]
  obtain ⟨k1, k2⟩ := key l ks hk
  cases hf : l.find? (·.key.isStr z) with
  | some e =>
    rw [hf] at k1
    exact ⟨some e.val, rfl, k1⟩
  | none =>
    rw [hf] at k1
    refine ⟨none, ?_, k1⟩
    show (if l.any (·.refKey) = true then none else some none) = some none
    rw [k2]
    rfl
end L3

namespace L3
open PySem L2 StX LamX
/-- a def stands at f -/
def HasFn (K : PySem.W.Frag) (f : Addr) (x q : Str) (st : Stmt) : Prop := ∃ (oc : Value) (od : Option Addr) (kV dc pm : Value) (an : Option Addr) (cd ct : Value) (sl : Array (Option Value)), K.lookup f = some ⟨oc, od, .func (PySem.W.fnOf x q (defArgs st) (defBody st) (defScope st) .none kV dc pm an cd ct), sl⟩ ∧ PySem.W.codeIn K cd q = true ∧ PySem.W.keepIn K (.ref f) = true
theorem fn_is {K : PySem.W.Frag} {f : Addr} {x q : Str} {st : Stmt} {oc : Value} {od : Option Addr} {kV dc pm : Value} {an : Option Addr} {cd ct : Value} {sl : Array (Option Value)} (l : K.lookup f = some ⟨oc, od, .func (PySem.W.fnOf x q (defArgs st) (defBody st) (defScope st) .none kV dc pm an cd ct), sl⟩) (c : PySem.W.codeIn K cd q = true) (k : PySem.W.keepIn K (.ref f) = true) : HasFn K f x q st := ⟨oc, od, kV, dc, pm, an, cd, ct, sl, l, c, k⟩

/-- what K says of a class of errors -/
structure Kc (K : PySem.W.Frag) (x : Str) (bm : List Value) (C : Addr) : Prop where
  ns : PySem.W.nsIn K mainGlobals x = some (some (.ref C))
  kC : PySem.W.keepIn K (.ref C) = true
  dct : PySem.W.hasDictIn K C = true
  ga : PySem.W.findIn K (.ref C) "__getattribute__" = some (some (.builtin "BaseException.__getattribute__"))
  gg : PySem.W.findIn K (.ref C) "__getattr__" = some none
  sb : PySem.W.subIn K (.ref C) (.type "BaseException") = some true
  cl : PySem.W.findIn K (.ref C) "__class__" = some (some (.builtin "object.__class__"))
  gs : PySem.W.specialIn K (.builtin "object.__class__") "__get__" = some (some (.builtin "getset_descriptor.__get__"))
  tk : PySem.W.takesIn K (.builtin "object.__class__") = some true
  ob : PySem.W.mroIn K C (.type "object") = some true
  cd : ∃ cd, PySem.W.clsIn K C = some cd ∧ cd.mro = .ref C :: bm
  ty : PySem.W.typeIn K (.ref C) = some (.type "type")
theorem kc_is {K : PySem.W.Frag} {x : Str} {bm : List Value} {C : Addr} {cd : ClassData} (a1 : PySem.W.nsIn K mainGlobals x = some (some (.ref C))) (a2 : PySem.W.keepIn K (.ref C) = true) (a3 : PySem.W.hasDictIn K C = true)
    (a4 : PySem.W.findIn K (.ref C) "__getattribute__" = some (some (.builtin "BaseException.__getattribute__"))) (a5 : PySem.W.findIn K (.ref C) "__getattr__" = some none) (a6 : PySem.W.subIn K (.ref C) (.type "BaseException") = some true) (a7 : PySem.W.findIn K (.ref C) "__class__" = some (some (.builtin "object.__class__")))
    (a8 : PySem.W.specialIn K (.builtin "object.__class__") "__get__" = some (some (.builtin "getset_descriptor.__get__"))) (a9 : PySem.W.takesIn K (.builtin "object.__class__") = some true) (a10 : PySem.W.mroIn K C (.type "object") = some true) (a11 : PySem.W.clsIn K C = some cd) (a12 : cd.mro = .ref C :: bm) (a13 : PySem.W.typeIn K (.ref C) = some (.type "type")) : Kc K x bm C :=
  ⟨a1, a2, a3, a4, a5, a6, a7, a8, a9, a10, ⟨cd, a11, a12⟩, a13⟩
theorem Kc.R {K : PySem.W.Frag} {x : Str} {bm : List Value} {C : Addr} (G : Kc K x bm C) : Xr K C := ⟨G.ga, G.gg, G.sb, G.dct, G.cl, G.gs, G.tk, G.ob⟩
/-- what it says of one with an own __init__ -/
structure Ki (K : PySem.W.Frag) (C : Addr) (bm : List Value) (nw : String) (fI : Addr) : Prop where
  ini : PySem.W.excInitIn K C bm nw = true
  ov : PySem.W.excOver K C bm = true
  sa : PySem.W.findIn K (.ref C) "__setattr__" = some (some (.builtin "object.__setattr__"))
  iC : PySem.W.findIn K (.ref C) "__init__" = some (some (.ref fI))
  tI : PySem.W.typeIn K (.ref fI) = some (.type "function")
theorem tk_of {K : PySem.W.Frag} {C : Addr} {f : Str} (h : PySem.W.findIn K (.ref C) f = some none) : PySem.W.takerIn K C f = some none := by
  unfold PySem.W.takerIn
  rw [h]
  rfl
section
variable {P : Program} {w : World} {K : PySem.W.Frag} {mg : Str → Option Value} {base : Heap}
theorem e1_of {x f : Str} {bm : List Value} {nw : String} {C fI : Addr} {fd : FuncData} (G : Kc K x bm C) (N : Ki K C bm nw fI) (hm : mg x = some (.ref C)) (no : PySem.W.findIn K (.ref C) f = some none) (ok : FnOk P w K mg base CX0 1 fI fd ["self", f] (spI1 K bm nw f)) (b : Binds K fd ["self", f] []) (kb : KBinds K fd ["self", f] [f] g1 gV1) : E1 P w K mg base x f bm nw C :=
  ⟨hm, ⟨N.ini, N.ov, N.sa, G.kC, G.dct⟩, G.R, tk_of no, no, ⟨fI, fd, ok, N.iC, N.tI, b⟩, ⟨fI, fd, ok, N.iC, N.tI, kb⟩, G.cd, G.ty⟩
end
theorem does_of4 {P : Program} {w : World} {K : PySem.W.Frag} {mg : Str → Option Value} {base : Heap} {f : Addr} {fd : FuncData} {ps : List Str} {k : Nat} {sp : Sp} (F : FnOk P w K mg base CX0 k f fd ps sp) (hb : Binds K fd ps []) (hk : k ≤ 4) (kp : PySem.W.keepIn K (.ref f) = true) : Does P w K mg base 4 f sp := by
  refine ⟨?_, kp⟩
  have R := F.raw hb .nil
  intro A outer s H us vs Q E hr e0 r hs
  exact R A outer s H us vs Q E (hr.mono hk) e0 r (show sp (vs ++ []) H Q E by rw [List.append_nil]; exact hs)
theorem all_mk {l : PySem.W.OpenLaw} {w : World} {K : PySem.W.Frag} {h : Heap} {mg : Str → Option Value} {fa C gI bA fA f1 f2 f3 f4 f5 f6 f7 f8 f9 f10 f11 f12 f13 f14 f15 f16 f17 f18 f19 f20 f21 f22 f23 f24 f25 f26 f27 f28 f29 f30 f31 f32 f33 f34 f35 f36 f37 f38 f39 f40 : Addr} {esB esF : Array DictEntry} {nB nF : Nat} (X : K.In h) (G : h.Ns mainGlobals mg) (hfa : mg "law" = some (.ref fa))
    (a1 : PySem.W.nsIn K mainGlobals "is_word" = some (some (.ref f1))) (u1 : HasFn K f1 "is_word" "is_word" s_is_word)
    (a2 : PySem.W.nsIn K mainGlobals "is_name" = some (some (.ref f2))) (u2 : HasFn K f2 "is_name" "is_name" s_is_name)
    (a3 : PySem.W.nsIn K mainGlobals "is_integer" = some (some (.ref f3))) (u3 : HasFn K f3 "is_integer" "is_integer" s_is_integer)
    (a4 : PySem.W.nsIn K mainGlobals "is_term" = some (some (.ref f4))) (u4 : HasFn K f4 "is_term" "is_term" s_is_term)
    (a5 : PySem.W.nsIn K mainGlobals "parts_in" = some (some (.ref f5))) (u5 : HasFn K f5 "parts_in" "parts_in" s_parts_in)
    (a6 : PySem.W.nsIn K mainGlobals "parts_in_name" = some (some (.ref f6))) (u6 : HasFn K f6 "parts_in_name" "parts_in_name" s_parts_in_name)
    (a7 : PySem.W.nsIn K mainGlobals "parts_in_whole" = some (some (.ref f7))) (u7 : HasFn K f7 "parts_in_whole" "parts_in_whole" s_parts_in_whole)
    (a8 : PySem.W.nsIn K mainGlobals "parts_in_text" = some (some (.ref f8))) (u8 : HasFn K f8 "parts_in_text" "parts_in_text" s_parts_in_text)
    (a9 : PySem.W.nsIn K mainGlobals "parts_in_use" = some (some (.ref f9))) (u9 : HasFn K f9 "parts_in_use" "parts_in_use" s_parts_in_use)
    (a10 : PySem.W.nsIn K mainGlobals "parts_in_given" = some (some (.ref f10))) (u10 : HasFn K f10 "parts_in_given" "parts_in_given" s_parts_in_given)
    (a11 : PySem.W.nsIn K mainGlobals "parts_in_let" = some (some (.ref f11))) (u11 : HasFn K f11 "parts_in_let" "parts_in_let" s_parts_in_let)
    (a12 : PySem.W.nsIn K mainGlobals "parts_in_match" = some (some (.ref f12))) (u12 : HasFn K f12 "parts_in_match" "parts_in_match" s_parts_in_match)
    (a13 : PySem.W.nsIn K mainGlobals "parts_in_hole" = some (some (.ref f13))) (u13 : HasFn K f13 "parts_in_hole" "parts_in_hole" s_parts_in_hole)
    (a14 : PySem.W.nsIn K mainGlobals "is_whole" = some (some (.ref f14))) (u14 : HasFn K f14 "is_whole" "is_whole" s_is_whole)
    (a15 : PySem.W.nsIn K mainGlobals "is_text" = some (some (.ref f15))) (u15 : HasFn K f15 "is_text" "is_text" s_is_text)
    (a16 : PySem.W.nsIn K mainGlobals "are_rows" = some (some (.ref f16))) (u16 : HasFn K f16 "are_rows" "are_rows" s_are_rows)
    (a17 : PySem.W.nsIn K mainGlobals "are_different_names" = some (some (.ref f17))) (u17 : HasFn K f17 "are_different_names" "are_different_names" s_are_different_names)
    (a18 : PySem.W.nsIn K mainGlobals "places" = some (some (.ref f18))) (u18 : HasFn K f18 "places" "places" s_places)
    (a19 : PySem.W.nsIn K mainGlobals "part_at" = some (some (.ref f19))) (u19 : HasFn K f19 "part_at" "part_at" s_part_at)
    (a20 : PySem.W.nsIn K mainGlobals "bound_parts" = some (some (.ref f20))) (u20 : HasFn K f20 "bound_parts" "bound_parts" s_bound_parts)
    (a21 : PySem.W.nsIn K mainGlobals "words_of" = some (some (.ref f21))) (u21 : HasFn K f21 "words_of" "words_of" s_words_of)
    (a22 : PySem.W.nsIn K mainGlobals "rows_with_arms" = some (some (.ref f22))) (u22 : HasFn K f22 "rows_with_arms" "rows_with_arms" s_rows_with_arms)
    (a23 : PySem.W.nsIn K mainGlobals "free_names" = some (some (.ref f23))) (u23 : HasFn K f23 "free_names" "free_names" s_free_names)
    (a24 : PySem.W.nsIn K mainGlobals "_law_begin" = some (some (.ref f24))) (u24 : HasFn K f24 "_law_begin" "_law_begin" s__law_begin)
    (a25 : PySem.W.nsIn K mainGlobals "_law_draw" = some (some (.ref f25))) (u25 : HasFn K f25 "_law_draw" "_law_draw" s__law_draw)
    (a26 : PySem.W.nsIn K mainGlobals "_law_pick" = some (some (.ref f26))) (u26 : HasFn K f26 "_law_pick" "_law_pick" s__law_pick)
    (a27 : PySem.W.nsIn K mainGlobals "_law_shuffled" = some (some (.ref f27))) (u27 : HasFn K f27 "_law_shuffled" "_law_shuffled" s__law_shuffled)
    (a28 : PySem.W.nsIn K mainGlobals "_law_odd" = some (some (.ref f28))) (u28 : HasFn K f28 "_law_odd" "_law_odd" s__law_odd)
    (a29 : PySem.W.nsIn K mainGlobals "_law_words" = some (some (.ref f29))) (u29 : HasFn K f29 "_law_words" "_law_words" s__law_words)
    (a30 : PySem.W.nsIn K mainGlobals "_law_term" = some (some (.ref f30))) (u30 : HasFn K f30 "_law_term" "_law_term" s__law_term)
    (a31 : PySem.W.nsIn K mainGlobals "_law_parts" = some (some (.ref f31))) (u31 : HasFn K f31 "_law_parts" "_law_parts" s__law_parts)
    (a32 : PySem.W.nsIn K mainGlobals "_law_spots" = some (some (.ref f32))) (u32 : HasFn K f32 "_law_spots" "_law_spots" s__law_spots)
    (a33 : PySem.W.nsIn K mainGlobals "_law_free" = some (some (.ref f33))) (u33 : HasFn K f33 "_law_free" "_law_free" s__law_free)
    (a34 : PySem.W.nsIn K mainGlobals "_law_is_named" = some (some (.ref f34))) (u34 : HasFn K f34 "_law_is_named" "_law_is_named" s__law_is_named)
    (a35 : PySem.W.nsIn K mainGlobals "_law_are_named" = some (some (.ref f35))) (u35 : HasFn K f35 "_law_are_named" "_law_are_named" s__law_are_named)
    (a36 : PySem.W.nsIn K mainGlobals "_law_is_leaf" = some (some (.ref f36))) (u36 : HasFn K f36 "_law_is_leaf" "_law_is_leaf" s__law_is_leaf)
    (a37 : PySem.W.nsIn K mainGlobals "_law_is_one" = some (some (.ref f37))) (u37 : HasFn K f37 "_law_is_one" "_law_is_one" s__law_is_one)
    (a38 : PySem.W.nsIn K mainGlobals "_law_bent" = some (some (.ref f38))) (u38 : HasFn K f38 "_law_bent" "_law_bent" s__law_bent)
    (a39 : PySem.W.nsIn K mainGlobals "_law_is_outside" = some (some (.ref f39))) (u39 : HasFn K f39 "_law_is_outside" "_law_is_outside" s__law_is_outside)
    (a40 : PySem.W.nsIn K mainGlobals "law" = some (some (.ref f40))) (u40 : HasFn K f40 "law" "law" s_law)
    (z0 : PySem.W.nsIn K mainGlobals "len" = some none) (z1 : PySem.W.nsIn K mainGlobals "int" = some none) (z2 : PySem.W.nsIn K mainGlobals "list" = some none) (z3 : PySem.W.nsIn K mainGlobals "tuple" = some none) (z4 : PySem.W.nsIn K mainGlobals "dict" = some none) (z5 : PySem.W.nsIn K mainGlobals "repr" = some none) (z6 : PySem.W.nsIn K mainGlobals "range" = some none) (z7 : PySem.W.nsIn K mainGlobals "zip" = some none) (z8 : PySem.W.nsIn K mainGlobals "sorted" = some none) (z9 : PySem.W.nsIn K mainGlobals "isinstance" = some none) (z10 : PySem.W.nsIn K mainGlobals "all" = some none) (z11 : PySem.W.nsIn K mainGlobals "str" = some none) (z12 : PySem.W.nsIn K mainGlobals "tuple" = some none) (z13 : PySem.W.nsIn K mainGlobals "bool" = some none) (z14 : PySem.W.nsIn K mainGlobals "int" = some none) (z15 : PySem.W.nsIn K mainGlobals "ord" = some none) (z16 : PySem.W.nsIn K mainGlobals "abs" = some none) (z17 : PySem.W.nsIn K mainGlobals "max" = some none) (z18 : PySem.W.nsIn K mainGlobals "set" = some none) (z19 : PySem.W.nsIn K mainGlobals "enumerate" = some none) (z20 : PySem.W.nsIn K mainGlobals "reversed" = some none) (z21 : PySem.W.nsIn K mainGlobals "sum" = some none) (z22 : PySem.W.nsIn K mainGlobals "min" = some none) (z23 : PySem.W.nsIn K mainGlobals "LookupError" = some none)
    {uL uO uX : Value} (aL : PySem.W.nsIn K mainGlobals "LONGEST" = some (some uL)) (rL : RelV (.int 8) uL) (aO : PySem.W.nsIn K mainGlobals "BOUND" = some (some uO)) (rO : RelV (.int (10 ^ 30)) uO) (aX : PySem.W.nsIn K mainGlobals "LONGEST_TEXT" = some (some uX)) (rX : RelV (.int 200) uX)
    (aB : PySem.W.nsIn K mainGlobals "BARRED" = some (some (.ref bA))) (lB : K.lookup bA = some ⟨.type "dict", none, .dict esB nB, #[]⟩) (kB : PySem.W.KeysLit w.params esB.toList) (wB : (bA == sysModules) = false) (vB : esB.toList.map keyNm = barL.map some)
    (aF : PySem.W.nsIn K mainGlobals "FORMS" = some (some (.ref fA))) (lF : K.lookup fA = some ⟨.type "dict", none, .dict esF nF, #[]⟩) (kF : PySem.W.KeysLit w.params esF.toList) (wF : (fA == sysModules) = false) (vF : esF.toList.map keyNm = formL.map some)
    (y0 : PySem.W.nsIn K fA "name" = some (some (.ref f6)))
    (y1 : PySem.W.nsIn K fA "whole" = some (some (.ref f7)))
    (y2 : PySem.W.nsIn K fA "text" = some (some (.ref f8)))
    (y3 : PySem.W.nsIn K fA "use" = some (some (.ref f9)))
    (y4 : PySem.W.nsIn K fA "given" = some (some (.ref f10)))
    (y5 : PySem.W.nsIn K fA "let" = some (some (.ref f11)))
    (y6 : PySem.W.nsIn K fA "match" = some (some (.ref f12)))
    (y7 : PySem.W.nsIn K fA "hole" = some (some (.ref f13)))
    (q : Kc K "OutOfTerm" mroL C) (p : Ki K C mroL "LookupError.__new__" gI) (v : HasFn K gI "__init__" "OutOfTerm.__init__" s_OutOfTerm___init__) (no : PySem.W.findIn K (.ref C) "place" = some none) :
    ∃ fd : FuncData, (∀ (s : Shared) (v : Value), BindsTo s fd ⟨[v], []⟩ [("_law_script", v)]) ∧ ∀ base : Heap, K.In base → base.Ns mainGlobals mg → LawRun l.prog w K mg base fa fd "_law_script" (spLaw K) := by
  have e := hfa.symm.trans (PySem.W.mg_of X G a40)
  cases e
  have B : Bl mg := ⟨PySem.W.mg_none_of X G z0, PySem.W.mg_none_of X G z1, PySem.W.mg_none_of X G z2, PySem.W.mg_none_of X G z3, PySem.W.mg_none_of X G z4, PySem.W.mg_none_of X G z5, PySem.W.mg_none_of X G z6, PySem.W.mg_none_of X G z7, PySem.W.mg_none_of X G z8⟩
  have B9 : Bl9 mg := ⟨PySem.W.mg_none_of X G z9, PySem.W.mg_none_of X G z10, PySem.W.mg_none_of X G z11, PySem.W.mg_none_of X G z12, PySem.W.mg_none_of X G z13, PySem.W.mg_none_of X G z14, PySem.W.mg_none_of X G z15, PySem.W.mg_none_of X G z16, PySem.W.mg_none_of X G z17⟩
  have B5 : Bl5 mg := ⟨PySem.W.mg_none_of X G z20, PySem.W.mg_none_of X G z21, PySem.W.mg_none_of X G z19⟩
  have M : Mn K w mg bA esB nB := ⟨⟨_, PySem.W.mg_of X G aL, rL⟩, ⟨_, PySem.W.mg_of X G aB, rfl⟩, ⟨lB, kB, wB⟩, has_of lB vB, ⟨_, PySem.W.mg_of X G aO, rO⟩, ⟨_, PySem.W.mg_of X G aX, rX⟩, PySem.W.mg_none_of X G z18⟩
  have LE : mg "LookupError" = none := PySem.W.mg_none_of X G z23
  obtain ⟨oc1, od1, kV1, dc1, pm1, an1, cd1, ct1, sl1, l1, c1, k1⟩ := u1
  obtain ⟨oc2, od2, kV2, dc2, pm2, an2, cd2, ct2, sl2, l2, c2, k2⟩ := u2
  obtain ⟨oc3, od3, kV3, dc3, pm3, an3, cd3, ct3, sl3, l3, c3, k3⟩ := u3
  obtain ⟨oc4, od4, kV4, dc4, pm4, an4, cd4, ct4, sl4, l4, c4, k4⟩ := u4
  obtain ⟨oc5, od5, kV5, dc5, pm5, an5, cd5, ct5, sl5, l5, c5, k5⟩ := u5
  obtain ⟨oc6, od6, kV6, dc6, pm6, an6, cd6, ct6, sl6, l6, c6, k6⟩ := u6
  obtain ⟨oc7, od7, kV7, dc7, pm7, an7, cd7, ct7, sl7, l7, c7, k7⟩ := u7
  obtain ⟨oc8, od8, kV8, dc8, pm8, an8, cd8, ct8, sl8, l8, c8, k8⟩ := u8
  obtain ⟨oc9, od9, kV9, dc9, pm9, an9, cd9, ct9, sl9, l9, c9, k9⟩ := u9
  obtain ⟨oc10, od10, kV10, dc10, pm10, an10, cd10, ct10, sl10, l10, c10, k10⟩ := u10
  obtain ⟨oc11, od11, kV11, dc11, pm11, an11, cd11, ct11, sl11, l11, c11, k11⟩ := u11
  obtain ⟨oc12, od12, kV12, dc12, pm12, an12, cd12, ct12, sl12, l12, c12, k12⟩ := u12
  obtain ⟨oc13, od13, kV13, dc13, pm13, an13, cd13, ct13, sl13, l13, c13, k13⟩ := u13
  obtain ⟨oc14, od14, kV14, dc14, pm14, an14, cd14, ct14, sl14, l14, c14, k14⟩ := u14
  obtain ⟨oc15, od15, kV15, dc15, pm15, an15, cd15, ct15, sl15, l15, c15, k15⟩ := u15
  obtain ⟨oc16, od16, kV16, dc16, pm16, an16, cd16, ct16, sl16, l16, c16, k16⟩ := u16
  obtain ⟨oc17, od17, kV17, dc17, pm17, an17, cd17, ct17, sl17, l17, c17, k17⟩ := u17
  obtain ⟨oc18, od18, kV18, dc18, pm18, an18, cd18, ct18, sl18, l18, c18, k18⟩ := u18
  obtain ⟨oc19, od19, kV19, dc19, pm19, an19, cd19, ct19, sl19, l19, c19, k19⟩ := u19
  obtain ⟨oc20, od20, kV20, dc20, pm20, an20, cd20, ct20, sl20, l20, c20, k20⟩ := u20
  obtain ⟨oc21, od21, kV21, dc21, pm21, an21, cd21, ct21, sl21, l21, c21, k21⟩ := u21
  obtain ⟨oc22, od22, kV22, dc22, pm22, an22, cd22, ct22, sl22, l22, c22, k22⟩ := u22
  obtain ⟨oc23, od23, kV23, dc23, pm23, an23, cd23, ct23, sl23, l23, c23, k23⟩ := u23
  obtain ⟨oc24, od24, kV24, dc24, pm24, an24, cd24, ct24, sl24, l24, c24, k24⟩ := u24
  obtain ⟨oc25, od25, kV25, dc25, pm25, an25, cd25, ct25, sl25, l25, c25, k25⟩ := u25
  obtain ⟨oc26, od26, kV26, dc26, pm26, an26, cd26, ct26, sl26, l26, c26, k26⟩ := u26
  obtain ⟨oc27, od27, kV27, dc27, pm27, an27, cd27, ct27, sl27, l27, c27, k27⟩ := u27
  obtain ⟨oc28, od28, kV28, dc28, pm28, an28, cd28, ct28, sl28, l28, c28, k28⟩ := u28
  obtain ⟨oc29, od29, kV29, dc29, pm29, an29, cd29, ct29, sl29, l29, c29, k29⟩ := u29
  obtain ⟨oc30, od30, kV30, dc30, pm30, an30, cd30, ct30, sl30, l30, c30, k30⟩ := u30
  obtain ⟨oc31, od31, kV31, dc31, pm31, an31, cd31, ct31, sl31, l31, c31, k31⟩ := u31
  obtain ⟨oc32, od32, kV32, dc32, pm32, an32, cd32, ct32, sl32, l32, c32, k32⟩ := u32
  obtain ⟨oc33, od33, kV33, dc33, pm33, an33, cd33, ct33, sl33, l33, c33, k33⟩ := u33
  obtain ⟨oc34, od34, kV34, dc34, pm34, an34, cd34, ct34, sl34, l34, c34, k34⟩ := u34
  obtain ⟨oc35, od35, kV35, dc35, pm35, an35, cd35, ct35, sl35, l35, c35, k35⟩ := u35
  obtain ⟨oc36, od36, kV36, dc36, pm36, an36, cd36, ct36, sl36, l36, c36, k36⟩ := u36
  obtain ⟨oc37, od37, kV37, dc37, pm37, an37, cd37, ct37, sl37, l37, c37, k37⟩ := u37
  obtain ⟨oc38, od38, kV38, dc38, pm38, an38, cd38, ct38, sl38, l38, c38, k38⟩ := u38
  obtain ⟨oc39, od39, kV39, dc39, pm39, an39, cd39, ct39, sl39, l39, c39, k39⟩ := u39
  obtain ⟨oc40, od40, kV40, dc40, pm40, an40, cd40, ct40, sl40, l40, c40, k40⟩ := u40
  have F1 := fun_mk (st := s_is_word) l1 c1 k1
  have m1 := PySem.W.mg_of X G a1
  have F2 := fun_mk (st := s_is_name) l2 c2 k2
  have m2 := PySem.W.mg_of X G a2
  have F3 := fun_mk (st := s_is_integer) l3 c3 k3
  have m3 := PySem.W.mg_of X G a3
  have F4 := fun_mk (st := s_is_term) l4 c4 k4
  have m4 := PySem.W.mg_of X G a4
  have F5 := fun_mk (st := s_parts_in) l5 c5 k5
  have m5 := PySem.W.mg_of X G a5
  have F6 := fun_mk (st := s_parts_in_name) l6 c6 k6
  have m6 := PySem.W.mg_of X G a6
  have F7 := fun_mk (st := s_parts_in_whole) l7 c7 k7
  have m7 := PySem.W.mg_of X G a7
  have F8 := fun_mk (st := s_parts_in_text) l8 c8 k8
  have m8 := PySem.W.mg_of X G a8
  have F9 := fun_mk (st := s_parts_in_use) l9 c9 k9
  have m9 := PySem.W.mg_of X G a9
  have F10 := fun_mk (st := s_parts_in_given) l10 c10 k10
  have m10 := PySem.W.mg_of X G a10
  have F11 := fun_mk (st := s_parts_in_let) l11 c11 k11
  have m11 := PySem.W.mg_of X G a11
  have F12 := fun_mk (st := s_parts_in_match) l12 c12 k12
  have m12 := PySem.W.mg_of X G a12
  have F13 := fun_mk (st := s_parts_in_hole) l13 c13 k13
  have m13 := PySem.W.mg_of X G a13
  have F14 := fun_mk (st := s_is_whole) l14 c14 k14
  have m14 := PySem.W.mg_of X G a14
  have F15 := fun_mk (st := s_is_text) l15 c15 k15
  have m15 := PySem.W.mg_of X G a15
  have F16 := fun_mk (st := s_are_rows) l16 c16 k16
  have m16 := PySem.W.mg_of X G a16
  have F17 := fun_mk (st := s_are_different_names) l17 c17 k17
  have m17 := PySem.W.mg_of X G a17
  have F18 := fun_mk (st := s_places) l18 c18 k18
  have m18 := PySem.W.mg_of X G a18
  have F19 := fun_mk (st := s_part_at) l19 c19 k19
  have m19 := PySem.W.mg_of X G a19
  have F20 := fun_mk (st := s_bound_parts) l20 c20 k20
  have m20 := PySem.W.mg_of X G a20
  have F21 := fun_mk (st := s_words_of) l21 c21 k21
  have m21 := PySem.W.mg_of X G a21
  have F22 := fun_mk (st := s_rows_with_arms) l22 c22 k22
  have m22 := PySem.W.mg_of X G a22
  have F23 := fun_mk (st := s_free_names) l23 c23 k23
  have m23 := PySem.W.mg_of X G a23
  have F24 := fun_mk (st := s__law_begin) l24 c24 k24
  have m24 := PySem.W.mg_of X G a24
  have F25 := fun_mk (st := s__law_draw) l25 c25 k25
  have m25 := PySem.W.mg_of X G a25
  have F26 := fun_mk (st := s__law_pick) l26 c26 k26
  have m26 := PySem.W.mg_of X G a26
  have F27 := fun_mk (st := s__law_shuffled) l27 c27 k27
  have m27 := PySem.W.mg_of X G a27
  have F28 := fun_mk (st := s__law_odd) l28 c28 k28
  have m28 := PySem.W.mg_of X G a28
  have F29 := fun_mk (st := s__law_words) l29 c29 k29
  have m29 := PySem.W.mg_of X G a29
  have F30 := fun_mk (st := s__law_term) l30 c30 k30
  have m30 := PySem.W.mg_of X G a30
  have F31 := fun_mk (st := s__law_parts) l31 c31 k31
  have m31 := PySem.W.mg_of X G a31
  have F32 := fun_mk (st := s__law_spots) l32 c32 k32
  have m32 := PySem.W.mg_of X G a32
  have F33 := fun_mk (st := s__law_free) l33 c33 k33
  have m33 := PySem.W.mg_of X G a33
  have F34 := fun_mk (st := s__law_is_named) l34 c34 k34
  have m34 := PySem.W.mg_of X G a34
  have F35 := fun_mk (st := s__law_are_named) l35 c35 k35
  have m35 := PySem.W.mg_of X G a35
  have F36 := fun_mk (st := s__law_is_leaf) l36 c36 k36
  have m36 := PySem.W.mg_of X G a36
  have F37 := fun_mk (st := s__law_is_one) l37 c37 k37
  have m37 := PySem.W.mg_of X G a37
  have F38 := fun_mk (st := s__law_bent) l38 c38 k38
  have m38 := PySem.W.mg_of X G a38
  have F39 := fun_mk (st := s__law_is_outside) l39 c39 k39
  have m39 := PySem.W.mg_of X G a39
  have F40 := fun_mk (st := s_law) l40 c40 k40
  have m40 := PySem.W.mg_of X G a40
  refine ⟨PySem.W.fnOf "law" "law" (defArgs s_law) (defBody s_law) (defScope s_law) .none kV40 dc40 pm40 an40 cd40 ct40, fun s v => .of_eq rfl, fun base _ _ => ?_⟩
  have EO : E1 l.prog w K mg base "OutOfTerm" "place" mroL "LookupError.__new__" C := by
    obtain ⟨_, _, kV, dc, pm, an, cd, ct, _, lk, ck, kk⟩ := v
    have F := fun_mk (st := s_OutOfTerm___init__) lk ck kk
    exact e1_of q p (PySem.W.mg_of X G q.ns) no (i_OutOfTerm F) (F.binds (fun _ _ _ _ _ _ us hl => match us, hl with | [_, _], _ => rfl)) (kb1 (fun s a b => .of_eq rfl))
  have Dword := Fun.kn (P := l.prog) (w := w) (base := base) (k := 1) F1 m1 (ok_word F1 B B9 M) (fun _ _ _ _ _ _ us hl => match us, hl with | [_], _ => rfl)
  have Dname := Fun.kn (P := l.prog) (w := w) (base := base) (k := 2) F2 m2 (ok_name F2 M Dword) (fun _ _ _ _ _ _ us hl => match us, hl with | [_], _ => rfl)
  have Dint := Fun.kn (P := l.prog) (w := w) (base := base) (k := 1) F3 m3 (ok_int F3 B9) (fun _ _ _ _ _ _ us hl => match us, hl with | [_], _ => rfl)
  have Dwhole := Fun.kn (P := l.prog) (w := w) (base := base) (k := 2) F14 m14 (ok_whole F14 M Dint) (fun _ _ _ _ _ _ us hl => match us, hl with | [_], _ => rfl)
  have Dtext := Fun.kn (P := l.prog) (w := w) (base := base) (k := 2) F15 m15 ((ok_text F15 B B9 M).mono (by decide)) (fun _ _ _ _ _ _ us hl => match us, hl with | [_], _ => rfl)
  have Drows := Fun.kn (P := l.prog) (w := w) (base := base) (k := 1) F16 m16 (ok_rows F16 B B9) (fun _ _ _ _ _ _ us hl => match us, hl with | [_, _], _ => rfl)
  have Ddif := Fun.kn (P := l.prog) (w := w) (base := base) (k := 3) F17 m17 (ok_diff F17 B B9 M Dname) (fun _ _ _ _ _ _ us hl => match us, hl with | [_], _ => rfl)
  have W0 : FW l.prog w K mg base fA "name" (spForm "name") := ⟨_, ⟨_, _, _, lF, kF, y0, rfl⟩, does_of4 (P := l.prog) (w := w) (mg := mg) (base := base) (ok_fname F6 B Dname) (F6.binds (fun _ _ _ _ _ _ us hl => match us, hl with | [_], _ => rfl)) (by decide) k6⟩
  have W1 : FW l.prog w K mg base fA "whole" (spForm "whole") := ⟨_, ⟨_, _, _, lF, kF, y1, rfl⟩, does_of4 (P := l.prog) (w := w) (mg := mg) (base := base) (ok_fwhole F7 B Dwhole) (F7.binds (fun _ _ _ _ _ _ us hl => match us, hl with | [_], _ => rfl)) (by decide) k7⟩
  have W2 : FW l.prog w K mg base fA "text" (spForm "text") := ⟨_, ⟨_, _, _, lF, kF, y2, rfl⟩, does_of4 (P := l.prog) (w := w) (mg := mg) (base := base) (ok_ftext F8 B Dtext) (F8.binds (fun _ _ _ _ _ _ us hl => match us, hl with | [_], _ => rfl)) (by decide) k8⟩
  have W3 : FW l.prog w K mg base fA "use" (spForm "use") := ⟨_, ⟨_, _, _, lF, kF, y3, rfl⟩, does_of4 (P := l.prog) (w := w) (mg := mg) (base := base) (ok_fuse F9 B) (F9.binds (fun _ _ _ _ _ _ us hl => match us, hl with | [_], _ => rfl)) (by decide) k9⟩
  have W4 : FW l.prog w K mg base fA "given" (spForm "given") := ⟨_, ⟨_, _, _, lF, kF, y4, rfl⟩, does_of4 (P := l.prog) (w := w) (mg := mg) (base := base) (ok_fgiven F10 B Dname) (F10.binds (fun _ _ _ _ _ _ us hl => match us, hl with | [_], _ => rfl)) (by decide) k10⟩
  have W5 : FW l.prog w K mg base fA "let" (spForm "let") := ⟨_, ⟨_, _, _, lF, kF, y5, rfl⟩, does_of4 (P := l.prog) (w := w) (mg := mg) (base := base) (ok_flet F11 B Drows Ddif) (F11.binds (fun _ _ _ _ _ _ us hl => match us, hl with | [_], _ => rfl)) (by decide) k11⟩
  have W6 : FW l.prog w K mg base fA "match" (spForm "match") := ⟨_, ⟨_, _, _, lF, kF, y6, rfl⟩, does_of4 (P := l.prog) (w := w) (mg := mg) (base := base) (ok_fmatch F12 B B9 Dname Drows Ddif) (F12.binds (fun _ _ _ _ _ _ us hl => match us, hl with | [_], _ => rfl)) (by decide) k12⟩
  have W7 : FW l.prog w K mg base fA "hole" (spForm "hole") := ⟨_, ⟨_, _, _, lF, kF, y7, rfl⟩, does_of4 (P := l.prog) (w := w) (mg := mg) (base := base) (ok_fhole F13 B) (F13.binds (fun _ _ _ _ _ _ us hl => match us, hl with | [_], _ => rfl)) (by decide) k13⟩
  have FM : Fm l.prog w K mg base fA esF nF := ⟨⟨_, PySem.W.mg_of X G aF, rfl⟩, ⟨lF, kF, wF⟩, has_of lF vF, fun x hx => by
    simp only [formL, List.mem_cons, List.not_mem_nil, or_false] at hx
    rcases hx with rfl | rfl | rfl | rfl | rfl | rfl | rfl | rfl <;> assumption⟩
  have Dparts := Fun.kn (P := l.prog) (w := w) (base := base) (k := 5) F5 m5 (ok_parts F5 B B9 FM) (fun _ _ _ _ _ _ us hl => match us, hl with | [_], _ => rfl)
  have Dterm := Fun.kn (P := l.prog) (w := w) (base := base) (k := 6) F4 m4 (ok_term F4 B Dparts) (fun _ _ _ _ _ _ us hl => match us, hl with | [_], _ => rfl)
  have Dat := Fun.knX (P := l.prog) (w := w) (base := base) (k := 6) F19 m19 (ok_at F19 B B9 EO Dparts Dint) (fun _ _ _ _ _ _ us hl => match us, hl with | [_, _], _ => rfl)
  have Dbound := Fun.kn (P := l.prog) (w := w) (base := base) (k := 6) F20 m20 (ok_bound F20 B Dparts) (fun _ _ _ _ _ _ us hl => match us, hl with | [_, _], _ => rfl)
  have Drwa := Fun.kn (P := l.prog) (w := w) (base := base) (k := 7) F22 m22 (ok_rowsA F22 B Dbound) (fun _ _ _ _ _ _ us hl => match us, hl with | [_, _], _ => rfl)
  have Dwo := Fun.kn (P := l.prog) (w := w) (base := base) (k := 8) F21 m21 (ok_words_of F21 B B5 Drwa) (fun _ _ _ _ _ _ us hl => match us, hl with | [_], _ => rfl)
  have Dfree := Fun.kn (P := l.prog) (w := w) (base := base) (k := 9) F23 m23 (ok_free F23 B Dwo) (fun _ _ _ _ _ _ us hl => match us, hl with | [_], _ => rfl)
  have Dbegin := Fun.kn (P := l.prog) (w := w) (base := base) (k := 1) F24 m24 (ok_begin F24) (fun _ _ _ _ _ _ us hl => match us, hl with | [_], _ => rfl)
  have Ddraw := Fun.kn (P := l.prog) (w := w) (base := base) (k := 1) F25 m25 (ok_draw F25 B) (fun _ _ _ _ _ _ us hl => match us, hl with | [_, _], _ => rfl)
  have Dpick := Fun.kn (P := l.prog) (w := w) (base := base) (k := 2) F26 m26 (ok_pick F26 B Ddraw) (fun _ _ _ _ _ _ us hl => match us, hl with | [_, _], _ => rfl)
  have Dshuf := Fun.kn (P := l.prog) (w := w) (base := base) (k := 2) F27 m27 (ok_shuf F27 B Ddraw) (fun _ _ _ _ _ _ us hl => match us, hl with | [_, _], _ => rfl)
  have Dodd := Fun.kn (P := l.prog) (w := w) (base := base) (k := 3) F28 m28 (ok_odd F28 Dpick) (fun _ _ _ _ _ _ us hl => match us, hl with | [_], _ => rfl)
  have Dwords := Fun.kn (P := l.prog) (w := w) (base := base) (k := 3) F29 m29 (ok_words F29 B Ddraw Dpick) (fun _ _ _ _ _ _ us hl => match us, hl with | [_, _], _ => rfl)
  have Dlp := Fun.kn (P := l.prog) (w := w) (base := base) (k := 1) F31 m31 (ok_lparts F31 B) (fun _ _ _ _ _ _ us hl => match us, hl with | [_], _ => rfl)
  have Dnamed := Fun.kn (P := l.prog) (w := w) (base := base) (k := 1) F34 m34 (ok_lnamed F34 B B9) (fun _ _ _ _ _ _ us hl => match us, hl with | [_], _ => rfl)
  have Dare := Fun.kn (P := l.prog) (w := w) (base := base) (k := 2) F35 m35 (ok_lare F35 B B9 M Dnamed) (fun _ _ _ _ _ _ us hl => match us, hl with | [_], _ => rfl)
  have Dleaf := Fun.kn (P := l.prog) (w := w) (base := base) (k := 2) F36 m36 (ok_leaf F36 B B9 Dnamed) (fun _ _ _ _ _ _ us hl => match us, hl with | [_], _ => rfl)
  have Dt0 := Fun.kn (P := l.prog) (w := w) (base := base) (k := 2) (sp := spLTerm K 0) F30 m30 (F30.ok sc__law_term (fun vs H Q E h => by obtain ⟨_, _, _, _, _, _, _, _, _, _, _, _, hh, _⟩ := h; exact absurd hh (Nat.not_lt_zero _)) (fun cdv A outer s H vs Q E hr h => by obtain ⟨_, _, _, _, _, _, _, _, _, _, _, _, hh, _⟩ := h; exact absurd hh (Nat.not_lt_zero _))) (fun _ _ _ _ _ _ us hl => match us, hl with | [_, _, _], _ => rfl)
  have Dt1 := Fun.kn (P := l.prog) (w := w) (base := base) (k := 3) F30 m30 (ok_lterm (n := 0) (k := 2) (by decide) F30 B Ddraw Dpick Dshuf Dt0) (fun _ _ _ _ _ _ us hl => match us, hl with | [_, _, _], _ => rfl)
  have Dt2 := Fun.kn (P := l.prog) (w := w) (base := base) (k := 4) F30 m30 (ok_lterm (n := 1) (k := 3) (by decide) F30 B Ddraw Dpick Dshuf Dt1) (fun _ _ _ _ _ _ us hl => match us, hl with | [_, _, _], _ => rfl)
  have Dt3 := Fun.kn (P := l.prog) (w := w) (base := base) (k := 5) F30 m30 (ok_lterm (n := 2) (k := 4) (by decide) F30 B Ddraw Dpick Dshuf Dt2) (fun _ _ _ _ _ _ us hl => match us, hl with | [_, _, _], _ => rfl)
  have Dt4 := Fun.kn (P := l.prog) (w := w) (base := base) (k := 6) F30 m30 (ok_lterm (n := 3) (k := 5) (by decide) F30 B Ddraw Dpick Dshuf Dt3) (fun _ _ _ _ _ _ us hl => match us, hl with | [_, _, _], _ => rfl)
  have Dt5 := Fun.kn (P := l.prog) (w := w) (base := base) (k := 7) F30 m30 (ok_lterm (n := 4) (k := 6) (by decide) F30 B Ddraw Dpick Dshuf Dt4) (fun _ _ _ _ _ _ us hl => match us, hl with | [_, _, _], _ => rfl)
  have Ds0 := Fun.kn (P := l.prog) (w := w) (base := base) (k := 1) (sp := spSpots 0) F32 m32 (F32.ok sc__law_spots (fun vs H Q E h => by obtain ⟨_, _, _, _, _, _, _, _, _, hh, _⟩ := h; exact hh.elim) (fun cdv A outer s H vs Q E hr h => by obtain ⟨_, _, _, _, _, _, _, _, _, hh, _⟩ := h; exact hh.elim)) (fun _ _ _ _ _ _ us hl => match us, hl with | [_, _], _ => rfl)
  have Ds1 := Fun.kn (P := l.prog) (w := w) (base := base) (k := 2) F32 m32 (ok_lspots (n := 0) (k := 1) (by decide) F32 B B5 Dlp Ds0) (fun _ _ _ _ _ _ us hl => match us, hl with | [_, _], _ => rfl)
  have Ds2 := Fun.kn (P := l.prog) (w := w) (base := base) (k := 3) F32 m32 (ok_lspots (n := 1) (k := 2) (by decide) F32 B B5 Dlp Ds1) (fun _ _ _ _ _ _ us hl => match us, hl with | [_, _], _ => rfl)
  have Ds3 := Fun.kn (P := l.prog) (w := w) (base := base) (k := 4) F32 m32 (ok_lspots (n := 2) (k := 3) (by decide) F32 B B5 Dlp Ds2) (fun _ _ _ _ _ _ us hl => match us, hl with | [_, _], _ => rfl)
  have Ds4 := Fun.kn (P := l.prog) (w := w) (base := base) (k := 5) F32 m32 (ok_lspots (n := 3) (k := 4) (by decide) F32 B B5 Dlp Ds3) (fun _ _ _ _ _ _ us hl => match us, hl with | [_, _], _ => rfl)
  have Ds5 := Fun.kn (P := l.prog) (w := w) (base := base) (k := 6) F32 m32 (ok_lspots (n := 4) (k := 5) (by decide) F32 B B5 Dlp Ds4) (fun _ _ _ _ _ _ us hl => match us, hl with | [_, _], _ => rfl)
  have Df0 := Fun.kn (P := l.prog) (w := w) (base := base) (k := 1) (sp := spLFree 0) F33 m33 (F33.ok sc__law_free (fun vs H Q E h => by obtain ⟨_, _, _, _, _, _, _, _, _, hh, _⟩ := h; exact hh.elim) (fun cdv A outer s H vs Q E hr h => by obtain ⟨_, _, _, _, _, _, _, _, _, hh, _⟩ := h; exact hh.elim)) (fun _ _ _ _ _ _ us hl => match us, hl with | [_, _], _ => rfl)
  have Df1 := Fun.kn (P := l.prog) (w := w) (base := base) (k := 2) F33 m33 (ok_lfree (n := 0) (k := 1) (by decide) F33 B B5 Dlp Df0) (fun _ _ _ _ _ _ us hl => match us, hl with | [_, _], _ => rfl)
  have Df2 := Fun.kn (P := l.prog) (w := w) (base := base) (k := 3) F33 m33 (ok_lfree (n := 1) (k := 2) (by decide) F33 B B5 Dlp Df1) (fun _ _ _ _ _ _ us hl => match us, hl with | [_, _], _ => rfl)
  have Df3 := Fun.kn (P := l.prog) (w := w) (base := base) (k := 4) F33 m33 (ok_lfree (n := 2) (k := 3) (by decide) F33 B B5 Dlp Df2) (fun _ _ _ _ _ _ us hl => match us, hl with | [_, _], _ => rfl)
  have Df4 := Fun.kn (P := l.prog) (w := w) (base := base) (k := 5) F33 m33 (ok_lfree (n := 3) (k := 4) (by decide) F33 B B5 Dlp Df3) (fun _ _ _ _ _ _ us hl => match us, hl with | [_, _], _ => rfl)
  have Df5 := Fun.kn (P := l.prog) (w := w) (base := base) (k := 6) F33 m33 (ok_lfree (n := 4) (k := 5) (by decide) F33 B B5 Dlp Df4) (fun _ _ _ _ _ _ us hl => match us, hl with | [_, _], _ => rfl)
  have Do0 := Fun.kn (P := l.prog) (w := w) (base := base) (k := 2) (sp := spOne 0) F37 m37 (F37.ok sc__law_is_one (fun vs H Q E h => by obtain ⟨_, _, _, _, _, _, hh, _⟩ := h; exact hh.elim) (fun cdv A outer s H vs Q E hr h => by obtain ⟨_, _, _, _, _, _, hh, _⟩ := h; exact hh.elim)) (fun _ _ _ _ _ _ us hl => match us, hl with | [_], _ => rfl)
  have Do1 := Fun.kn (P := l.prog) (w := w) (base := base) (k := 3) F37 m37 (ok_one (n := 0) (k := 2) (by decide) F37 B B9 Dnamed Dare Dleaf Do0) (fun _ _ _ _ _ _ us hl => match us, hl with | [_], _ => rfl)
  have Do2 := Fun.kn (P := l.prog) (w := w) (base := base) (k := 4) F37 m37 (ok_one (n := 1) (k := 3) (by decide) F37 B B9 Dnamed Dare Dleaf Do1) (fun _ _ _ _ _ _ us hl => match us, hl with | [_], _ => rfl)
  have Do3 := Fun.kn (P := l.prog) (w := w) (base := base) (k := 5) F37 m37 (ok_one (n := 2) (k := 4) (by decide) F37 B B9 Dnamed Dare Dleaf Do2) (fun _ _ _ _ _ _ us hl => match us, hl with | [_], _ => rfl)
  have Do4 := Fun.kn (P := l.prog) (w := w) (base := base) (k := 6) F37 m37 (ok_one (n := 3) (k := 5) (by decide) F37 B B9 Dnamed Dare Dleaf Do3) (fun _ _ _ _ _ _ us hl => match us, hl with | [_], _ => rfl)
  have Do5 := Fun.kn (P := l.prog) (w := w) (base := base) (k := 7) F37 m37 (ok_one (n := 4) (k := 6) (by decide) F37 B B9 Dnamed Dare Dleaf Do4) (fun _ _ _ _ _ _ us hl => match us, hl with | [_], _ => rfl)
  have Do6 := Fun.kn (P := l.prog) (w := w) (base := base) (k := 8) F37 m37 (ok_one (n := 5) (k := 7) (by decide) F37 B B9 Dnamed Dare Dleaf Do5) (fun _ _ _ _ _ _ us hl => match us, hl with | [_], _ => rfl)
  have Do7 := Fun.kn (P := l.prog) (w := w) (base := base) (k := 9) F37 m37 (ok_one (n := 6) (k := 8) (by decide) F37 B B9 Dnamed Dare Dleaf Do6) (fun _ _ _ _ _ _ us hl => match us, hl with | [_], _ => rfl)
  have Do8 := Fun.kn (P := l.prog) (w := w) (base := base) (k := 10) F37 m37 (ok_one (n := 7) (k := 9) (by decide) F37 B B9 Dnamed Dare Dleaf Do7) (fun _ _ _ _ _ _ us hl => match us, hl with | [_], _ => rfl)
  have Do9 := Fun.kn (P := l.prog) (w := w) (base := base) (k := 11) F37 m37 (ok_one (n := 8) (k := 10) (by decide) F37 B B9 Dnamed Dare Dleaf Do8) (fun _ _ _ _ _ _ us hl => match us, hl with | [_], _ => rfl)
  have Do10 := Fun.kn (P := l.prog) (w := w) (base := base) (k := 12) F37 m37 (ok_one (n := 9) (k := 11) (by decide) F37 B B9 Dnamed Dare Dleaf Do9) (fun _ _ _ _ _ _ us hl => match us, hl with | [_], _ => rfl)
  have Do11 := Fun.kn (P := l.prog) (w := w) (base := base) (k := 13) F37 m37 (ok_one (n := 10) (k := 12) (by decide) F37 B B9 Dnamed Dare Dleaf Do10) (fun _ _ _ _ _ _ us hl => match us, hl with | [_], _ => rfl)
  have Do12 := Fun.kn (P := l.prog) (w := w) (base := base) (k := 14) F37 m37 (ok_one (n := 11) (k := 13) (by decide) F37 B B9 Dnamed Dare Dleaf Do11) (fun _ _ _ _ _ _ us hl => match us, hl with | [_], _ => rfl)
  have Do13 := Fun.kn (P := l.prog) (w := w) (base := base) (k := 15) F37 m37 (ok_one (n := 12) (k := 14) (by decide) F37 B B9 Dnamed Dare Dleaf Do12) (fun _ _ _ _ _ _ us hl => match us, hl with | [_], _ => rfl)
  have Do14 := Fun.kn (P := l.prog) (w := w) (base := base) (k := 16) F37 m37 (ok_one (n := 13) (k := 15) (by decide) F37 B B9 Dnamed Dare Dleaf Do13) (fun _ _ _ _ _ _ us hl => match us, hl with | [_], _ => rfl)
  have Do15 := Fun.kn (P := l.prog) (w := w) (base := base) (k := 17) F37 m37 (ok_one (n := 14) (k := 16) (by decide) F37 B B9 Dnamed Dare Dleaf Do14) (fun _ _ _ _ _ _ us hl => match us, hl with | [_], _ => rfl)
  have Do16 := Fun.kn (P := l.prog) (w := w) (base := base) (k := 18) F37 m37 (ok_one (n := 15) (k := 17) (by decide) F37 B B9 Dnamed Dare Dleaf Do15) (fun _ _ _ _ _ _ us hl => match us, hl with | [_], _ => rfl)
  have Do17 := Fun.kn (P := l.prog) (w := w) (base := base) (k := 19) F37 m37 (ok_one (n := 16) (k := 18) (by decide) F37 B B9 Dnamed Dare Dleaf Do16) (fun _ _ _ _ _ _ us hl => match us, hl with | [_], _ => rfl)
  have Do18 := Fun.kn (P := l.prog) (w := w) (base := base) (k := 20) F37 m37 (ok_one (n := 17) (k := 19) (by decide) F37 B B9 Dnamed Dare Dleaf Do17) (fun _ _ _ _ _ _ us hl => match us, hl with | [_], _ => rfl)
  have Db0 := Fun.kn (P := l.prog) (w := w) (base := base) (k := 2) (sp := spBent K 0) F38 m38 (F38.ok sc__law_bent (fun vs H Q E h => by obtain ⟨_, _, _, _, _, _, _, _, _, _, _, _, _, _, _, _, _, hh, _⟩ := h; exact hh.elim) (fun cdv A outer s H vs Q E hr h => by obtain ⟨_, _, _, _, _, _, _, _, _, _, _, _, _, _, _, _, _, hh, _⟩ := h; exact hh.elim)) (fun _ _ _ _ _ _ us hl => match us, hl with | [_, _, _], _ => rfl)
  have Db1 := Fun.kn (P := l.prog) (w := w) (base := base) (k := 3) F38 m38 (ok_bent (n := 0) (k := 2) (by decide) F38 B B9 Ddraw Dpick Db0) (fun _ _ _ _ _ _ us hl => match us, hl with | [_, _, _], _ => rfl)
  have Db2 := Fun.kn (P := l.prog) (w := w) (base := base) (k := 4) F38 m38 (ok_bent (n := 1) (k := 3) (by decide) F38 B B9 Ddraw Dpick Db1) (fun _ _ _ _ _ _ us hl => match us, hl with | [_, _, _], _ => rfl)
  have Db3 := Fun.kn (P := l.prog) (w := w) (base := base) (k := 5) F38 m38 (ok_bent (n := 2) (k := 4) (by decide) F38 B B9 Ddraw Dpick Db2) (fun _ _ _ _ _ _ us hl => match us, hl with | [_, _, _], _ => rfl)
  have Db4 := Fun.kn (P := l.prog) (w := w) (base := base) (k := 6) F38 m38 (ok_bent (n := 3) (k := 5) (by decide) F38 B B9 Ddraw Dpick Db3) (fun _ _ _ _ _ _ us hl => match us, hl with | [_, _, _], _ => rfl)
  have Db5 := Fun.kn (P := l.prog) (w := w) (base := base) (k := 7) F38 m38 (ok_bent (n := 4) (k := 6) (by decide) F38 B B9 Ddraw Dpick Db4) (fun _ _ _ _ _ _ us hl => match us, hl with | [_, _, _], _ => rfl)
  have Db6 := Fun.kn (P := l.prog) (w := w) (base := base) (k := 8) F38 m38 (ok_bent (n := 5) (k := 7) (by decide) F38 B B9 Ddraw Dpick Db5) (fun _ _ _ _ _ _ us hl => match us, hl with | [_, _, _], _ => rfl)
  have Db7 := Fun.kn (P := l.prog) (w := w) (base := base) (k := 9) F38 m38 (ok_bent (n := 6) (k := 8) (by decide) F38 B B9 Ddraw Dpick Db6) (fun _ _ _ _ _ _ us hl => match us, hl with | [_, _, _], _ => rfl)
  have Db8 := Fun.kn (P := l.prog) (w := w) (base := base) (k := 10) F38 m38 (ok_bent (n := 7) (k := 9) (by decide) F38 B B9 Ddraw Dpick Db7) (fun _ _ _ _ _ _ us hl => match us, hl with | [_, _, _], _ => rfl)
  have Db9 := Fun.kn (P := l.prog) (w := w) (base := base) (k := 11) F38 m38 (ok_bent (n := 8) (k := 10) (by decide) F38 B B9 Ddraw Dpick Db8) (fun _ _ _ _ _ _ us hl => match us, hl with | [_, _, _], _ => rfl)
  have Db10 := Fun.kn (P := l.prog) (w := w) (base := base) (k := 12) F38 m38 (ok_bent (n := 9) (k := 11) (by decide) F38 B B9 Ddraw Dpick Db9) (fun _ _ _ _ _ _ us hl => match us, hl with | [_, _, _], _ => rfl)
  have Db11 := Fun.kn (P := l.prog) (w := w) (base := base) (k := 13) F38 m38 (ok_bent (n := 10) (k := 12) (by decide) F38 B B9 Ddraw Dpick Db10) (fun _ _ _ _ _ _ us hl => match us, hl with | [_, _, _], _ => rfl)
  have Db12 := Fun.kn (P := l.prog) (w := w) (base := base) (k := 14) F38 m38 (ok_bent (n := 11) (k := 13) (by decide) F38 B B9 Ddraw Dpick Db11) (fun _ _ _ _ _ _ us hl => match us, hl with | [_, _, _], _ => rfl)
  have Db13 := Fun.kn (P := l.prog) (w := w) (base := base) (k := 15) F38 m38 (ok_bent (n := 12) (k := 14) (by decide) F38 B B9 Ddraw Dpick Db12) (fun _ _ _ _ _ _ us hl => match us, hl with | [_, _, _], _ => rfl)
  have Db14 := Fun.kn (P := l.prog) (w := w) (base := base) (k := 16) F38 m38 (ok_bent (n := 13) (k := 15) (by decide) F38 B B9 Ddraw Dpick Db13) (fun _ _ _ _ _ _ us hl => match us, hl with | [_, _, _], _ => rfl)
  have Db15 := Fun.kn (P := l.prog) (w := w) (base := base) (k := 17) F38 m38 (ok_bent (n := 14) (k := 16) (by decide) F38 B B9 Ddraw Dpick Db14) (fun _ _ _ _ _ _ us hl => match us, hl with | [_, _, _], _ => rfl)
  have Dout : KnG l.prog w K mg base 7 "_law_is_outside" spOut := ⟨f39, ok_out F39 B B9 LE (F39.binds (fun _ _ _ _ _ _ us hl => match us, hl with | [_, _], _ => rfl)) EO Dat, m39, k39⟩
  exact law_run F40 B B9 (PySem.W.mg_none_of X G z22) (PySem.W.mg_none_of X G z18) (ok_places F18 B B5 Dparts) m18 k18 (F18.binds (fun _ _ _ _ _ _ us hl => match us, hl with | [_], _ => rfl)) Dbegin Ddraw Dpick Dodd Dwords Dt5 Ds5 Df5 Do18 Db15 Dterm Dfree Dat Dout
end L3

set_option maxHeartbeats 4000000
open PySem PySem.W PySem.Calls PyProof.Rows in
set_option maxRecDepth 100000 in
set_option maxHeartbeats 0 in
theorem PySem.Challenge.cw_leastneeds_k02_terms_and_places_holds : PySem.Challenge.rw_leastneeds_k02_terms_and_places.Holds := by
  w_on; o_law; k_head; (case hw => w_witness2)
  k_fill
  refine L3.walkG (l := PySem.Challenge.rw_leastneeds_k02_terms_and_places) (n := 63) (x := "_law_script") (sp := L3.spLaw) rfl (by decide) rfl (fun w h Y => PySem.W.kIn_of Y) ?F (fun K H a ns _ hS => ⟨a, ns, rfl, hS, fun _ => rfl⟩)
  case F =>
    intro w mg fa h KX G hmg
    refine' L3.all_mk (l := PySem.Challenge.rw_leastneeds_k02_terms_and_places) KX G hmg ?a1 ?u1 ?a2 ?u2 ?a3 ?u3 ?a4 ?u4 ?a5 ?u5 ?a6 ?u6 ?a7 ?u7 ?a8 ?u8 ?a9 ?u9 ?a10 ?u10 ?a11 ?u11 ?a12 ?u12 ?a13 ?u13 ?a14 ?u14 ?a15 ?u15 ?a16 ?u16 ?a17 ?u17 ?a18 ?u18 ?a19 ?u19 ?a20 ?u20 ?a21 ?u21 ?a22 ?u22 ?a23 ?u23 ?a24 ?u24 ?a25 ?u25 ?a26 ?u26 ?a27 ?u27 ?a28 ?u28 ?a29 ?u29 ?a30 ?u30 ?a31 ?u31 ?a32 ?u32 ?a33 ?u33 ?a34 ?u34 ?a35 ?u35 ?a36 ?u36 ?a37 ?u37 ?a38 ?u38 ?a39 ?u39 ?a40 ?u40 ?z0 ?z1 ?z2 ?z3 ?z4 ?z5 ?z6 ?z7 ?z8 ?z9 ?z10 ?z11 ?z12 ?z13 ?z14 ?z15 ?z16 ?z17 ?z18 ?z19 ?z20 ?z21 ?z22 ?z23 ?aL ?rL ?aO ?rO ?aX ?rX ?aB ?lB ?kB ?wB ?vB ?aF ?lF ?kF ?wF ?vF ?y0 ?y1 ?y2 ?y3 ?y4 ?y5 ?y6 ?y7 ?cQ ?cP ?vI ?cNo
    (case a1 => k_is)
    (case u1 => refine' L3.fn_is ?l ?c ?k; (case l => k_is); (case c => k_is); (case k => k_is))
    (case a2 => k_is)
    (case u2 => refine' L3.fn_is ?l ?c ?k; (case l => k_is); (case c => k_is); (case k => k_is))
    (case a3 => k_is)
    (case u3 => refine' L3.fn_is ?l ?c ?k; (case l => k_is); (case c => k_is); (case k => k_is))
    (case a4 => k_is)
    (case u4 => refine' L3.fn_is ?l ?c ?k; (case l => k_is); (case c => k_is); (case k => k_is))
    (case a5 => k_is)
    (case u5 => refine' L3.fn_is ?l ?c ?k; (case l => k_is); (case c => k_is); (case k => k_is))
    (case a6 => k_is)
    (case u6 => refine' L3.fn_is ?l ?c ?k; (case l => k_is); (case c => k_is); (case k => k_is))
    (case a7 => k_is)
    (case u7 => refine' L3.fn_is ?l ?c ?k; (case l => k_is); (case c => k_is); (case k => k_is))
    (case a8 => k_is)
    (case u8 => refine' L3.fn_is ?l ?c ?k; (case l => k_is); (case c => k_is); (case k => k_is))
    (case a9 => k_is)
    (case u9 => refine' L3.fn_is ?l ?c ?k; (case l => k_is); (case c => k_is); (case k => k_is))
    (case a10 => k_is)
    (case u10 => refine' L3.fn_is ?l ?c ?k; (case l => k_is); (case c => k_is); (case k => k_is))
    (case a11 => k_is)
    (case u11 => refine' L3.fn_is ?l ?c ?k; (case l => k_is); (case c => k_is); (case k => k_is))
    (case a12 => k_is)
    (case u12 => refine' L3.fn_is ?l ?c ?k; (case l => k_is); (case c => k_is); (case k => k_is))
    (case a13 => k_is)
    (case u13 => refine' L3.fn_is ?l ?c ?k; (case l => k_is); (case c => k_is); (case k => k_is))
    (case a14 => k_is)
    (case u14 => refine' L3.fn_is ?l ?c ?k; (case l => k_is); (case c => k_is); (case k => k_is))
    (case a15 => k_is)
    (case u15 => refine' L3.fn_is ?l ?c ?k; (case l => k_is); (case c => k_is); (case k => k_is))
    (case a16 => k_is)
    (case u16 => refine' L3.fn_is ?l ?c ?k; (case l => k_is); (case c => k_is); (case k => k_is))
    (case a17 => k_is)
    (case u17 => refine' L3.fn_is ?l ?c ?k; (case l => k_is); (case c => k_is); (case k => k_is))
    (case a18 => k_is)
    (case u18 => refine' L3.fn_is ?l ?c ?k; (case l => k_is); (case c => k_is); (case k => k_is))
    (case a19 => k_is)
    (case u19 => refine' L3.fn_is ?l ?c ?k; (case l => k_is); (case c => k_is); (case k => k_is))
    (case a20 => k_is)
    (case u20 => refine' L3.fn_is ?l ?c ?k; (case l => k_is); (case c => k_is); (case k => k_is))
    (case a21 => k_is)
    (case u21 => refine' L3.fn_is ?l ?c ?k; (case l => k_is); (case c => k_is); (case k => k_is))
    (case a22 => k_is)
    (case u22 => refine' L3.fn_is ?l ?c ?k; (case l => k_is); (case c => k_is); (case k => k_is))
    (case a23 => k_is)
    (case u23 => refine' L3.fn_is ?l ?c ?k; (case l => k_is); (case c => k_is); (case k => k_is))
    (case a24 => k_is)
    (case u24 => refine' L3.fn_is ?l ?c ?k; (case l => k_is); (case c => k_is); (case k => k_is))
    (case a25 => k_is)
    (case u25 => refine' L3.fn_is ?l ?c ?k; (case l => k_is); (case c => k_is); (case k => k_is))
    (case a26 => k_is)
    (case u26 => refine' L3.fn_is ?l ?c ?k; (case l => k_is); (case c => k_is); (case k => k_is))
    (case a27 => k_is)
    (case u27 => refine' L3.fn_is ?l ?c ?k; (case l => k_is); (case c => k_is); (case k => k_is))
    (case a28 => k_is)
    (case u28 => refine' L3.fn_is ?l ?c ?k; (case l => k_is); (case c => k_is); (case k => k_is))
    (case a29 => k_is)
    (case u29 => refine' L3.fn_is ?l ?c ?k; (case l => k_is); (case c => k_is); (case k => k_is))
    (case a30 => k_is)
    (case u30 => refine' L3.fn_is ?l ?c ?k; (case l => k_is); (case c => k_is); (case k => k_is))
    (case a31 => k_is)
    (case u31 => refine' L3.fn_is ?l ?c ?k; (case l => k_is); (case c => k_is); (case k => k_is))
    (case a32 => k_is)
    (case u32 => refine' L3.fn_is ?l ?c ?k; (case l => k_is); (case c => k_is); (case k => k_is))
    (case a33 => k_is)
    (case u33 => refine' L3.fn_is ?l ?c ?k; (case l => k_is); (case c => k_is); (case k => k_is))
    (case a34 => k_is)
    (case u34 => refine' L3.fn_is ?l ?c ?k; (case l => k_is); (case c => k_is); (case k => k_is))
    (case a35 => k_is)
    (case u35 => refine' L3.fn_is ?l ?c ?k; (case l => k_is); (case c => k_is); (case k => k_is))
    (case a36 => k_is)
    (case u36 => refine' L3.fn_is ?l ?c ?k; (case l => k_is); (case c => k_is); (case k => k_is))
    (case a37 => k_is)
    (case u37 => refine' L3.fn_is ?l ?c ?k; (case l => k_is); (case c => k_is); (case k => k_is))
    (case a38 => k_is)
    (case u38 => refine' L3.fn_is ?l ?c ?k; (case l => k_is); (case c => k_is); (case k => k_is))
    (case a39 => k_is)
    (case u39 => refine' L3.fn_is ?l ?c ?k; (case l => k_is); (case c => k_is); (case k => k_is))
    (case a40 => k_is)
    (case u40 => refine' L3.fn_is ?l ?c ?k; (case l => k_is); (case c => k_is); (case k => k_is))
    (case z0 => k_is)
    (case z1 => k_is)
    (case z2 => k_is)
    (case z3 => k_is)
    (case z4 => k_is)
    (case z5 => k_is)
    (case z6 => k_is)
    (case z7 => k_is)
    (case z8 => k_is)
    (case z9 => k_is)
    (case z10 => k_is)
    (case z11 => k_is)
    (case z12 => k_is)
    (case z13 => k_is)
    (case z14 => k_is)
    (case z15 => k_is)
    (case z16 => k_is)
    (case z17 => k_is)
    (case z18 => k_is)
    (case z19 => k_is)
    (case z20 => k_is)
    (case z21 => k_is)
    (case z22 => k_is)
    (case z23 => k_is)
    (case aL => k_is)
    (case rL => exact ⟨_, rfl⟩)
    (case aO => k_is)
    (case rO => exact ⟨_, rfl⟩)
    (case aX => k_is)
    (case rX => exact ⟨_, rfl⟩)
    (case aB => k_is)
    (case lB => k_is)
    (case kB => exact ⟨⟨_, _, rfl, rfl⟩, ⟨⟨_, _, rfl, rfl⟩, ⟨⟨_, _, rfl, rfl⟩, ⟨⟨_, _, rfl, rfl⟩, ⟨⟨_, _, rfl, rfl⟩, ⟨⟨_, _, rfl, rfl⟩, ⟨⟨_, _, rfl, rfl⟩, ⟨⟨_, _, rfl, rfl⟩, ⟨⟨_, _, rfl, rfl⟩, ⟨⟨_, _, rfl, rfl⟩, ⟨⟨_, _, rfl, rfl⟩, ⟨⟨_, _, rfl, rfl⟩, ⟨⟨_, _, rfl, rfl⟩, ⟨⟨_, _, rfl, rfl⟩, ⟨⟨_, _, rfl, rfl⟩, ⟨⟨_, _, rfl, rfl⟩, ⟨⟨_, _, rfl, rfl⟩, trivial⟩⟩⟩⟩⟩⟩⟩⟩⟩⟩⟩⟩⟩⟩⟩⟩⟩)
    (case wB => rfl)
    (case vB => rfl)
    (case aF => k_is)
    (case lF => k_is)
    (case kF => exact ⟨⟨_, _, rfl, rfl⟩, ⟨⟨_, _, rfl, rfl⟩, ⟨⟨_, _, rfl, rfl⟩, ⟨⟨_, _, rfl, rfl⟩, ⟨⟨_, _, rfl, rfl⟩, ⟨⟨_, _, rfl, rfl⟩, ⟨⟨_, _, rfl, rfl⟩, ⟨⟨_, _, rfl, rfl⟩, trivial⟩⟩⟩⟩⟩⟩⟩⟩)
    (case wF => rfl)
    (case vF => rfl)
    (case y0 => k_is)
    (case y1 => k_is)
    (case y2 => k_is)
    (case y3 => k_is)
    (case y4 => k_is)
    (case y5 => k_is)
    (case y6 => k_is)
    (case y7 => k_is)
    (case cQ => refine' L3.kc_is ?a1 ?a2 ?a3 ?a4 ?a5 ?a6 ?a7 ?a8 ?a9 ?a10 ?a11 ?a12 ?a13; (case a1 => k_is); (case a2 => k_is); (case a3 => k_is); (case a4 => k_is); (case a5 => k_is); (case a6 => k_is); (case a7 => k_is); (case a8 => k_is); (case a9 => k_is); (case a10 => k_is); (case a11 => k_is); (case a12 => rfl); (case a13 => k_is))
    (case cP => refine' L3.Ki.mk ?b1 ?b2 ?b3 ?b4 ?b5; (case b1 => kx_is); (case b2 => kx_is); (case b3 => k_is); (case b4 => k_is); (case b5 => k_is))
    (case vI => refine' L3.fn_is ?l ?c ?k; (case l => k_is); (case c => k_is); (case k => k_is))
    (case cNo => k_is)
