import PyProof.Rows.All
import Wide.All
import OpenK.AllK
import Wide.FinOn
import HandS.ForMost
import HandS.Flow
import HandS.Small
import HandS.SetKeys
import HandS.Zip
import HandS.Style
import HandS.More
import HandS.Deep
import PySem.Challenge.RW_leastneeds_k79_cuts_of_terms
import KE.KDictZip
import HandS.ListItems
import HandS.DictComp
import PyProof.ReprLen
import PyProof.StrLawsRepr
import HandS.Dict
import PyProof.EqKinds
import HandS.IsInst
import HandS.StrMore
import HandS.HeadHook3
import HandS.Steps
import HandS.Walk
import HandS.Rev
import HandS.Star
import KE.GoesEnum
import KE.GoesMore
import HandS.Iter
import PyProof.NeKinds
import HandS.TupAny
import HandS.Strs
import HandS.ExcInit
import HandS.ExcField
import KE.KExcInit
import KE.KExcIs
import HandS.ExcValue
import HandS.Exc
import HandS.WordsExc
import KE.GoesZip
import PyProof.Rows.InDataRows
import HandS.Text
import PyProof.Rows.ReprOcc
import PyProof.CallFns
import HandS.TupMul
import PyProof.StrOps2
import HandS.ExcIs
import HandS.Lambda
import HandS.EndTab
import KE.KExcLine
import HandS.HeadHook4
set_option Elab.async false
set_option linter.all false
set_option maxRecDepth 100000
set_option maxHeartbeats 4000000
namespace L3
open PySem L2
/-! ### a def that is known by its name -/
section
variable {P : Program} {w : World} {K : PySem.W.Frag} {mg : Str → Option Value} {base : Heap}
structure Kn (P : Program) (w : World) (K : PySem.W.Frag) (mg : Str → Option Value) (base : Heap) (k : Nat) (x : Str) (ps : List Str) (sp : Sp) : Prop where
  ex : ∃ (f : Addr) (fd : FuncData), FnOk P w K mg base CX0 k f fd ps sp ∧ mg x = some (.ref f) ∧ PySem.W.keepIn K (.ref f) = true ∧ Binds K fd ps []
end
section
variable {X : Cx} {x : Str} {k : Nat} {ps : List Str} {sp : Sp} {e : Expr} {es : List Expr} {t : TA} {p pos : Pos}
theorem pe_kn (D : Kn X.prog X.w X.K X.mg X.base k x ps sp) (hr : Room k X.A) (ha : PA X (e :: es) t) (hg : Gl X x := by rfl) (hdb : (x == ("__debug__" : Str)) = false := by decide)
    (he : starEach (e :: es) X.env = (false, eval e X.env) :: starEach es X.env := by rfl) (hpl : (backTo pos (starEach es X.env)).any (·.1) = false := by rfl) :
    PE X (.Call (.Name x p) (e :: es) [] pos) (tCall sp [] E0 t) := by
  obtain ⟨f, fd, F, hm, hk, hb⟩ := D.ex
  exact pe_call F hr hg hm hk hb .nil pass0 ha hdb he hpl
theorem pe_kn0 (D : Kn X.prog X.w X.K X.mg X.base k x ps sp) (hr : Room k X.A) (hg : Gl X x := by rfl) (hdb : (x == ("__debug__" : Str)) = false := by decide) :
    PE X (.Call (.Name x p) [] [] pos) (tCall sp [] E0 tNil) := by
  obtain ⟨f, fd, F, hm, hk, hb⟩ := D.ex
  exact pe_call0 F hr hg hm hk hb .nil pass0 hdb
end
/-- built-in names that the text leaves alone -/
structure Bl (mg : Str → Option Value) : Prop where
  len : mg "len" = none
  int : mg "int" = none
  list : mg "list" = none
  tuple : mg "tuple" = none
  dict : mg "dict" = none
  repr : mg "repr" = none
  range : mg "range" = none
  zip : mg "zip" = none
  sorted : mg "sorted" = none

/-! ### the tape -/
/-- all but the object at t is kept -/
def Ext (t : Addr) (H H' : Hp) : Prop := ∀ b o, b ≠ t → H b = some o → H' b = some o
theorem Ext.refl (t : Addr) (H : Hp) : Ext t H H := fun _ _ _ h => h
theorem Ext.trans {t : Addr} {H H1 H2 : Hp} (a : Ext t H H1) (b : Ext t H1 H2) : Ext t H H2 := fun c o n h => b c o n (a c o n h)
theorem Ext.new {t p : Addr} {H : Hp} {o : HO} (h : H p = none) : Ext t H (upd H p o) := fun b u _ e => by
  rw [upd_ne (ne_of_none e h)]
  exact e
theorem Ext.put {t : Addr} {H : Hp} {o : HO} : Ext t H (upd H t o) := fun b u n e => by
  rw [upd_ne n]
  exact e
theorem same_ext {t : Addr} {H H' : Hp} (h : Same H H') : Ext t H H' := fun b o _ e => h b o e
theorem same_new {p : Addr} {H : Hp} {o : HO} (h : H p = none) : Same H (upd H p o) := fun b u e => by
  rw [upd_ne (ne_of_none e h)]
  exact e
def tp (c : Addr) (p l : Int) : List (Key × V) := [(.inr "cells", .ref c), (.inr "place", .int p), (.inr "left", .int l)]
theorem tp_cells (c : Addr) (p l : Int) : valV (tp c p l) (.inr "cells") = some (.ref c) := by rfl
theorem tp_place (c : Addr) (p l : Int) : valV (tp c p l) (.inr "place") = some (.int p) := by rfl
theorem tp_left (c : Addr) (p l : Int) : valV (tp c p l) (.inr "left") = some (.int l) := by rfl
theorem tp_putP (c : Addr) (p l q : Int) : putK (tp c p l) (.inr "place") (.int q) = tp c q l := by rfl
theorem tp_putL (c : Addr) (p l q : Int) : putK (tp c p l) (.inr "left") (.int q) = tp c p q := by rfl
/-- at t a tape stands, its cells at c, from which b more cells may be taken -/
def Tape (K : PySem.W.Frag) (H : Hp) (t c : Addr) (b : Nat) : Prop :=
  ∃ (p l : Int) (ns : List Int), H t = some (.dK (tp c p l)) ∧ SqL K H c (ns.map V.int) ∧ c ≠ t ∧ 0 < ns.length ∧ ns.length ≤ 63 ∧ 0 ≤ p ∧ p + b ≤ 1000000 ∧ 0 ≤ l
theorem Tape.less {K : PySem.W.Frag} {H : Hp} {t c : Addr} {b b' : Nat} (h : Tape K H t c b) (hb : b' ≤ b) : Tape K H t c b' := by
  obtain ⟨p, l, ns, h1, h2, h3, h4, h5, h6, h7, h8⟩ := h
  exact ⟨p, l, ns, h1, h2, h3, h4, h5, h6, by omega, h8⟩
theorem SqL.same {K : PySem.W.Frag} {H H' : Hp} {a : Addr} {xs : List V} (h : SqL K H a xs) (k : ∀ o, H a = some o → H' a = some o) : SqL K H' a xs := by
  rcases h with (h | ⟨o, h⟩) | h
  · exact .inl (.inl (k _ h))
  · exact .inl (.inr ⟨o, k _ h⟩)
  · exact .inr h
theorem SqL.ext {K : PySem.W.Frag} {t : Addr} {H H' : Hp} {a : Addr} {xs : List V} (h : SqL K H a xs) (e : Ext t H H') (n : a ≠ t) : SqL K H' a xs := SqL.same h fun o q => e a o n q
/-- the tape is untouched -/
theorem Tape.same {K : PySem.W.Frag} {H H' : Hp} {t c : Addr} {b : Nat} (h : Tape K H t c b) (k : Same H H') : Tape K H' t c b := by
  obtain ⟨p, l, ns, h1, h2, h3, h4, h5, h6, h7, h8⟩ := h
  exact ⟨p, l, ns, k _ _ h1, k.seq h2, h3, h4, h5, h6, h7, h8⟩
theorem Tape.new {K : PySem.W.Frag} {H : Hp} {t c : Addr} {b : Nat} {q : Addr} {o : HO} (h : Tape K H t c b) (n : H q = none) : Tape K (upd H q o) t c b := h.same (same_new n)
theorem Tape.dict {K : PySem.W.Frag} {H : Hp} {t c : Addr} {b : Nat} (h : Tape K H t c b) : ∃ kvs, H t = some (.dK kvs) := by
  obtain ⟨p, l, ns, h1, _⟩ := h
  exact ⟨_, h1⟩
theorem Tape.ne {K : PySem.W.Frag} {H : Hp} {t c : Addr} {b : Nat} (h : Tape K H t c b) {l : Addr} (n : H l = none) : l ≠ t := fun e => by
  obtain ⟨kvs, q⟩ := h.dict
  rw [e, q] at n
  cases n
theorem Ext.free {t : Addr} {H H' : Hp} (e : Ext t H H') {l : Addr} (n : l ≠ t) (h : H' l = none) : H l = none := by
  cases q : H l with
  | none => rfl
  | some o =>
    rw [e l o n q] at h
    cases h
/-- an object D that was not there at H0 is stored into -/
theorem Tape.put {K : PySem.W.Frag} {H0 H : Hp} {t c : Addr} {b0 b : Nat} {D : Addr} {o : HO} (h0 : Tape K H0 t c b0) (e : Ext t H0 H) (h : Tape K H t c b) (n : H0 D = none) : Tape K (upd H D o) t c b := by
  have nt : t ≠ D := (h0.ne n).symm
  obtain ⟨_, _, ns, _, g2, g3, g4, g5, _⟩ := h0
  obtain ⟨p, l, _, h1, _, _, _, _, h6, h7, h8⟩ := h
  refine ⟨p, l, ns, by rw [upd_ne nt]; exact h1, SqL.same g2 fun u q => ?_, g3, g4, g5, h6, h7, h8⟩
  rw [upd_ne (ne_of_none q n)]
  exact e _ _ g3 q
theorem Ext.upd {t : Addr} {H0 H : Hp} {D : Addr} {o : HO} (e : Ext t H0 H) (n : H0 D = none) : Ext t H0 (upd H D o) := fun q u h1 h2 => by
  rw [upd_ne (ne_of_none h2 n)]
  exact e q u h1 h2
end L3

namespace L3
open PySem L2
theorem slz {n : Nat} (h : Nat.ble n 1000 = true) : n ≤ sizeLine := Nat.le_of_lt (small1000 (Nat.le_of_ble_eq_true h))
theorem iT {c : Bool} {A B : Prop} (h : c = true) (a : A) : if c = true then A else B := by
  rw [if_pos h]
  exact a
theorem iF {c : Bool} {A B : Prop} (h : c = false) (b : B) : if c = true then A else B := by
  rw [h]
  exact iteF b
theorem tg_aa : decide (V.str ("apply" : Str) = V.str ("apply" : Str)) = true := decide_eq_true rfl
theorem tg_va : decide (V.str ("var" : Str) = V.str ("apply" : Str)) = false := by decide +kernel
theorem tg_ca : decide (V.str ("con" : Str) = V.str ("apply" : Str)) = false := by decide +kernel
theorem tg_vv : decide (V.str ("var" : Str) = V.str ("var" : Str)) = true := decide_eq_true rfl
theorem tg_cv : decide (V.str ("con" : Str) = V.str ("var" : Str)) = false := by decide +kernel
theorem tg_av : decide (V.str ("apply" : Str) = V.str ("var" : Str)) = false := by decide +kernel
theorem tg_ac : decide (V.str ("apply" : Str) = V.str ("con" : Str)) = false := by decide +kernel
theorem tg_vc : decide (V.str ("var" : Str) = V.str ("con" : Str)) = false := by decide +kernel
theorem tg_cc : decide (V.str ("con" : Str) = V.str ("con" : Str)) = true := decide_eq_true rfl
/-! ### kinds -/
inductive Kd where
  | var (x : Str) | con (x : Str) | app (a b : Kd)
  deriving DecidableEq
def Kd.tag : Kd → Str
  | .var _ => "var" | .con _ => "con" | .app _ _ => "apply"
/-- a word of 1 to 8 letters from a to z -/
def Wok (x : Str) : Prop := 1 ≤ x.length ∧ x.length ≤ 8 ∧ ∀ c ∈ x.cps.toList, 97 ≤ c ∧ c ≤ 122
/-- at most n deep, of words -/
def Kd.fit : Nat → Kd → Prop
  | _, .var x => Wok x
  | _, .con x => Wok x
  | 0, .app _ _ => False
  | n + 1, .app a b => Kd.fit n a ∧ Kd.fit n b
theorem Kd.fit_mono : ∀ {k : Kd} {n m : Nat}, n ≤ m → Kd.fit n k → Kd.fit m k
  | .var _, n, m, _, h => by cases n <;> cases m <;> exact h
  | .con _, n, m, _, h => by cases n <;> cases m <;> exact h
  | .app a b, 0, _, _, h => h.elim
  | .app a b, n + 1, 0, e, _ => absurd e (by omega)
  | .app a b, n + 1, m + 1, e, h => ⟨Kd.fit_mono (by omega) h.1, Kd.fit_mono (by omega) h.2⟩
theorem Kd.fit_app {n : Nat} {a b : Kd} (h : Kd.fit n (.app a b)) : ∃ m, n = m + 1 ∧ Kd.fit m a ∧ Kd.fit m b := by
  cases n with
  | zero => exact h.elim
  | succ m => exact ⟨m, rfl, h.1, h.2⟩
def KdAt (H : Hp) : V → Kd → Prop
  | v, .var x => ∃ a, v = .ref a ∧ H a = some (.tup [.str "var", .str x])
  | v, .con x => ∃ a, v = .ref a ∧ H a = some (.tup [.str "con", .str x])
  | v, .app k l => ∃ a u z, v = .ref a ∧ H a = some (.tup [.str "apply", u, z]) ∧ KdAt H u k ∧ KdAt H z l
/-- tuples stay -/
def Tups (H H' : Hp) : Prop := ∀ b xs, H b = some (.tup xs) → H' b = some (.tup xs)
theorem same_tups {H H' : Hp} (h : Same H H') : Tups H H' := fun b xs e => h b _ e
theorem Tups.trans {H H1 H2 : Hp} (a : Tups H H1) (b : Tups H1 H2) : Tups H H2 := fun c xs e => b c xs (a c xs e)
theorem Tups.put {H : Hp} {d : Addr} {o u : HO} (h : H d = some o) (n : ∀ xs, o ≠ .tup xs) : Tups H (upd H d u) := fun b xs e => by
  rw [upd_ne (fun q => by rw [q, h] at e; exact n xs (Option.some.inj e))]
  exact e
theorem Tups.new {H : Hp} {d : Addr} {u : HO} (h : H d = none) : Tups H (upd H d u) := same_tups (same_new h)
theorem Ext.tups {K : PySem.W.Frag} {t c : Addr} {b : Nat} {H H' : Hp} (e : Ext t H H') (h : Tape K H t c b) : Tups H H' := fun q xs z => by
  obtain ⟨kvs, hk⟩ := h.dict
  exact e q _ (ne_of z hk (by intro r; cases r)) z
theorem KdAt.tups {H H' : Hp} (h : Tups H H') : ∀ {k : Kd} {v : V}, KdAt H v k → KdAt H' v k
  | .var _, _, ⟨a, e, q⟩ => ⟨a, e, h _ _ q⟩
  | .con _, _, ⟨a, e, q⟩ => ⟨a, e, h _ _ q⟩
  | .app _ _, _, ⟨a, u, z, e, q, h1, h2⟩ => ⟨a, u, z, e, h _ _ q, KdAt.tups h h1, KdAt.tups h h2⟩
/-- the tuple of a kind, and its first item -/
theorem KdAt.top {H : Hp} : ∀ {k : Kd} {v : V}, KdAt H v k → ∃ a xs, v = .ref a ∧ H a = some (.tup xs) ∧ xs[0]? = some (.str k.tag)
  | .var _, _, ⟨a, e, q⟩ => ⟨a, _, e, q, rfl⟩
  | .con _, _, ⟨a, e, q⟩ => ⟨a, _, e, q, rfl⟩
  | .app _ _, _, ⟨a, u, z, e, q, _⟩ => ⟨a, _, e, q, rfl⟩
def Kd.dat : Kd → PyData
  | .var x => .tuple [.str "var", .str x]
  | .con x => .tuple [.str "con", .str x]
  | .app a b => .tuple [.str "apply", a.dat, b.dat]
theorem KdAt.dp {K : PySem.W.Frag} {H : Hp} : ∀ {k : Kd} {v : V}, KdAt H v k → Dp K H v k.dat
  | .var x, _, ⟨a, e, q⟩ => by subst e; exact .tup (SqT.of q) (.cons (.str _) (.cons (.str _) .nil))
  | .con x, _, ⟨a, e, q⟩ => by subst e; exact .tup (SqT.of q) (.cons (.str _) (.cons (.str _) .nil))
  | .app _ _, _, ⟨a, u, z, e, q, h1, h2⟩ => by subst e; exact .tup (SqT.of q) (.cons (.str _) (.cons h1.dp (.cons h2.dp .nil)))
theorem ne_vc : ¬ (("var" : Str) = "con") := by decide +kernel
theorem ne_cv : ¬ (("con" : Str) = "var") := by decide +kernel
theorem ne_va : ¬ (("var" : Str) = "apply") := by decide +kernel
theorem ne_av : ¬ (("apply" : Str) = "var") := by decide +kernel
theorem ne_ca : ¬ (("con" : Str) = "apply") := by decide +kernel
theorem ne_ac : ¬ (("apply" : Str) = "con") := by decide +kernel
theorem str_beq (x y : Str) : (x == y) = decide (x = y) := by
  rw [Bool.eq_iff_iff]
  simp
theorem eqv_tt (xs ys : List PyData) : PyData.eqv (.tuple xs) (.tuple ys) = PyData.eqvAll xs ys := by rw [PyData.eqv]
theorem eqv_cc (x y : PyData) (xs ys : List PyData) : PyData.eqvAll (x :: xs) (y :: ys) = (PyData.eqv x y && PyData.eqvAll xs ys) := by rw [PyData.eqvAll]
theorem eqv_nn : PyData.eqvAll [] [] = true := by rw [PyData.eqvAll]
theorem eqv_nc (y : PyData) (ys : List PyData) : PyData.eqvAll [] (y :: ys) = false := by rw [PyData.eqvAll]
theorem eqv_cn (y : PyData) (ys : List PyData) : PyData.eqvAll (y :: ys) [] = false := by rw [PyData.eqvAll]
theorem eqv_ss (x y : Str) : PyData.eqv (.str x) (.str y) = decide (x = y) := by rw [PyData.eqv]; exact str_beq x y
theorem Kd.eqv (a b : Kd) : PyData.eqv a.dat b.dat = decide (a = b) := by
  induction a generalizing b with
  | var x =>
    cases b with
    | var y => simp only [Kd.dat, eqv_tt, eqv_cc, eqv_ss, eqv_nn, decide_true, Bool.true_and, Bool.and_true, Kd.var.injEq]
    | con y => simp only [Kd.dat, eqv_tt, eqv_cc, eqv_ss, decide_eq_false ne_vc, Bool.false_and, reduceCtorEq, decide_false]
    | app c d => simp only [Kd.dat, eqv_tt, eqv_cc, eqv_ss, decide_eq_false ne_va, Bool.false_and, reduceCtorEq, decide_false]
  | con x =>
    cases b with
    | con y => simp only [Kd.dat, eqv_tt, eqv_cc, eqv_ss, eqv_nn, decide_true, Bool.true_and, Bool.and_true, Kd.con.injEq]
    | var y => simp only [Kd.dat, eqv_tt, eqv_cc, eqv_ss, decide_eq_false ne_cv, Bool.false_and, reduceCtorEq, decide_false]
    | app c d => simp only [Kd.dat, eqv_tt, eqv_cc, eqv_ss, decide_eq_false ne_ca, Bool.false_and, reduceCtorEq, decide_false]
  | app a1 a2 h1 h2 =>
    cases b with
    | var y => simp only [Kd.dat, eqv_tt, eqv_cc, eqv_ss, decide_eq_false ne_av, Bool.false_and, reduceCtorEq, decide_false]
    | con y => simp only [Kd.dat, eqv_tt, eqv_cc, eqv_ss, decide_eq_false ne_ac, Bool.false_and, reduceCtorEq, decide_false]
    | app c d =>
      simp only [Kd.dat, eqv_tt, eqv_cc, eqv_ss, eqv_nn, h1, h2, decide_true, Bool.true_and, Bool.and_true, Kd.app.injEq, Bool.decide_and]
theorem SqL.extT {K : PySem.W.Frag} {t c : Addr} {b : Nat} {H H' : Hp} {a : Addr} {xs : List V} (h : SqL K H a xs) (hT : Tape K H t c b) (e : Ext t H H') : SqL K H' a xs := by
  obtain ⟨kvs, hk⟩ := hT.dict
  rcases h with (h | ⟨o, h⟩) | h
  · exact .inl (.inl (e _ _ (ne_of h hk (by intro r; cases r)) h))
  · exact .inl (.inr ⟨o, e _ _ (ne_of h hk (by intro r; cases r)) h⟩)
  · exact .inr h
theorem Wok.str {x : Str} (h : Wok x) : PyData.strOk x = true := by
  unfold PyData.strOk
  rw [Array.all_eq_true']
  intro c hc
  have := h.2.2 c (by simpa using hc)
  exact decide_eq_true (by omega)
theorem Kd.lay : ∀ {k : Kd} {n : Nat}, Kd.fit n k → k.dat.canLay0 = true ∧ k.dat.depth ≤ n + 1
  | .var x, n, h => by
    have w : Wok x := by cases n <;> exact h
    refine ⟨?_, ?_⟩
    · simp only [Kd.dat, PyData.canLay0, PyData.canLayAll0, w.str, Bool.and_true]
      decide +kernel
    · simp [Kd.dat, PyData.depth, PyData.depthAll]
  | .con x, n, h => by
    have w : Wok x := by cases n <;> exact h
    refine ⟨?_, ?_⟩
    · simp only [Kd.dat, PyData.canLay0, PyData.canLayAll0, w.str, Bool.and_true]
      decide +kernel
    · simp [Kd.dat, PyData.depth, PyData.depthAll]
  | .app a b, n, h => by
    obtain ⟨m, rfl, h1, h2⟩ := Kd.fit_app h
    obtain ⟨a1, a2⟩ := Kd.lay h1
    obtain ⟨b1, b2⟩ := Kd.lay h2
    refine ⟨?_, ?_⟩
    · simp only [Kd.dat, PyData.canLay0, PyData.canLayAll0, a1, b1, Bool.and_true]
      decide +kernel
    · simp only [Kd.dat, PyData.depth, PyData.depthAll]
      omega
theorem Kd.shaped {k : Kd} {n : Nat} (h : Kd.fit n k) (hn : n ≤ 60) : SeqAt.shaped k.dat = true := by
  obtain ⟨h1, h2⟩ := Kd.lay h
  unfold SeqAt.shaped
  rw [h1, Bool.true_and]
  exact decide_eq_true (by omega)
/-- a list of words -/
theorem dp_words {K : PySem.W.Frag} {H : Hp} : ∀ ws : List Str, DpAll K H (ws.map V.str) (ws.map PyData.str)
  | [] => .nil
  | _ :: r => .cons (.str _) (dp_words r)
theorem lay_words : ∀ {ws : List Str}, (∀ x ∈ ws, Wok x) → PyData.canLayAll0 (ws.map PyData.str) = true ∧ PyData.depthAll (ws.map PyData.str) = 0
  | [], _ => ⟨by simp [PyData.canLayAll0], by simp [PyData.depthAll]⟩
  | x :: r, h => by
    obtain ⟨h1, h2⟩ := lay_words (ws := r) fun y hy => h y (List.mem_cons_of_mem _ hy)
    refine ⟨?_, ?_⟩
    · simp only [List.map_cons, PyData.canLayAll0, PyData.canLay0, (h x List.mem_cons_self).str, h1, Bool.true_and]
    · simp only [List.map_cons, PyData.depthAll, PyData.depth, h2]; rfl
theorem shaped_words {ws : List Str} (h : ∀ x ∈ ws, Wok x) : SeqAt.shaped (.list (ws.map PyData.str)) = true := by
  obtain ⟨h1, h2⟩ := lay_words h
  unfold SeqAt.shaped
  simp only [PyData.canLay0, h1, PyData.depth, h2]
  decide
theorem shaped_nil : SeqAt.shaped (.list []) = true := by decide
/-! ### rows of kinds, dicts of kinds -/
abbrev KdsAt (H : Hp) : List V → List Kd → Prop := Paired (KdAt H)
theorem paired_get {α β : Type} {F : α → β → Prop} : ∀ {xs : List α} {ys : List β} {i : Nat} {x : α}, Paired F xs ys → xs[i]? = some x → ∃ y, ys[i]? = some y ∧ F x y
  | _, _, _, _, .nil, e => by simp at e
  | _, _, 0, _, .cons r _, e => by simp at e; subst e; exact ⟨_, rfl, r⟩
  | _, _, i + 1, x, .cons _ t, e => by
    obtain ⟨y, h1, h2⟩ := paired_get (i := i) (x := x) t (by simpa using e)
    exact ⟨y, by simpa using h1, h2⟩
theorem paired_map {α β : Type} {F G : α → β → Prop} (h : ∀ a b, F a b → G a b) : ∀ {xs : List α} {ys : List β}, Paired F xs ys → Paired G xs ys
  | _, _, .nil => .nil
  | _, _, .cons r t => .cons (h _ _ r) (paired_map h t)
theorem KdsAt.tups {H H' : Hp} (h : Tups H H') {xs : List V} {ks : List Kd} (r : KdsAt H xs ks) : KdsAt H' xs ks := paired_map (fun _ _ q => KdAt.tups h q) r
theorem KdsAt.dp {K : PySem.W.Frag} {H : Hp} : ∀ {xs : List V} {ks : List Kd}, KdsAt H xs ks → DpAll K H xs (ks.map Kd.dat)
  | _, _, .nil => .nil
  | _, _, .cons r t => .cons r.dp (KdsAt.dp t)
abbrev By := List (Str × Kd)
def lk (by' : By) (x : Str) : Option Kd := (by'.find? fun p => decide (p.1 = x)).map (·.2)
theorem lk_nil (x : Str) : lk [] x = none := rfl
theorem lk_pos {p : Str × Kd} {r : By} {x : Str} (e : p.1 = x) : lk (p :: r) x = some p.2 := by simp [lk, List.find?_cons, e]
theorem lk_neg {p : Str × Kd} {r : By} {x : Str} (e : ¬ p.1 = x) : lk (p :: r) x = lk r x := by simp [lk, List.find?_cons, e]
abbrev ByAt (H : Hp) : List (Key × V) → By → Prop := Paired fun p q => p.1 = .inr q.1 ∧ KdAt H p.2 q.2
theorem ByAt.tups {H H' : Hp} (h : Tups H H') {kvs : List (Key × V)} {by' : By} (r : ByAt H kvs by') : ByAt H' kvs by' := paired_map (fun _ _ q => ⟨q.1, KdAt.tups h q.2⟩) r
theorem ByAt.get {H : Hp} (x : Str) : ∀ {kvs : List (Key × V)} {by' : By}, ByAt H kvs by' → (valV kvs (.inr x) = none ∧ lk by' x = none) ∨ ∃ v k, valV kvs (.inr x) = some v ∧ lk by' x = some k ∧ KdAt H v k
  | _, _, .nil => .inl ⟨rfl, rfl⟩
  | p :: kvs, q :: by', .cons r t => by
    by_cases e : q.1 = x
    · exact .inr ⟨p.2, q.2, valV_pos (by rw [r.1, e]), lk_pos e, r.2⟩
    · have e' : ¬ p.1 = (.inr x : Key) := by
        rw [r.1]
        intro z
        exact e (Sum.inr.inj z)
      rw [valV_neg e', lk_neg e]
      exact ByAt.get x t
def Kd.put (by' : By) : Kd → Kd
  | .var x => (lk by' x).getD (.var x)
  | .con x => .con x
  | .app a b => .app (a.put by') (b.put by')
def conK (x : Str) (ks : List Kd) : Kd := ks.foldl Kd.app (.con x)
theorem conK_snoc (x : Str) (ks : List Kd) (k : Kd) : conK x (ks ++ [k]) = .app (conK x ks) k := by
  unfold conK
  rw [List.foldl_append]
  rfl
theorem Kd.fit_put {by' : By} {m : Nat} (hb : ∀ x k, lk by' x = some k → Kd.fit m k) : ∀ {k : Kd} {n : Nat}, Kd.fit n k → Kd.fit (n + m) (k.put by')
  | .var x, n, h => by
    have w : Wok x := by cases n <;> exact h
    show Kd.fit (n + m) ((lk by' x).getD (.var x))
    cases e : lk by' x with
    | none =>
      show Kd.fit (n + m) (.var x)
      generalize n + m = j
      cases j <;> exact w
    | some k => exact Kd.fit_mono (by omega) (hb x k e)
  | .con x, n, h => by
    have w : Wok x := by cases n <;> exact h
    show Kd.fit (n + m) (.con x)
    generalize n + m = j
    cases j <;> exact w
  | .app a b, n, h => by
    obtain ⟨j, rfl, h1, h2⟩ := Kd.fit_app h
    show Kd.fit (j + 1 + m) (.app (a.put by') (b.put by'))
    rw [show j + 1 + m = j + m + 1 by omega]
    exact ⟨Kd.fit_put hb h1, Kd.fit_put hb h2⟩
theorem fitV {n : Nat} {x : Str} (w : Wok x) : Kd.fit n (.var x) := by cases n <;> exact w
theorem fitC {n : Nat} {x : Str} (w : Wok x) : Kd.fit n (.con x) := by cases n <;> exact w
theorem wok_of_var {n : Nat} {x : Str} (h : Kd.fit n (.var x)) : Wok x := by cases n <;> exact h
theorem wok_of_con {n : Nat} {x : Str} (h : Kd.fit n (.con x)) : Wok x := by cases n <;> exact h
theorem fit_fold {j : Nat} : ∀ {ks : List Kd} {h : Kd} {i : Nat}, Kd.fit i h → (∀ k ∈ ks, Kd.fit j k) → j ≤ i → Kd.fit (i + ks.length) (ks.foldl Kd.app h)
  | [], h, i, h1, _, _ => h1
  | k :: r, h, i, h1, h2, h3 => by
    have q : Kd.fit (i + 1) (.app h k) := ⟨h1, Kd.fit_mono h3 (h2 k List.mem_cons_self)⟩
    have z := fit_fold (ks := r) q (fun y hy => h2 y (List.mem_cons_of_mem _ hy)) (by omega)
    rw [List.length_cons, show i + (r.length + 1) = i + 1 + r.length by omega]
    exact z
theorem fit_conK {j : Nat} {x : Str} {ks : List Kd} (w : Wok x) (h : ∀ k ∈ ks, Kd.fit j k) : Kd.fit (j + ks.length) (conK x ks) := fit_fold (fitC w) h (Nat.le_refl _)
theorem eqv_ll (xs ys : List PyData) : PyData.eqv (.list xs) (.list ys) = PyData.eqvAll xs ys := by rw [PyData.eqv]
theorem words_ne {ws : List Str} : (!PyData.eqv (.list (ws.map PyData.str)) (.list [])) = !ws.isEmpty := by
  rw [eqv_ll]
  cases ws with
  | nil => rw [List.map_nil, eqv_nn]; rfl
  | cons x r => rw [List.map_cons, eqv_cn]; rfl
/-- rows (word, how many parts) -/
def ConsAt (K : PySem.W.Frag) (H : Hp) (l : Addr) : Prop := ∃ xs, SqL K H l xs ∧ 0 < xs.length ∧ xs.length < 1000 ∧ ∀ v ∈ xs, ∃ (a : Addr) (x : Str) (m : Nat), v = .ref a ∧ H a = some (.tup [.str x, .int (m : Int)]) ∧ m ≤ 2 ∧ Wok x
theorem ConsAt.ext {K : PySem.W.Frag} {t c : Addr} {b : Nat} {H H' : Hp} {l : Addr} (h : ConsAt K H l) (hT : Tape K H t c b) (e : Ext t H H') : ConsAt K H' l := by
  obtain ⟨xs, h1, h2, h3, h4⟩ := h
  refine ⟨xs, SqL.extT h1 hT e, h2, h3, fun v hv => ?_⟩
  obtain ⟨a, x, m, e1, e2, e3, e4⟩ := h4 v hv
  exact ⟨a, x, m, e1, Ext.tups e hT _ _ e2, e3, e4⟩
/-- the variables of kinds are among some words -/
def Kd.of (ws : List Str) : Kd → Prop
  | .var x => x ∈ ws
  | .con _ => True
  | .app a b => Kd.of ws a ∧ Kd.of ws b
theorem of_fold {ws : List Str} : ∀ {ks : List Kd} {h : Kd}, Kd.of ws h → (∀ k ∈ ks, Kd.of ws k) → Kd.of ws (ks.foldl Kd.app h)
  | [], _, h1, _ => h1
  | k :: r, h, h1, h2 => of_fold (ks := r) (h := .app h k) ⟨h1, h2 k List.mem_cons_self⟩ fun y hy => h2 y (List.mem_cons_of_mem _ hy)
theorem of_conK {ws : List Str} {x : Str} {ks : List Kd} (h : ∀ k ∈ ks, Kd.of ws k) : Kd.of ws (conK x ks) := of_fold (h := .con x) trivial h
/-! ### recursion -/
theorem fn_false {P : Program} {w : World} {K : PySem.W.Frag} {mg : Str → Option Value} {base : Heap} {f : Addr} {fd : FuncData} {ps : List Str} : FnOk P w K mg base CX0 0 f fd ps (fun _ _ _ _ => False) :=
  ⟨fun _ _ _ _ h => h.elim, fun _ _ _ _ _ _ _ _ _ _ _ _ _ h => h.elim⟩
end L3

namespace L3
open PySem L2
def topS (i : Nat) : Stmt := PySem.Challenge.pw_leastneeds_k79_cuts_of_terms.main.body.getD i (.Pass ⟨0, 0, 0, 0⟩)
section
variable {P : Program} {w : World} {K : PySem.W.Frag} {mg : Str → Option Value} {base : Heap}

abbrev s__law_begin : Stmt := topS 34
abbrev N__law_begin : List Str := ["_law_script"]
theorem sc__law_begin : FnScope N__law_begin ["_law_script"] (defScope s__law_begin) := ⟨rfl, rfl, rfl, by decide +kernel, rfl, by decide +kernel, by decide +kernel⟩
def spBegin (K : PySem.W.Frag) : Sp := fun vs H Q _ => ∃ (a : Addr) (ns : List Int), vs = [.ref a] ∧ SqL K H a (ns.map V.int) ∧ ∀ (H' : Hp) (t c : Addr), Same H H' → H t = none → Tape K H' t c 1000000 → Q (.ref t) H'
theorem cut63 (ns : List Int) : cutV (ns.map V.int) none (some 63) = (ns.take 63).map V.int := by
  unfold cutV
  rw [HT.sIx_none, show (63 : Int) = ((63 : Nat) : Int) from rfl, HT.sIx_nat, List.drop_zero, List.length_map, Nat.sub_zero, List.map_take]
  by_cases h : 63 ≤ ns.length
  · rw [Nat.min_eq_left h]
  · rw [Nat.min_eq_right (by omega), List.take_of_length_le (by simp), List.take_of_length_le (by simp; omega)]
theorem ok_begin {f : Addr} {fd : FuncData} (F : Fun K "_law_begin" "_law_begin" s__law_begin f fd) : FnOk P w K mg base CX0 1 f fd ["_law_script"] (spBegin K) := by
  refine F.ok sc__law_begin (fun vs H Q E h => ?_) (fun cdv A outer s H vs Q E hr h => ?_)
  · obtain ⟨a, ns, rfl, _⟩ := h
    rfl
  · obtain ⟨a, ns, rfl, hS, k⟩ := h
    refine ⟨_, (pss_one (ps_ret (pe_disp (pps_cons pe_str (pe_orT (pe_slice sl_list (pv 0) po_none (po_some pe_int)) (pe_one (pe_lst (pa_cons pe_int pa_nil)))) (pps_cons pe_str pe_int (pps_cons pe_str pe_int pps_nil))) (by rfl) (by rfl) (fun z => by cases z) (by decide)))), ?_⟩
    intro t ht
    have s0 : Same H (upd H t (.dK [])) := same_new ht
    refine ⟨_, rfl, _, rfl, a, _, rfl, s0.seq hS, fun q hq => ?_⟩
    rw [cut63]
    have nq : t ≠ q := fun e => by
      rw [← e, upd_same] at hq
      cases hq
    have s1 : Same (upd H t (.dK [])) (upd (upd H t (.dK [])) q (.lst ((ns.take 63).map V.int))) := same_new hq
    -- what stands at the end
    have fin : ∀ (H2 : Hp) (c : Addr) (ms : List Int), Same (upd H t (.dK [])) H2 → H2 c = some (.lst (ms.map V.int)) → c ≠ t → 0 < ms.length → ms.length ≤ 63 →
        H2 t = some (.dK []) ∧ ∃ kvs : List (Key × V), [(V.str "cells", V.ref c), (V.str "place", V.int 0), (V.str "left", V.int 0)] = kvs.map (fun kv => (kV kv.1, kv.2)) ∧ kvs.length ≤ 15 ∧ Q (.ref t) (upd H2 t (.dK (mergeK [] kvs))) := by
      intro H2 c ms h2 hc nc h0 h63
      refine ⟨h2 _ _ upd_same, tp c 0 0, rfl, by show 3 ≤ 15; decide, ?_⟩
      refine k _ t c (fun b o e => ?_) ht ⟨0, 0, ms, ?_, SqL.of ?_, nc, h0, h63, by omega, by omega, by omega⟩
      · have n : b ≠ t := ne_of_none e ht
        rw [upd_ne n]
        exact h2 _ _ (s0 _ _ e)
      · rw [upd_same]
        rfl
      · rw [upd_ne nc]
        exact hc
    refine ⟨_, .inl ⟨_, SqL.of upd_same, rfl⟩, ?_⟩
    cases hns : ns.take 63 with
    | nil =>
      rw [hns] at s1
      refine iteF ?_
      refine ⟨by decide, fun r hr2 => ?_⟩
      refine fin _ r [0] (s1.trans (same_new hr2)) upd_same (fun e => ?_) (by decide) (by decide)
      rw [e, upd_ne nq, upd_same] at hr2
      cases hr2
    | cons z zs =>
      refine iteT ?_
      refine fin _ q (z :: zs) (by rw [← hns]; exact s1) (by rw [upd_same]) nq.symm (Nat.zero_lt_succ _) ?_
      rw [← hns, List.length_take]
      omega

/-! ### a number from the tape -/
abbrev s__law_draw : Stmt := topS 35
abbrev N__law_draw : List Str := ["_law_tape", "_law_many", "_law_place", "_law_cells", "_law_cell", "_law_digit"]
theorem sc__law_draw : FnScope N__law_draw ["_law_tape", "_law_many"] (defScope s__law_draw) := ⟨rfl, rfl, rfl, by decide +kernel, rfl, by decide +kernel, by decide +kernel⟩
theorem get_left {H : Hp} {t c : Addr} {p l : Int} (h : H t = some (.dK (tp c p l))) : DGet H t (.str "left") (some (.int l)) := DGet.k (k := .inr "left") h
theorem get_place {H : Hp} {t c : Addr} {p l : Int} (h : H t = some (.dK (tp c p l))) : DGet H t (.str "place") (some (.int p)) := DGet.k (k := .inr "place") h
theorem get_cells {H : Hp} {t c : Addr} {p l : Int} (h : H t = some (.dK (tp c p l))) : DGet H t (.str "cells") (some (.ref c)) := DGet.k (k := .inr "cells") h
theorem put_left {H : Hp} {t c : Addr} {p l q : Int} (h : H t = some (.dK (tp c p l))) : DPut H t (.str "left") (.int q) (upd H t (.dK (tp c p q))) := DPut.k (k := .inr "left") (v := .int q) h (by show 3 < sizeLine; decide)
theorem put_place {H : Hp} {t c : Addr} {p l q : Int} (h : H t = some (.dK (tp c p l))) : DPut H t (.str "place") (.int q) (upd H t (.dK (tp c q l))) := DPut.k (k := .inr "place") (v := .int q) h (by show 3 < sizeLine; decide)
def spDraw (K : PySem.W.Frag) : Sp := fun vs H Q _ => ∃ (t c : Addr) (n : Int) (b : Nat), vs = [.ref t, .int n] ∧ 1 ≤ n ∧ n < 1000000 ∧ Tape K H t c (b + 1) ∧
  ∀ (H' : Hp) (r : Int), Ext t H H' → Tape K H' t c b → 0 ≤ r → r < n → Q (.int r) H'
theorem ok_draw {f : Addr} {fd : FuncData} (F : Fun K "_law_draw" "_law_draw" s__law_draw f fd) (B : Bl mg) : FnOk P w K mg base CX0 1 f fd ["_law_tape", "_law_many"] (spDraw K) := by
  refine F.ok sc__law_draw (fun vs H Q E h => ?_) (fun cdv A outer s H vs Q E hr h => ?_)
  · obtain ⟨t, c, n, b, rfl, _⟩ := h
    rfl
  · obtain ⟨t, c, n, b, rfl, hn1, hn2, ⟨p, l, ns, h1, h2, h3, h4, h5, h6, h7, h8⟩, k⟩ := h
    have hu := hu_of hr
    refine ⟨_, (pss_cons (ps_if (pt_cmpR op_lt (pe_dget hu (pv 0) pe_str (fun _ _ => rfl)) (pv 1) (nomark _))
  (pss_cons (ps_par (i := 2) (j := 3) (by rfl) sc__law_draw.nd rfl rfl (by decide) rfl rfl (pa_cons (pe_dget hu (pv 0) pe_str (fun _ _ => rfl)) (pa_cons (pe_dget hu (pv 0) pe_str (fun _ _ => rfl)) pa_nil)) (by rfl))
  (pss_cons (ps_asg (pe_tup (pa_cons (pe_ix ix_list (pv 3) (pe_op op_mod (pe_callTy call_int1 (by rfl) B.int (by decide +kernel) (pa_cons (pv 2) pa_nil)) (pe_callB call_len (by rfl) B.len PySem.boot_len (pa_cons (pv 3) pa_nil))) (fun _ _ => rfl)) (pa_cons (pe_op op_add (pv 2) pe_int) pa_nil))) (pg_tup (by rfl) (pgs_cons (pg_name (i := 4) sc__law_draw.nd rfl (Or.inl rfl)) (pgs_cons (pg_sub (pv 0) pe_str (set_dict hu)) pgs_nil))))
  (pss_cons (ps_dput hu (pv 0) pe_str (pe_op op_mod (pe_callTy call_int1 (by rfl) B.int (by decide +kernel) (pa_cons (pe_op op_pow (pe_op op_add (pe_op op_add (pe_op op_mod (pe_callTy call_int1 (by rfl) B.int (by decide +kernel) (pa_cons (pv 4) pa_nil)) pe_int) (pe_op op_mul pe_int (pv 2))) pe_int) pe_int) pa_nil)) (pe_op op_add (pe_op op_pow pe_int pe_int) pe_int)) rfl)
  (pss_one (ps_if (PW.pt (pw_and (pt_cmpR op_ge (pv 4) (pe_op op_pow pe_int pe_int) (nomark _)) (pw_and1 (pt_cmpR op_lt (pv 2) (pe_callB call_len (by rfl) B.len PySem.boot_len (pa_cons (pv 3) pa_nil)) (nomark _)))))
  (pss_one (ps_dput hu (pv 0) pe_str (pe_op op_sub (pv 4) (pe_op op_pow pe_int pe_int)) rfl))
  pss_nil)))))
  pss_nil)
  (pss_cons (ps_asg (pe_tup (pa_cons (pe_op op_mod (pe_callTy call_int1 (by rfl) B.int (by decide +kernel) (pa_cons (pe_dget hu (pv 0) pe_str (fun _ _ => rfl)) pa_nil)) (pv 1)) (pa_cons (pe_op op_fdivN (pe_dget hu (pv 0) pe_str (fun _ _ => rfl)) (pv 1)) pa_nil))) (pg_tup (by rfl) (pgs_cons (pg_name (i := 5) sc__law_draw.nd rfl (Or.inl rfl)) (pgs_cons (pg_sub (pv 0) pe_str (set_dict hu)) pgs_nil))))
  (pss_one (ps_ret (pv 5))))), ?_⟩
    -- the last two rows, from any tape
    have fin : ∀ (H1 : Hp) (p l : Int) (v2 v3 v4 : Option V), Ext t H H1 → H1 t = some (.dK (tp c p l)) → SqL K H1 c (ns.map V.int) → 0 ≤ p → p + b ≤ 1000000 → 0 ≤ l →
        tSeq (tAsg (tTup (tCons (tOp (rI (fun _ j => 0 < j) fun i j => .int (i % j)) (tCB (fun xs H Q => (∃ i, xs = [.int i] ∧ Q (.int i) H) ∨ ∃ k, xs = [.bl k] ∧ Q (.int (if k then 1 else 0)) H) (tCons (tDGet (tVar 0) (tC (.str "left"))) tNil)) (tVar 1)) (tCons (tOp (rI CDivN fun i j => .int (i.fdiv j)) (tDGet (tVar 0) (tC (.str "left"))) (tVar 1)) tNil)))
          (gTup K 2 (gCons (gName 5) (gCons (gSub (tVar 0) (tC (.str "left")) rSetD) gNil)))) (tRet (tVar 5)) { nx := fun _ H' => Q .non H', rt := Q } [some (.ref t), some (.int n), v2, v3, v4, none] H1 := by
      intro H1 p l v2 v3 v4 e1 g1 g2 g3 g4 g5
      refine ⟨_, rfl, _, _, rfl, get_left g1, .inl ⟨_, rfl, _, rfl, _, _, rfl, rfl, (by omega), ?_⟩⟩
      refine ⟨_, rfl, _, _, rfl, get_left g1, _, rfl, _, _, rfl, rfl, ⟨by omega, by omega⟩, slz rfl, fun q hq => ?_⟩
      have nq : t ≠ q := ne_of_none g1 hq
      refine ⟨q, _, rfl, SqT.of upd_same, rfl, _, _, rfl, _, _, rfl, _, rfl, t, _, rfl, put_left (by rw [upd_ne nq]; exact g1), rfl, ?_⟩
      refine ⟨_, rfl, ?_⟩
      have e2 : Ext t H (upd H1 q (.tup [.int (l % n), .int (l.fdiv n)])) := e1.trans (Ext.new hq)
      refine k _ _ (e2.trans Ext.put) ⟨p, l.fdiv n, ns, upd_same, (SqL.ext g2 ((Ext.new hq).trans Ext.put) h3), h3, h4, h5, g3, g4, Int.fdiv_nonneg g5 (by omega)⟩ (Int.emod_nonneg _ (by omega)) (Int.emod_lt_of_pos _ (by omega))
    refine ⟨_, rfl, _, _, rfl, get_left h1, _, rfl, _, _, rfl, rfl, _, rfl, ?_⟩
    refine ite2 (fun hc => ?_) (fun hc => ?_)
    · refine ⟨_, rfl, _, _, rfl, get_place h1, _, rfl, _, _, rfl, get_cells h1, _, _, rfl, ?_⟩
      have hm : p % ((ns.map V.int).length : Int) = ((p % ((ns.map V.int).length : Int)).toNat : Int) := (Int.toNat_of_nonneg (Int.emod_nonneg _ (by rw [List.length_map]; omega))).symm
      have hlt : (p % ((ns.map V.int).length : Int)).toNat < ns.length := by
        have := Int.emod_lt_of_pos p (show (0 : Int) < ((ns.map V.int).length : Int) by rw [List.length_map]; omega)
        rw [List.length_map] at this ⊢
        omega
      refine ⟨_, rfl, _, rfl, .inl ⟨_, rfl, _, rfl, _, _, rfl, .inl ⟨_, h2, rfl⟩, _, _, rfl, rfl, (by rw [List.length_map]; omega), c, _, _, V.int (ns[(p % ((ns.map V.int).length : Int)).toNat]), rfl, rfl, h2, at_of hm (by rw [List.getElem?_map, List.getElem?_eq_getElem hlt]; rfl), ?_⟩⟩
      generalize ns[(p % ((ns.map V.int).length : Int)).toNat] = cell
      refine ⟨_, rfl, _, _, rfl, rfl, slz rfl, fun q hq => ?_⟩
      have nq : t ≠ q := ne_of_none h1 hq
      have g0 : (upd H q (.tup [.int cell, .int (p + 1)])) t = some (.dK (tp c p l)) := by rw [upd_ne nq]; exact h1
      refine ⟨q, _, rfl, SqT.of upd_same, rfl, _, _, rfl, _, _, rfl, _, rfl, t, _, rfl, put_place g0, rfl, ?_⟩
      have e1 : Ext t H (upd (upd H q (.tup [.int cell, .int (p + 1)])) t (.dK (tp c (p + 1) l))) := (Ext.new hq).trans Ext.put
      have hu1 : 0 ≤ cell % 2147483587 := Int.emod_nonneg _ (by decide)
      have hu2 : cell % 2147483587 < 2147483587 := Int.emod_lt_of_pos _ (by decide)
      refine ⟨_, rfl, .inl ⟨_, rfl, _, _, rfl, rfl, (show (0 : Int) < 2147483587 by decide), _, rfl, _, _, rfl, rfl, .inr ⟨by omega, by omega⟩, _, _, rfl, rfl, _, _, rfl, rfl, ?_⟩⟩
      refine ⟨_, _, rfl, rfl, ⟨by decide, by decide, ?_⟩, .inl ⟨_, rfl, ?_⟩⟩
      · show (cell % 2147483587 + 40961 * p + 50207).natAbs < 2 ^ 64
        omega
      generalize (cell % 2147483587 + 40961 * p + 50207) ^ (17 : Int).toNat = big
      refine ⟨_, _, rfl, rfl, ⟨by decide, by decide, by decide⟩, _, _, rfl, rfl, _, _, rfl, rfl, (show (0 : Int) < 10 ^ (50 : Int).toNat + 151 by decide +kernel), ?_⟩
      refine ⟨_, rfl, t, _, rfl, put_left upd_same, ?_⟩
      have hl : 0 ≤ big % (10 ^ (50 : Int).toNat + 151) := Int.emod_nonneg _ (by decide +kernel)
      generalize big % (10 ^ (50 : Int).toNat + 151) = l2 at hl ⊢
      have e3 : Ext t H (upd (upd (upd H q (.tup [.int cell, .int (p + 1)])) t (.dK (tp c (p + 1) l))) t (.dK (tp c (p + 1) l2))) := e1.trans Ext.put
      refine ⟨_, rfl, _, _, rfl, rfl, ⟨by decide, by decide, by decide⟩, _, _, rfl, rfl, _, rfl, ?_⟩
      refine ite2 (fun hc1 => ?_) (fun hc1 => ?_)
      · refine ⟨_, rfl, _, rfl, _, _, rfl, .inl ⟨_, SqL.ext h2 e3 h3, rfl⟩, _, _, rfl, rfl, _, rfl, ?_⟩
        refine ite2 (fun hc2 => ?_) (fun hc2 => ?_)
        · refine ⟨_, rfl, _, _, rfl, rfl, ⟨by decide, by decide, by decide⟩, _, _, rfl, rfl, ?_⟩
          refine ⟨_, rfl, t, _, rfl, put_left upd_same, ?_⟩
          have hc3 : (10 : Int) ^ (18 : Int).toNat ≤ cell := of_decide_eq_true hc1
          exact fin _ (p + 1) _ _ _ _ (e3.trans Ext.put) upd_same (SqL.ext h2 (e3.trans Ext.put) h3) (by omega) (by omega) (by omega)
        · exact fin _ (p + 1) _ _ _ _ e3 upd_same (SqL.ext h2 e3 h3) (by omega) (by omega) hl
      · refine iteF ?_
        exact fin _ (p + 1) _ _ _ _ e3 upd_same (SqL.ext h2 e3 h3) (by omega) (by omega) hl
    · exact fin H p l none none none (Ext.refl _ _) h1 h2 h6 (by omega) h8
end
end L3

namespace L3
open PySem L2
section
variable {P : Program} {w : World} {K : PySem.W.Frag} {mg : Str → Option Value} {base : Heap}
theorem Fun.kn {x : Str} {st : Stmt} {f : Addr} {fd : FuncData} {k : Nat} {ps : List Str} {sp : Sp} (F : Fun K x x st f fd) (hm : mg x = some (.ref f)) (h : FnOk P w K mg base CX0 k f fd ps sp)
    (b : ∀ (kV doc pm : Value) (an : Option Addr) (cdv ct : Value) (us : List Value), us.length = ps.length → bindArgs (PySem.W.fnOf x x (defArgs st) (defBody st) (defScope st) .none kV doc pm an cdv ct) ⟨us, []⟩ = pure (ps.zip us)) : Kn P w K mg base k x ps sp :=
  ⟨f, fd, h, hm, F.kp, F.binds b⟩
abbrev s__law_pick : Stmt := topS 36
abbrev N__law_pick : List Str := ["_law_tape", "_law_items"]
theorem sc__law_pick : FnScope N__law_pick ["_law_tape", "_law_items"] (defScope s__law_pick) := ⟨rfl, rfl, rfl, by decide +kernel, rfl, by decide +kernel, by decide +kernel⟩
def spPick (K : PySem.W.Frag) : Sp := fun vs H Q _ => ∃ (t c l : Addr) (xs : List V) (b : Nat), vs = [.ref t, .ref l] ∧ SqL K H l xs ∧ 0 < xs.length ∧ xs.length < 1000000 ∧ Tape K H t c (b + 1) ∧
  ∀ (H' : Hp) (v : V), Ext t H H' → Tape K H' t c b → v ∈ xs → Q v H'
theorem ok_pick {f : Addr} {fd : FuncData} (F : Fun K "_law_pick" "_law_pick" s__law_pick f fd) (B : Bl mg) (D__law_draw : Kn P w K mg base 1 "_law_draw" ["_law_tape", "_law_many"] (spDraw K)) : FnOk P w K mg base CX0 2 f fd ["_law_tape", "_law_items"] (spPick K) := by
  refine F.ok sc__law_pick (fun vs H Q E h => ?_) (fun cdv A outer s H vs Q E hr h => ?_)
  · obtain ⟨t, c, l, xs, b, rfl, _⟩ := h
    rfl
  · obtain ⟨t, c, l, xs, b, rfl, h1, h2, h3, h4, k⟩ := h
    have hr__law_draw := hr
    refine ⟨_, (pss_one (ps_ret (pe_ix ix_list (pv 1) (pe_kn D__law_draw hr__law_draw (pa_cons (pv 0) (pa_cons (pe_callB call_len (by rfl) B.len PySem.boot_len (pa_cons (pv 1) pa_nil)) pa_nil))) (fun _ _ => rfl)))), ?_⟩
    refine ⟨_, rfl, _, rfl, _, rfl, _, _, rfl, .inl ⟨_, h1, rfl⟩, t, c, _, b, rfl, by omega, by omega, h4, fun H' r e1 e2 r1 r2 => ?_⟩
    have hj : r = (r.toNat : Int) := (Int.toNat_of_nonneg r1).symm
    have hlt : r.toNat < xs.length := by omega
    exact ⟨l, xs, r, xs[r.toNat], rfl, rfl, SqL.extT h1 h4 e1, at_of hj (List.getElem?_eq_getElem hlt), k H' _ e1 e2 (List.getElem_mem hlt)⟩

end
end L3

namespace L3
open PySem L2
/-! ### variables in order -/
def addV (fs : List Str) (x : Str) : List Str := if x ∈ fs then fs else fs ++ [x]
def Kd.vs : Kd → List Str → List Str
  | .var x, fs => addV fs x
  | .con _, fs => fs
  | .app a b, fs => b.vs (a.vs fs)
def vsL : List Kd → List Str → List Str
  | [], fs => fs
  | k :: r, fs => vsL r (k.vs fs)
def Kd.size : Kd → Nat
  | .var _ => 1
  | .con _ => 1
  | .app a b => a.size + b.size + 1
def sizeL : List Kd → Nat
  | [] => 0
  | k :: r => k.size + sizeL r
theorem Kd.size_pos (k : Kd) : 0 < k.size := by cases k <;> simp [Kd.size]
theorem eqV_str (x y : Str) : eqV (.str y) (.str x) = decide (y = x) := str_beq y x
theorem inV_words (x : Str) : ∀ fs : List Str, inV (.str x) (fs.map V.str) = decide (x ∈ fs)
  | [] => rfl
  | y :: r => by
    have ih := inV_words x r
    unfold inV at ih ⊢
    rw [List.map_cons, List.any_cons, ih, eqV_str]
    by_cases h : y = x
    · subst h
      simp
    · have h2 : ¬ x = y := fun e => h e.symm
      simp [h, h2]
theorem flat_words : ∀ fs : List Str, (fs.map V.str).all flatV = true
  | [] => rfl
  | _ :: r => by
    rw [List.map_cons, List.all_cons, flat_words r]
    rfl
/-- the last of a row -/
theorem paired_last {α β : Type} {F : α → β → Prop} : ∀ {xs : List α} {ys : List β} {y : β}, Paired F xs (ys ++ [y]) → ∃ xs0 x, xs = xs0 ++ [x] ∧ Paired F xs0 ys ∧ F x y
  | [], [], _, h => nomatch h
  | [], _ :: _, _, h => nomatch h
  | x :: xs, [], y, .cons r t => by
    cases t
    exact ⟨[], x, rfl, .nil, r⟩
  | x :: xs, z :: ys, y, .cons r t => by
    obtain ⟨xs0, w, e, h1, h2⟩ := paired_last (ys := ys) t
    exact ⟨x :: xs0, w, by rw [e]; rfl, .cons r h1, h2⟩
theorem paired_snoc {α β : Type} {F : α → β → Prop} {xs : List α} {ys : List β} {x : α} {y : β} (h : Paired F xs ys) (r : F x y) : Paired F (xs ++ [x]) (ys ++ [y]) := Paired.snoc h r
theorem paired_rev {α β : Type} {F : α → β → Prop} : ∀ {xs : List α} {ys : List β}, Paired F xs ys → Paired F xs.reverse ys.reverse
  | _, _, .nil => .nil
  | _, _, .cons r t => by
    rw [List.reverse_cons, List.reverse_cons]
    exact Paired.snoc (paired_rev t) r
theorem kds_snoc : ∀ ks : List Kd, ks ≠ [] → ∃ ks0 k, ks = ks0 ++ [k] := fun ks h => ⟨ks.dropLast, ks.getLast h, (List.dropLast_concat_getLast h).symm⟩
theorem shaped_kds {ks : List Kd} (h : ∀ k ∈ ks, k.fit 60) : SeqAt.shaped (.list (ks.map Kd.dat)) = true := by
  have key : ∀ ks : List Kd, (∀ k ∈ ks, k.fit 60) → PyData.canLayAll0 (ks.map Kd.dat) = true ∧ PyData.depthAll (ks.map Kd.dat) ≤ 61 := by
    intro ks
    induction ks with
    | nil => intro _; exact ⟨by simp [PyData.canLayAll0], by simp [PyData.depthAll]⟩
    | cons k r ih =>
      intro h
      obtain ⟨h1, h2⟩ := ih fun y hy => h y (List.mem_cons_of_mem _ hy)
      obtain ⟨h3, h4⟩ := Kd.lay (h k List.mem_cons_self)
      refine ⟨by simp only [List.map_cons, PyData.canLayAll0, h3, h1, Bool.true_and], ?_⟩
      simp only [List.map_cons, PyData.depthAll]
      omega
  obtain ⟨h1, h2⟩ := key ks h
  unfold SeqAt.shaped
  simp only [PyData.canLay0, h1, PyData.depth, Bool.true_and]
  exact decide_eq_true (by omega)
theorem kds_ne {ks : List Kd} : (!PyData.eqv (.list (ks.map Kd.dat)) (.list [])) = !ks.isEmpty := by
  rw [eqv_ll]
  cases ks with
  | nil => rw [List.map_nil, eqv_nn]; rfl
  | cons x r => rw [List.map_cons, eqv_cn]; rfl
/-! ### matching -/
def Kd.mt : Kd → Kd → By → Bool × By
  | .var x, k, b => match lk b x with
    | some k' => (decide (k' = k), b)
    | none => (true, b ++ [(x, k)])
  | .con x, k, b => (decide (Kd.con x = k), b)
  | .app a c, .app d e, b => if (a.mt d b).1 = true then c.mt e (a.mt d b).2 else (false, (a.mt d b).2)
  | .app _ _, .var _, b => (false, b)
  | .app _ _, .con _, b => (false, b)
def mtL : List Kd → List Kd → By → Option By
  | p :: ps, k :: ks, b => if (p.mt k b).1 = true then mtL ps ks (p.mt k b).2 else none
  | _, _, b => some b
def mtP : List (Kd × Kd) → By → Option By
  | [], b => some b
  | (p, k) :: r, b => if (p.mt k b).1 = true then mtP r (p.mt k b).2 else none
theorem mtP_zip : ∀ (ps ks : List Kd) (b : By), mtP (ps.zip ks) b = mtL ps ks b
  | [], _, _ => rfl
  | _ :: _, [], _ => rfl
  | p :: ps, k :: ks, b => by
    show (if (p.mt k b).1 = true then mtP (ps.zip ks) (p.mt k b).2 else none) = if (p.mt k b).1 = true then mtL ps ks (p.mt k b).2 else none
    rw [mtP_zip ps ks]
theorem mtP_app (a c d e : Kd) (r : List (Kd × Kd)) (b : By) : mtP ((.app a c, .app d e) :: r) b = mtP ((a, d) :: (c, e) :: r) b := by
  show (if ((Kd.app a c).mt (.app d e) b).1 = true then mtP r ((Kd.app a c).mt (.app d e) b).2 else none) = if (a.mt d b).1 = true then (if (c.mt e (a.mt d b).2).1 = true then mtP r (c.mt e (a.mt d b).2).2 else none) else none
  by_cases h : (a.mt d b).1 = true
  · have q : (Kd.app a c).mt (.app d e) b = c.mt e (a.mt d b).2 := by simp only [Kd.mt, if_pos h]
    rw [if_pos h, q]
  · have q : (Kd.app a c).mt (.app d e) b = (false, (a.mt d b).2) := by simp only [Kd.mt, if_neg h]
    rw [if_neg h, q]
    rfl
theorem lk_snoc {b : By} {x : Str} {k : Kd} (h : lk b x = none) (y : Str) : lk (b ++ [(x, k)]) y = if y = x then some k else lk b y := by
  induction b with
  | nil =>
    by_cases e : x = y
    · rw [if_pos e.symm]
      exact lk_pos e
    · rw [if_neg (fun z => e z.symm)]
      exact lk_neg e
  | cons p r ih =>
    have hk : ¬ p.1 = x := fun z => by rw [lk_pos z] at h; cases h
    rw [lk_neg hk] at h
    rw [List.cons_append]
    by_cases e : p.1 = y
    · rw [lk_pos e, lk_pos e, if_neg (fun z => hk (e.trans z))]
    · rw [lk_neg e, lk_neg e, ih h]
theorem lk_mem {b : By} {x : Str} {k : Kd} (h : lk b x = some k) : (x, k) ∈ b := by
  induction b with
  | nil => cases h
  | cons p r ih =>
    by_cases e : p.1 = x
    · rw [lk_pos e] at h
      have : p = (x, k) := by
        obtain ⟨p1, p2⟩ := p
        have e' : p1 = x := e
        have h' : p2 = k := Option.some.inj h
        rw [e', h']
      rw [this]
      exact List.mem_cons_self
    · rw [lk_neg e] at h
      exact List.mem_cons_of_mem _ (ih h)
/-- what matching adds -/
theorem Kd.mt_grow {m : Nat} : ∀ (p k : Kd) (b : By), k.fit m → (∀ q ∈ b, q.2.fit m) → (p.mt k b).2.length ≤ b.length + p.size ∧ ∀ q ∈ (p.mt k b).2, q.2.fit m
  | .var x, k, b, hk, hb => by
    simp only [Kd.mt]
    cases e : lk b x with
    | some k' => exact ⟨Nat.le_add_right _ _, hb⟩
    | none =>
      refine ⟨by simp [Kd.size], fun q hq => ?_⟩
      rcases List.mem_append.mp hq with h | h
      · exact hb q h
      · rw [List.mem_singleton.mp h]
        exact hk
  | .con x, k, b, hk, hb => ⟨Nat.le_add_right _ _, hb⟩
  | .app a c, .app d e, b, hk, hb => by
    obtain ⟨j, rfl, h1, h2⟩ := Kd.fit_app hk
    have h1' := Kd.fit_mono (Nat.le_succ j) h1
    have h2' := Kd.fit_mono (Nat.le_succ j) h2
    obtain ⟨g1, g2⟩ := Kd.mt_grow a d b h1' hb
    obtain ⟨g3, g4⟩ := Kd.mt_grow c e (a.mt d b).2 h2' g2
    simp only [Kd.mt]
    by_cases h : (a.mt d b).1 = true
    · rw [if_pos h]
      refine ⟨?_, g4⟩
      simp only [Kd.size]
      omega
    · rw [if_neg h]
      refine ⟨?_, g2⟩
      simp only [Kd.size]
      omega
  | .app _ _, .var _, b, _, hb => ⟨Nat.le_add_right _ _, hb⟩
  | .app _ _, .con _, b, _, hb => ⟨Nat.le_add_right _ _, hb⟩
/-- the names, as the variables come -/
def names (b : By) : List Str := b.map (·.1)
theorem lk_names (b : By) (x : Str) : (lk b x).isSome = decide (x ∈ names b) := by
  induction b with
  | nil => rfl
  | cons p r ih =>
    by_cases e : p.1 = x
    · rw [lk_pos e]
      simp [names, e]
    · rw [lk_neg e, ih]
      have e' : ¬ x = p.1 := fun z => e z.symm
      have q : names (p :: r) = p.1 :: names r := rfl
      rw [q]
      simp [e']
theorem Kd.mt_names : ∀ (p k : Kd) (b : By), (p.mt k b).1 = true → names (p.mt k b).2 = p.vs (names b)
  | .var x, k, b, h => by
    have hn := lk_names b x
    simp only [Kd.mt, Kd.vs, addV] at h ⊢
    cases e : lk b x with
    | some k' =>
      rw [e] at hn
      have : x ∈ names b := of_decide_eq_true hn.symm
      simp only [this, if_true]
    | none =>
      rw [e] at hn
      have : ¬ x ∈ names b := of_decide_eq_false hn.symm
      rw [if_neg this]
      simp [names]
  | .con x, k, b, _ => rfl
  | .app a c, .app d e, b, h => by
    simp only [Kd.mt, Kd.vs] at h ⊢
    by_cases h1 : (a.mt d b).1 = true
    · rw [if_pos h1] at h ⊢
      rw [Kd.mt_names c e _ h, Kd.mt_names a d b h1]
    · rw [if_neg h1] at h
      cases h
  | .app _ _, .var _, b, h => by simp [Kd.mt] at h
  | .app _ _, .con _, b, h => by simp [Kd.mt] at h
theorem mtL_names : ∀ (ps ks : List Kd) (b c : By), ps.length = ks.length → mtL ps ks b = some c → names c = vsL ps (names b)
  | [], [], b, c, _, h => by cases h; rfl
  | [], _ :: _, _, _, h, _ => by cases h
  | _ :: _, [], _, _, h, _ => by cases h
  | p :: ps, k :: ks, b, c, hl, h => by
    simp only [mtL] at h
    by_cases h1 : (p.mt k b).1 = true
    · rw [if_pos h1] at h
      rw [mtL_names ps ks _ c (Nat.succ.inj hl) h, Kd.mt_names p k b h1]
      rfl
    · rw [if_neg h1] at h
      cases h
end L3

/-! repr of nested data; a law's own run, where nothing else is being shown -/
namespace L3
open PySem PySem.Spec PyProof.Rows L2
section
variable {X : Cx}
/-- repr of a list or tuple of nested data -/
def rRepr (K : PySem.W.Frag) : List V → Hp → VK → Prop := fun xs H Q => ∃ (a : Addr) (d : PyData), xs = [.ref a] ∧ Dp K H (.ref a) d ∧ d.showable = true ∧ d.hasDict = false ∧ d.depth ≤ 60 ∧ d.shown.length ≤ sizeLine ∧ Q (.str d.shown) H
theorem call_reprD (hg : X.A.guards = some []) (hu : X.A.units + 64 < cLine) : CallR X (.builtin "repr") (rRepr X.K) := by
  intro pins s σ H xs us Q I r h
  obtain ⟨a, d, rfl, hd, hs, hn, hdep, hsz, q⟩ := h
  obtain ⟨u, rfl, rx⟩ := vals1 r
  obtain rfl : u = Value.ref a := rx
  obtain ⟨as, hr⟩ := Dp.reads I d _ _ hd (show RelV (.ref a) (.ref a) from rfl)
  exact repr_of_reads' hr hs (fun z => by rw [hn] at z; cases z) hg (by omega) (fun _ _ e => e) (fun h' u tk hk => ⟨.str d.shown, H, I.kept (t' := tk) hk, ⟨u, rfl⟩, q⟩) hsz
end
/-- the law's own def, called by nobody -/
def LawRun (P : Program) (w : World) (K : PySem.W.Frag) (mg : Str → Option Value) (base : Heap) (f : Addr) (fd : FuncData) (x : Str) (sp : List V → Hp → VK → Prop) : Prop :=
  ∀ (s : Shared) (H : Hp) (args : Args) (u : Value) (v : V) (Q : VK), Env0 P w K mg base callerA [] s H → BindsTo s fd args [(x, u)] → RelV v u → sp [v] H Q → codeAny (model P w) callerA (.call (.ref f) args) (CR CX0 [] P w H s Q E0) s
section
variable {P : Program} {w : World} {K : PySem.W.Frag} {mg : Str → Option Value} {base : Heap}
theorem lawRun_of {st : Stmt} {f : Addr} {fd : FuncData} {N : List Str} {k : Nat} {x : Str} {sp : List V → Hp → VK → Prop} (F : Fun K "law" "law" st f fd) (S : FnScope N [x] (defScope st)) (hroom : Room (k + 1) callerA)
    (hbody : ∀ (cdv : Value) (s : Shared) (H : Hp) (v : V) (Q : VK), Room k (callerA.deeper (envOfC "law" (defScope st) s.heap.objs.size f cdv)) → sp [v] H Q →
      ∃ t, PSs (cxOf CX0 P w K mg base N "law" (defScope st) f cdv callerA [] s H E0).nox (defBody st) t ∧ t { nx := fun _ H' => Q .non H', rt := Q } (start N [v]) H) : LawRun P w K mg base f fd x sp := by
  obtain ⟨oc, od, kV, doc, pm, an, cdv, ct, osl, rfl, lk, hcd⟩ := F.ex
  intro s H args u v Q e0 hb rv hsp
  have inK : K.In s.heap := e0.mod.kin.keeps fun b o z => (e0.bs b o z).1
  have noL : s.heap.NoLimit := e0.mod.nolimit.keeps fun b o z => (e0.bs b o z).1
  have kinds : ∀ y ∈ ([x].zip [u] : List (Str × Value)), (defScope st).names.lookup y.1 = some .local ∨ ((defScope st).names.lookup y.1 = some .cell ∧ ((cellsFrom (s.heap.objs.size + 1) (defScope st).names []).lookup y.1).isSome = true) := by
    rintro ⟨n, z⟩ hy
    rcases S.par n (List.of_mem_zip hy).1 with q | q
    · exact Or.inl q
    · exact Or.inr ⟨q, PySem.W.cellsFrom_some _ _ _ (Or.inl q)⟩
  refine codeAny_call_function (Room.depth hroom) (inK _ _ lk) rfl S.co S.gen rfl (PySem.W.codeRec_of inK hcd) (hb _ _ _ _ ?_)
  refine wpAny_newFunctionEnv_cells S.kind kinds fun env he s1 xx => ?_
  subst he
  refine ⟨noL.keeps xx.toInCall.keep, codeAny_func ?_⟩
  obtain ⟨t, ht, hq⟩ := hbody cdv s H v Q (Room.deeper hroom _) hsp
  have J : Inv (cxOf CX0 P w K mg base N "law" (defScope st) f cdv callerA [] s H E0) [] (start N [v]) H s1 := inv_start S rfl e0 rfl (Paired.cons rv .nil) xx
  refine wpAny_mono ((PSs.nox ht).run [] s1 (start N [v]) H _ J hq) (fun fl s' hs => ?_) (fun e s' hs => hs)
  cases fl with
  | next =>
    obtain ⟨σ', H', J', q⟩ := hs
    exact ⟨V.non, H', J'.os, J'.bare, J'.base, J'.hok, rfl, q⟩
  | ret z =>
    obtain ⟨v', σ', H', J', rz, q⟩ := hs
    exact ⟨v', H', J'.os, J'.bare, J'.base, J'.hok, rz, q⟩
  | brk =>
    obtain ⟨_, _, _, q⟩ := hs
    exact q.elim
  | cont =>
    obtain ⟨_, _, _, q⟩ := hs
    exact q.elim
end
section
variable {P : Program} {w : World} {K : PySem.W.Frag} {mg mb : Str → Option Value} {fa a : Addr} {fd : FuncData} {x : Str} {sp : List V → Hp → VK → Prop} {s1 : Shared} {vs : List Value} {ns : List Int}
/-- what the law's call has to come to -/
abbrev LawEnd (s1 : Shared) (r : Result) (s' : Shared) : Prop := r = .ok (.ret (.bool true)) ∧ OldK s1.heap s'.heap ∧ s'.os = s1.os ∧ AllBare s'.gens
theorem law_core (inK : K.In s1.heap) (gl : s1.heap.Ns mainGlobals mg) (bi : s1.heap.Ns builtinsNs mb) (bb : ∀ y : Str, y ≠ "__name__" → mb y = bootBuiltins y) (nl : s1.heap.NoLimit) (ng : s1.gens = #[])
    (ob : s1.heap.get? a = some { cls := .type "list", data := .seq vs.toArray }) (run : ∀ base : Heap, K.In base → base.Ns mainGlobals mg → LawRun P w K mg base fa fd x sp)
    (bind : ∀ (s : Shared) (u : Value), BindsTo s fd ⟨[u], []⟩ [(x, u)]) (want : ∀ H : Hp, Only H → SqL K H a (ns.map V.int) → sp [.ref a] H (fun v _ => v = .bl true))
    (H : Hp) (hO : Only H) (hS : SqL K H a (ns.map V.int)) (ok : HOk P w H s1.heap) (alone : ∀ b, H b ≠ none → b = a) (off : H a ≠ none → K.lookup a = none) :
    codeAny (model P w) callerA (.call (.ref fa) ⟨[.ref a], []⟩) (LawEnd s1) s1 := by
  -- a thing that is tracked is the script
  have isA : ∀ {b : Addr} {u : HO}, H b = some u → b = a := fun {b u} q => alone b (by rw [q]; simp)
  have hid : ∀ {b : Addr} {o : Obj}, s1.heap.get? b = some o → H b = none → (hidT s1.heap H).get? b = some o := fun z n => hidT_get z n
  have dictFree : ∀ {b : Addr} {o : Obj} {es : Array DictEntry} {ep : Nat}, s1.heap.get? b = some o → o.data = .dict es ep → H b = none := by
    intro b o es ep z dd
    cases q : H b with
    | none => rfl
    | some u =>
      have e' := isA q
      subst e'
      rw [ob] at z
      cases z
      have dd' : Data.seq vs.toArray _ = Data.dict es ep := dd
      cases dd'
  have nsH : ∀ {b : Addr} {m : Str → Option Value}, s1.heap.Ns b m → (hidT s1.heap H).Ns b m := by
    rintro b m ⟨o, es, ep, z, dd, r⟩
    exact ⟨o, es, ep, hid z (dictFree z dd), dd, r⟩
  have inH : K.In (hidT s1.heap H) := by
    intro b o z
    refine hid (inK b o z) ?_
    cases q : H b with
    | none => rfl
    | some u =>
      have e' := isA q
      subst e'
      rw [off (by rw [q]; simp)] at z
      cases z
  have md : Mod K mg (hidT s1.heap H) := by
    obtain ⟨mc, z1, z2⟩ := nl
    exact ⟨inH, nsH gl, ⟨mb, nsH bi, bb⟩, ⟨mc, nsH z1, z2⟩⟩
  have e0 : Env0 P w K mg (hidT s1.heap H) callerA [] s1 H := by
    refine ⟨rfl, md, fun b o z => of_hidT z, Nat.le_of_eq (hidT_size _ _), trivial, ?_, ok, .of_eq ng⟩
    intro b hb
    exact nomatch (show b ∈ ([] : List Addr) from hb)
  refine codeAny_mono (run _ inH (nsH gl) s1 H ⟨[.ref a], []⟩ (.ref a) (.ref a) _ e0 (bind s1 (.ref a)) rfl (want H hO hS)) fun r s' h => ?_
  cases r with
  | error e => exact h.elim
  | ok fl =>
    cases fl with
    | next => exact h.elim
    | brk => exact h.elim
    | cont => exact h.elim
    | ret u =>
      obtain ⟨v, H', os, bare, un, ok', r', q⟩ := h
      obtain rfl : v = .bl true := q
      obtain rfl : u = Value.bool true := r'
      refine ⟨rfl, OldK.of_keep fun b o z => ?_, os, bare⟩
      cases q : H b with
      | none => exact un.keep b o z q (fun y => nomatch (show b ∈ ([] : List Addr) from y)) (fun y => nomatch y)
      | some u =>
        rcases hO b with y | ⟨o2, xs, y⟩
        · rw [q] at y
          cases y
        · obtain ⟨z1, _⟩ := ok b _ y
          obtain ⟨z2, _⟩ := ok' b _ (un.frzs b o2 _ y)
          rw [z] at z1
          cases z1
          exact z2
theorem law_callG (inK : K.In s1.heap) (gl : s1.heap.Ns mainGlobals mg) (bi : s1.heap.Ns builtinsNs mb) (bb : ∀ y : Str, y ≠ "__name__" → mb y = bootBuiltins y) (nl : s1.heap.NoLimit) (ng : s1.gens = #[])
    (ob : s1.heap.get? a = some { cls := .type "list", data := .seq vs.toArray }) (hi : IntsAre vs ns) (hl : ns.length ≤ sizeLine) (run : ∀ base : Heap, K.In base → base.Ns mainGlobals mg → LawRun P w K mg base fa fd x sp)
    (bind : ∀ (s : Shared) (u : Value), BindsTo s fd ⟨[u], []⟩ [(x, u)]) (want : ∀ H : Hp, Only H → SqL K H a (ns.map V.int) → sp [.ref a] H (fun v _ => v = .bl true)) :
    codeAny (model P w) callerA (.call (.ref fa) ⟨[.ref a], []⟩) (LawEnd s1) s1 := by
  have rv := vals_ints hi
  cases hk : K.lookup a with
  | some o =>
    have z := inK a o hk
    rw [ob] at z
    cases z
    have hS : SqL K (fun _ => none) a (ns.map V.int) := Or.inr ⟨_, vs.toArray, _, hk, rfl, rfl, rfl, by rw [List.size_toArray, hi.length]; exact hl, by simpa using rv⟩
    exact law_core inK gl bi bb nl ng ob run bind want (fun _ => none) (fun _ => .inl rfl) hS (fun _ _ z => nomatch (show (none : Option HO) = some _ from z)) (fun _ z => (z rfl).elim) (fun z => (z rfl).elim)
  | none =>
    let fz : HO := .frz { cls := .type "list", data := .seq vs.toArray } (.lst (ns.map V.int))
    have at1 : upd (fun _ => none) a fz a = some fz := upd_same
    refine law_core inK gl bi bb nl ng ob run bind want (upd (fun _ => none) a fz) (fun b => ?_) (.inl (.inr ⟨_, at1⟩)) (fun b u z => ?_) (fun b z => ?_) fun _ => hk
    · by_cases hb : b = a
      · rw [hb, at1]
        exact .inr ⟨_, _, rfl⟩
      · exact .inl (upd_ne hb)
    · by_cases hb : b = a
      · subst hb
        rw [at1] at z
        cases z
        exact ⟨ob, by rw [List.length_map]; exact hl, vs, _, rv, ob⟩
      · rw [upd_ne hb] at z
        cases z
    · by_cases hb : b = a
      · exact hb
      · exact (z (upd_ne hb)).elim
end
/-- the end of a law whose own def is run by LawRun -/
theorem walkG {l : PySem.W.OpenLaw} {n : Nat} {q : Program} {loose : List Str} {XP : (Str → Option Value) → Heap → Prop} {YP : World → Heap → Prop} {d : DefRec} {K : Params → PySem.W.Frag} {sp : PySem.W.Frag → List V → Hp → VK → Prop} {x : Str}
    (hn : l.most = some n) (hn2 : n ≤ sizeLine) (hdf : d.params.defaults = []) (hY : ∀ (w : World) (h : Heap), YP w h → (K w.params).In h)
    (F : ∀ (w : World) (mg : Str → Option Value) (fa : Addr) (h : Heap), (K w.params).In h → h.Ns mainGlobals mg → mg d.name = some (.ref fa) →
      ∃ fd : FuncData, (∀ (s : Shared) (u : Value), BindsTo s fd ⟨[u], []⟩ [(x, u)]) ∧ ∀ base : Heap, (K w.params).In base → base.Ns mainGlobals mg → LawRun l.prog w (K w.params) mg base fa fd x (sp (K w.params)))
    (want : ∀ (K : PySem.W.Frag) (H : Hp) (a : Addr) (ns : List Int), ns.length ≤ n → SqL K H a (ns.map V.int) → sp K [.ref a] H (fun v _ => v = .bl true)) : PySem.W.WalkO q loose XP YP l.row.toRowW d [] (fun f vs => PySem.call f vs) := by
  refine Att.attach_call hn hdf ?_
  intro w s0 s1 mg mb fa o pm cd doc a vs ns G Y ho hd hcd hmg hobj hints hlen hg
  obtain ⟨fd, hb, run⟩ := F w mg fa _ (hY w _ Y) G.T.g hmg
  exact law_callG (hY w _ Y) G.T.g G.T.b G.T.builtins G.T.nolimit hg hobj hints (Nat.le_trans hlen hn2) run hb (fun H _ hS => want _ H a ns hlen hS)
end L3

/-! list(zip(a, b)) over two lists or two tuples of one length -/
namespace L3
open PySem PySem.Spec PyProof.Rows L2
section
variable {prog : Program} {w : World} {A : Around} {E : Value → Shared → Prop} {s : Shared} {z TI TO T i1 i2 l1 l2 : Addr} {f : Bool} {oT : Obj} {xs ys : Array Value}
/-- a zip of tuples whose last pair is still out gives the next pair -/
theorem zt_item {k1 k2 : Nat} {x y : Value} {Q : Option Value → Shared → Prop} (D : ZipApart z TI TO i1 i2 l1 l2) (hz : IsZipHeld s.heap z TI TO T f) (hT : s.heap.get? T = some oT) (hTI : IsPair s.heap TI (.ref i1) (.ref i2))
    (a1 : s.heap.IsTupleIter i1 l1 k1) (a2 : s.heap.IsTupleIter i2 l2 k2) (t1 : s.heap.IsTuple l1 xs) (t2 : s.heap.IsTuple l2 ys) (ex : xs[k1]? = some x) (ey : ys[k2]? = some y)
    (q : ∀ h', IsZipHeld h' z TI TO T true → h'.IsTupleIter i1 l1 (k1 + 1) → h'.IsTupleIter i2 l2 (k2 + 1) → IsPair h' s.heap.objs.size x y → h'.objs.size = s.heap.objs.size + 1 →
      (∀ b o, b ≠ z → b ≠ i1 → b ≠ i2 → s.heap.get? b = some o → h'.get? b = some o) → Q (some (.ref s.heap.objs.size)) { s with heap := h' }) : wpAny (model prog w) A (pyNext (.ref z)) Q E s := by
  have isZip : s.TypeIs (.ref z) "zip" := ⟨_, hz, rfl⟩
  have body : ∀ (A' : Around) (E' : Value → Shared → Prop), wpAny (model prog w) A' (Builtin.«zip.__next__» ⟨[.ref z], []⟩) (fun fin s' => ∃ v, fin = .done (.ret v) ∧ Q (some v) s') E' s := by
    intro A' E'
    show wpAny _ _ (field (.ref z) 2 >>= _) _ _ s
    refine wpAny_bind (wpAny_field (i := 2) hz rfl rfl ?_)
    show wpAny _ _ (field (.ref z) 3 >>= _) _ _ s
    refine wpAny_bind (wpAny_field (i := 3) hz rfl rfl (wpAny_bind (wpAny_seqItems hTI rfl ?_)))
    refine wpAny_bind (wpAny_tupleHeld_zip hz hT fun ha hza hsa => ?_)
    rw [if_neg Bool.false_ne_true]
    refine wpAny_bind ?_
    rw [← Array.forIn_toList]
    simp only [List.forIn_nil, List.forIn_cons]
    refine wpAny_bind (wpAny_bind (wpAny_holding (wpAny_bind (RZ.nextOf_tuple_item (a1.extBut hsa.extBut D.i1z) (t1.extBut hsa.extBut D.l1z) ex fun hb b1 hsb => wpAny_pure (wpAny_pure ?_)))))
    refine wpAny_bind (wpAny_bind (wpAny_holding (wpAny_bind (RZ.nextOf_tuple_item ((a2.extBut hsa.extBut D.i2z).extBut hsb.extBut D.i12.symm) ((t2.extBut hsa.extBut D.l2z).extBut hsb.extBut D.l2i1) ey fun hc c2 hsc => wpAny_pure (wpAny_pure ?_)))))
    refine wpAny_pure ?_
    show wpAny _ _ (newTuple [x, y] >>= _) _ _ _
    refine wpAny_bind (wpAny_newTuple ?_)
    have size3 : hc.objs.size = s.heap.objs.size := (hsc.1.trans hsb.1).trans hsa.1
    have stays : ∀ b o, b ≠ z → b ≠ i1 → b ≠ i2 → s.heap.get? b = some o → hc.get? b = some o := fun b o n1 n2 n3 e => hsc.extBut b o n3 (hsb.extBut b o n2 (hsa.extBut b o n1 e))
    have pz : IsZipHeld hc z TI TO T true := hsc.extBut z _ D.i2z.symm (hsb.extBut z _ D.i1z.symm hza)
    refine wpAny_pure ⟨_, rfl, ?_⟩
    have fresh : IsPair (hc.push { cls := .type "tuple", data := .seq #[x, y] }) hc.objs.size x y := Heap.get?_push_size _ rfl
    have one : (hc.push { cls := .type "tuple", data := .seq #[x, y] }).objs.size = hc.objs.size + 1 := Heap.size_push ..
    show Q (some (.ref hc.objs.size)) _
    rw [size3] at fresh one ⊢
    exact q _ (Heap.get?_push_of_some _ pz) ((b1.extBut hsc.extBut D.i12).at fun o e => Heap.get?_push_of_some _ e) (c2.at fun o e => Heap.get?_push_of_some _ e) fresh one fun b o n1 n2 n3 e => Heap.get?_push_of_some _ (stays b o n1 n2 n3 e)
  unfold pyNext
  refine wpAny_bind (wpAny_attempt (wpAny_callSpecial?_slot (name := Str.ofString "__next__") isZip F.slot_zip_next (wpAny_call_entry F.slot_zip_next isZip F.entry_zip_next ?_ (F.args_zip_next_1 _))))
  exact wpAny_mono (body _ _) (fun fin s' ⟨v, e, h⟩ => ⟨v, e, wpAny_pure h⟩) fun _ _ h => h
theorem zt_end {k1 : Nat} {Q : Option Value → Shared → Prop} (hh : A.handled = none) (D : ZipApart z TI TO i1 i2 l1 l2) (hz : IsZipHeld s.heap z TI TO T f) (hT : s.heap.get? T = some oT) (hTI : IsPair s.heap TI (.ref i1) (.ref i2))
    (a1 : s.heap.IsTupleIter i1 l1 k1) (t1 : s.heap.IsTuple l1 xs) (ex : xs[k1]? = none)
    (q : ∀ h', (∀ b o, b ≠ z → b ≠ i1 → b ≠ i2 → s.heap.get? b = some o → h'.get? b = some o) → Q none { s with heap := h' }) : wpAny (model prog w) A (pyNext (.ref z)) Q E s := by
  have isZip : s.TypeIs (.ref z) "zip" := ⟨_, hz, rfl⟩
  unfold pyNext
  refine wpAny_bind (wpAny_attempt (wpAny_callSpecial?_slot (name := Str.ofString "__next__") isZip F.slot_zip_next (wpAny_call_entry F.slot_zip_next isZip F.entry_zip_next ?_ (F.args_zip_next_1 _))))
  show wpAny _ _ (field (.ref z) 2 >>= _) _ _ s
  refine wpAny_bind (wpAny_field (i := 2) hz rfl rfl ?_)
  show wpAny _ _ (field (.ref z) 3 >>= _) _ _ s
  refine wpAny_bind (wpAny_field (i := 3) hz rfl rfl (wpAny_bind (wpAny_seqItems hTI rfl ?_)))
  refine wpAny_bind (wpAny_tupleHeld_zip hz hT fun ha hza hsa => ?_)
  rw [if_neg Bool.false_ne_true]
  refine wpAny_bind ?_
  rw [← Array.forIn_toList]
  simp only [List.forIn_nil, List.forIn_cons]
  refine wpAny_bind (wpAny_bind (wpAny_holding (wpAny_bind (RZ.nextOf_tuple_end (s := { s with heap := ha }) hh (a1.extBut hsa.extBut D.i1z) (t1.extBut hsa.extBut D.l1z) ex fun hb e hsb he => ?_))))
  obtain ⟨o, ho, hc⟩ := he
  refine wpAny_bind (wpAny_isInstance (T := "StopIteration") (b := true) ⟨o, ho, hc⟩ isSubtype_stop ?_)
  exact wpAny_pure (q hb fun b o n1 n2 _ e => hsb b o n2 (hsa.extBut b o n1 e))
end
/-! ### a zip as a source of pairs for a list S that is being made -/
structure PSrc (prog : Program) (w : World) (z : Addr) (wr : List Addr) (n : Nat) (pr : Nat → Value × Value) (St : Nat → Addr → Heap → Prop) : Prop where
  type : ∀ i S (s : Shared), St i S s.heap → s.TypeIs (.ref z) "zip"
  self : ∀ (A : Around) (E : Value → Shared → Prop) i S (s : Shared) (Q : Value → Shared → Prop), St i S s.heap → Q (.ref z) s → wpAny (model prog w) A (pyIter (.ref z)) Q E s
  keep : ∀ i S h h', St i S h → (∀ b o, b ≠ S → h.get? b = some o → h'.get? b = some o) → St i S h'
  item : ∀ (A : Around) (E : Value → Shared → Prop) i S (s : Shared) (Q : Option Value → Shared → Prop), i < n → S < s.heap.objs.size → St i S s.heap →
    (∀ h', St (i + 1) S h' → h'.get? s.heap.objs.size = some { cls := .type "tuple", data := .seq #[(pr i).1, (pr i).2] } → h'.objs.size = s.heap.objs.size + 1 → (∀ b o, b ∉ wr → s.heap.get? b = some o → h'.get? b = some o) → Q (some (.ref s.heap.objs.size)) { s with heap := h' }) →
    wpAny (model prog w) A (pyNext (.ref z)) Q E s
  done : ∀ (A : Around) (E : Value → Shared → Prop) S (s : Shared) (Q : Option Value → Shared → Prop), A.handled = none → St n S s.heap → (∀ h', (∀ b o, b ∉ wr → s.heap.get? b = some o → h'.get? b = some o) → Q none { s with heap := h' }) →
    wpAny (model prog w) A (pyNext (.ref z)) Q E s
/-- the pairs that are out -/
structure Outs (pr : Nat → Value × Value) (lo : Addr) (h : Heap) (as : List Addr) : Prop where
  rise : as.Pairwise (· < ·)
  above : ∀ a ∈ as, lo ≤ a
  pairs : ∀ (j : Nat) (a : Addr), as[j]? = some a → h.get? a = some { cls := .type "tuple", data := .seq #[(pr j).1, (pr j).2] }
section
variable {prog : Program} {w : World} {A : Around} {E : Value → Shared → Prop} {s : Shared} {R : Result → Shared → Prop} {z : Addr} {wr : List Addr} {n : Nat} {pr : Nat → Value × Value} {St : Nat → Addr → Heap → Prop}
theorem Outs.lt {lo : Addr} {h : Heap} {as : List Addr} (g : Outs pr lo h as) {a : Addr} (ha : a ∈ as) : a < h.objs.size := by
  obtain ⟨j, hj⟩ := List.mem_iff_getElem?.mp ha
  exact Heap.lt_size (g.pairs j a hj)
theorem zip_loop (W : PSrc prog w z wr n pr St) {S lo : Addr} (hh : A.handled = none) (wlo : ∀ b ∈ wr, b < lo) (Slo : S < lo) (Sw : S ∉ wr) (hn : n ≤ sizeLine) (res : Value) {h0 : Heap}
    (fin : ∀ h' tk acc c as, (∀ b o, b ≠ S → b ∉ wr → h0.get? b = some o → h'.get? b = some o) → h'.get? S = some { cls := .type "list", dict := none, data := .seq acc c, slots := #[] } → as.length = n → Outs pr lo h' as → acc.toList = as.map Value.ref →
      R (.ok (.ret res)) { s with heap := h', toks := tk }) :
    ∀ (m i : Nat) (h : Heap) (tk c : Nat) (acc : Array Value) (as : List Addr), n - i = m → i ≤ n → St i S h → (∀ b o, b ≠ S → b ∉ wr → h0.get? b = some o → h.get? b = some o) → h.get? S = some { cls := .type "list", dict := none, data := .seq acc c, slots := #[] } →
      acc.toList = as.map Value.ref → as.length = i → Outs pr lo h as → lo ≤ h.objs.size → codeAny (model prog w) A (.builtin "list.extend.loop" ⟨[.ref S, .ref z, res], []⟩) R { s with heap := h, toks := tk } := by
  intro m
  induction m with
  | zero =>
    intro i h tk c acc as e1 e2 st kp hS ha hl g hlo
    have ein : i = n := by omega
    subst ein
    refine codeAny_builtin PySem.F.entry_extend_loop ?_
    rw [Around.under_plainId PySem.F.plain_extend_loop _]
    show wpAny _ A.in1 (pyNext (.ref z) >>= _) _ _ _
    refine wpAny_bind (W.done A.in1 _ S { s with heap := h, toks := tk } _ hh st fun h' k => wpAny_pure ?_)
    exact fin h' tk acc c as (fun b o n1 n2 e => k b o n2 (kp b o n1 n2 e)) (k S _ Sw hS) hl ⟨g.rise, g.above, fun j a hj => k a _ (fun q => absurd (wlo a q) (Nat.not_lt.mpr (g.above a (List.mem_of_getElem? hj)))) (g.pairs j a hj)⟩ ha
  | succ m ih =>
    intro i h tk c acc as e1 e2 st kp hS ha hl g hlo
    have lt : i < n := by omega
    have sz : acc.size = i := by rw [← Array.length_toList, ha, List.length_map, hl]
    refine codeAny_builtin PySem.F.entry_extend_loop ?_
    rw [Around.under_plainId PySem.F.plain_extend_loop _]
    show wpAny _ A.in1 (pyNext (.ref z) >>= _) _ _ _
    have Slt : S < h.objs.size := Heap.lt_size hS
    refine wpAny_bind (W.item A.in1 _ i S { s with heap := h, toks := tk } _ lt Slt st fun h' st' tup one k => ?_)
    have hS' : h'.get? S = some { cls := .type "list", dict := none, data := .seq acc c, slots := #[] } := k S _ Sw hS
    have tup' : h'.get? h.objs.size = some { cls := .type "tuple", data := .seq #[(pr i).1, (pr i).2] } := tup
    have one' : h'.objs.size = h.objs.size + 1 := one
    have nS : h.objs.size ≠ S := Nat.ne_of_gt Slt
    have off : ∀ b o, b ≠ S → h'.get? b = some o → (h'.update S (Obj.mapSeq (·.push (Value.ref h.objs.size)))).get? b = some o := fun b o nb e => (Heap.get?_update_other _ _ (Ne.symm nb)).trans e
    show wpAny _ A.in1 (updateSeq S (·.push (Value.ref h.objs.size)) >>= _) _ _ _
    refine wpAny_bind ?_
    refine wpAny_updateSeq hS' rfl (wpAny_pure ⟨plainId_quiet PySem.F.plain_extend_loop _, ?_⟩) (by rw [sz]; omega) (by show (acc.push (Value.ref h.objs.size)).size ≤ sizeLine + 1; rw [Array.size_push, sz]; omega)
    refine ih (i + 1) _ tk _ (acc.push (Value.ref h.objs.size)) (as ++ [h.objs.size]) (by omega) lt (W.keep _ _ _ _ st' off) (fun b o n1 n2 e => off b o n1 (k b o n2 (kp b o n1 n2 e))) (Heap.get?_update_self _ hS' rfl)
      (by rw [Array.toList_push, ha, List.map_append]; rfl) (by rw [List.length_append, hl]; rfl) ⟨?_, ?_, ?_⟩ ?_
    · refine List.pairwise_append.mpr ⟨g.rise, List.pairwise_singleton _ _, ?_⟩
      intro a q b q'
      obtain rfl := List.mem_singleton.mp q'
      exact g.lt q
    · intro a q
      rcases List.mem_append.mp q with q | q
      · exact g.above a q
      · obtain rfl := List.mem_singleton.mp q
        exact hlo
    · intro j b hj
      by_cases jl : j < as.length
      · rw [List.getElem?_append_left jl] at hj
        have ab := g.above b (List.mem_of_getElem? hj)
        exact off b _ (Nat.ne_of_gt (Nat.lt_of_lt_of_le Slo ab)) (k b _ (fun q => absurd (wlo b q) (Nat.not_lt.mpr ab)) (g.pairs j b hj))
      · rw [List.getElem?_append_right (by omega)] at hj
        have j0 : j - as.length = 0 := by
          cases q : j - as.length with
          | zero => rfl
          | succ r => rw [q] at hj; simp at hj
        have ej : j = i := by omega
        rw [j0] at hj
        obtain rfl : h.objs.size = b := Option.some.inj hj
        rw [ej]
        exact off _ _ nS tup'
    · have e : (h'.update S (Obj.mapSeq (·.push (Value.ref h.objs.size)))).get? h.objs.size = _ := off _ _ nS tup'
      exact Nat.le_trans hlo (Nat.le_of_lt (Heap.lt_size e))
theorem nolen_zip : typeLookup (.type "zip") "__len__" = pure none := by rw [typeLookup_type, builtinLookup_eq_fast]; kernel_rfl
theorem nohint_zip : typeLookup (.type "zip") "__length_hint__" = pure none := by rw [typeLookup_type, builtinLookup_eq_fast]; kernel_rfl
/-- the list's end behind the call -/
def ListOut (n : Nat) (pr : Nat → Value × Value) (wr : List Addr) (lo : Addr) (s : Shared) (Q : Value → Shared → Prop) : Prop :=
  ∀ h' tk acc c as, (∀ b o, b ∉ wr → s.heap.get? b = some o → h'.get? b = some o) → h'.get? s.heap.objs.size = some { cls := .type "list", dict := none, data := .seq acc c, slots := #[] } → as.length = n → Outs pr lo h' as → acc.toList = as.map Value.ref →
    Q (.ref s.heap.objs.size) { s with heap := h', toks := tk }
theorem call_list_zip {Q : Value → Shared → Prop} (W : PSrc prog w z wr n pr St) (hh : A.handled = none) (st : ∀ h', (∀ b o, s.heap.get? b = some o → h'.get? b = some o) → St 0 s.heap.objs.size h') (wlt : ∀ b ∈ wr, b < s.heap.objs.size) (zlt : z < s.heap.objs.size) (hn : n ≤ sizeLine)
    (q : ListOut n pr wr (s.heap.objs.size + 1) s Q) : wpAny (model prog w) A (call (.type "list") [.ref z]) Q E s := by
  refine callType_codes (Q₁ := fun obj s' => obj = .ref s.heap.objs.size ∧ s' = { s with heap := s.heap.push { cls := .type "list", data := .seq #[] } }) PySem.F.called_list (PySem.F.typeCall_list_1 _) PySem.F.entry_list_init (code_list_new _ ⟨rfl, rfl⟩) ?_
  rintro obj s' ⟨rfl, rfl⟩
  have at0 : (s.heap.push { cls := .type "list", data := .seq #[] }).get? s.heap.objs.size = some { cls := .type "list", data := .seq #[] } := Heap.get?_push_size _ rfl
  refine ⟨⟨_, at0, rfl⟩, PySem.F.args_list_init_2 _ _, ?_⟩
  show wpAny _ A.in1.in1 (do let old ← Builtin.List.listItems (.ref s.heap.objs.size); Builtin.List.listUpdate (.ref s.heap.objs.size) (fun _ => #[]); letGo old.toList.reverse; Builtin.List.listExtendWith (.ref s.heap.objs.size) (.ref z) .none) _ _ _
  refine wpAny_bind ?_
  unfold Builtin.List.listItems
  refine wpAny_bind (wpAny_seqItems at0 rfl (wpAny_pure ?_))
  show wpAny _ A.in1.in1 (updateSeq s.heap.objs.size (fun _ => #[]) >>= fun _ => letGo (#[] : Array Value).toList.reverse >>= fun _ => Builtin.List.listExtendWith (.ref s.heap.objs.size) (.ref z) .none) _ _ _
  refine wpAny_bind (wpAny_updateSeq at0 rfl (wpAny_bind (wpAny_letGo ?_)))
  have at1 := Heap.get?_update_self (Obj.mapSeq (fun _ => (#[] : Array Value))) at0 rfl
  have k1 : ∀ b o, s.heap.get? b = some o → ((s.heap.push { cls := .type "list", data := .seq #[] }).update s.heap.objs.size (Obj.mapSeq (fun _ => (#[] : Array Value)))).get? b = some o :=
    fun b o e => (Heap.get?_update_other _ _ (Nat.ne_of_gt (Heap.lt_size e))).trans (Heap.get?_push_of_some _ e)
  have st1 := st _ k1
  have zz : (Value.type "zip" == Value.type "list") = false := by decide
  have zt : (Value.type "zip" == Value.type "tuple") = false := by decide
  have nsame : Builtin.List.listSameRef (.ref s.heap.objs.size) (.ref z) = false := by simp [Builtin.List.listSameRef, Nat.ne_of_gt zlt]
  unfold Builtin.List.listExtendWith
  refine wpAny_bind (wpAny_typeOf (W.type 0 _ { s with heap := (s.heap.push { cls := .type "list", data := .seq #[] }).update s.heap.objs.size (Obj.mapSeq (fun _ => (#[] : Array Value))) } st1) ?_)
  simp only [nsame, zz, zt, Bool.or_false, Bool.false_eq_true, if_false]
  refine wpAny_bind (W.self _ _ 0 _ _ _ st1 (wpAny_bind (wpAny_holding ?_)))
  have isz := W.type 0 _ { s with heap := (s.heap.push { cls := .type "list", data := .seq #[] }).update s.heap.objs.size (Obj.mapSeq (fun _ => (#[] : Array Value))) } st1
  unfold Builtin.List.listLengthHint
  refine wpAny_bind (wpAny_specialOf isz nolen_zip ?_)
  show wpAny _ A.in1.in1 (specialOf (Value.ref z) (Str.ofString "__length_hint__") >>= _) _ _ _
  refine wpAny_bind (wpAny_specialOf isz nohint_zip (wpAny_pure ?_))
  show wpAny _ A.in1.in1 (rule "list.extend.makes-room" >>= fun _ => Builtin.List.listTouch (.ref s.heap.objs.size) >>= fun _ => again (.builtin "list.extend.loop" ⟨[.ref s.heap.objs.size, .ref z, .none], []⟩)) _ _ _
  refine wpAny_bind (wpAny_rule (wpAny_bind ?_))
  show wpAny _ A.in1.in1 (updateSeq s.heap.objs.size (·.push .none) >>= fun _ => updateSeq s.heap.objs.size (·.pop)) _ _ _
  refine wpAny_bind (wpAny_updateSeq at1 rfl ?_)
  have at2 := Heap.get?_update_self (Obj.mapSeq (·.push Value.none)) at1 rfl
  refine wpAny_updateSeq (hz := by seq_fits) at2 rfl ?_
  have at3 := Heap.get?_update_self (Obj.mapSeq (·.pop)) at2 rfl
  have k3 : ∀ b o, s.heap.get? b = some o → ((((s.heap.push { cls := .type "list", data := .seq #[] }).update s.heap.objs.size (Obj.mapSeq (fun _ => (#[] : Array Value)))).update s.heap.objs.size (Obj.mapSeq (·.push Value.none))).update s.heap.objs.size (Obj.mapSeq (·.pop))).get? b = some o := by
    intro b o e
    have nb := Nat.ne_of_gt (Heap.lt_size e)
    exact (Heap.get?_update_other _ _ nb).trans ((Heap.get?_update_other _ _ nb).trans (k1 b o e))
  have big : s.heap.objs.size + 1 ≤ ((((s.heap.push { cls := .type "list", data := .seq #[] }).update s.heap.objs.size (Obj.mapSeq (fun _ => (#[] : Array Value)))).update s.heap.objs.size (Obj.mapSeq (·.push Value.none))).update s.heap.objs.size (Obj.mapSeq (·.pop))).objs.size := Heap.lt_size at3
  refine wpAny_pure ⟨plainId_quiet F.plain_extend_loop _, ?_⟩
  refine zip_loop (s := s) (A := A.in1) W (S := s.heap.objs.size) (lo := s.heap.objs.size + 1) (h0 := s.heap) hh (fun b q => Nat.lt_succ_of_lt (wlt b q)) (Nat.lt_succ_self _) (fun q => absurd (wlt _ q) (Nat.lt_irrefl _)) hn .none ?_ n 0 _ s.toks _ #[] [] rfl (Nat.zero_le _) (st _ k3) (fun b o _ _ e => k3 b o e) at3 rfl rfl ⟨List.Pairwise.nil, fun _ q => (nomatch q), fun j a q => by simp at q⟩ big
  intro h' tk acc c as kp hS hl g ha
  exact ⟨rfl, q h' tk acc c as (fun b o n2 e => kp b o (Nat.ne_of_lt (Heap.lt_size e)) n2 e) hS hl g ha⟩
end

theorem psrc_lists {prog : Program} {w : World} {z TI TO i1 i2 l1 l2 : Addr} (D : ZipApart z TI TO i1 i2 l1 l2) (xs ys : Array Value) (hn : xs.size = ys.size) : PSrc prog w z [z, TO, i1, i2] xs.size (fun i => (xs.getD i .none, ys.getD i .none))
    (fun i S h => IsPair h TI (.ref i1) (.ref i2) ∧ h.IsListIter i1 l1 i ∧ h.IsListIter i2 l2 i ∧ h.IsList l1 xs ∧ h.IsList l2 ys ∧ (S ≠ z ∧ S ≠ TI ∧ S ≠ TO ∧ S ≠ i1 ∧ S ≠ i2 ∧ S ≠ l1 ∧ S ≠ l2) ∧
      ((IsZip h z TI TO .none ∧ ∃ a b, IsPair h TO a b) ∨ ∃ T f oT, IsZipHeld h z TI TO T f ∧ h.get? T = some oT ∧ T ≠ z ∧ T ≠ i1 ∧ T ≠ i2 ∧ T ≠ S)) where
  type := by
    rintro i S s ⟨_, _, _, _, _, _, ⟨hz, _⟩ | ⟨T, f, oT, hz, _⟩⟩
    · exact ⟨_, hz, rfl⟩
    · exact ⟨_, hz, rfl⟩
  self := by
    rintro A E i S s Q ⟨_, _, _, _, _, _, ⟨hz, _⟩ | ⟨T, f, oT, hz, _⟩⟩ q
    · exact wpAny_pyIter_zip hz q
    · have isz : s.TypeIs (.ref z) "zip" := ⟨_, hz, rfl⟩
      exact wpAny_pyIter_slot isz F.slot_zip_iter (wpAny_call_entry F.slot_zip_iter isz F.entry_zip_iter (wpAny_pure ⟨_, rfl, "zip", _, isz, F.slot_zip_next.lookup, q⟩) (F.args_zip_iter_1 _))
  keep := by
    rintro i S h h' ⟨p, a1, a2, t1, t2, ⟨n1, n2, n3, n4, n5, n6, n7⟩, hz⟩ k
    refine ⟨k _ _ n2.symm p, a1.at fun o e => k _ o n4.symm e, a2.at fun o e => k _ o n5.symm e, t1.at fun o e => k _ o n6.symm e, t2.at fun o e => k _ o n7.symm e, ⟨n1, n2, n3, n4, n5, n6, n7⟩, ?_⟩
    rcases hz with ⟨hz, a, b, ho⟩ | ⟨T, f, oT, hz, hT, r1, r2, r3, r4⟩
    · exact .inl ⟨k _ _ n1.symm hz, a, b, k _ _ n3.symm ho⟩
    · exact .inr ⟨T, f, oT, k _ _ n1.symm hz, k _ _ r4 hT, r1, r2, r3, r4⟩
  item := by
    rintro A E i S s Q lt Slt ⟨p, a1, a2, t1, t2, ns, hz⟩ q
    have ex : xs[i]? = some (xs.getD i .none) := by simp [Array.getD, lt]
    have ey : ys[i]? = some (ys.getD i .none) := by
      have : i < ys.size := by omega
      simp [Array.getD, this]
    have new : ∀ {b o}, s.heap.get? b = some o → s.heap.objs.size ≠ b := fun e => Nat.ne_of_gt (Heap.lt_size e)
    have ni1 : s.heap.objs.size ≠ i1 := let ⟨_, e, _⟩ := a1; new e
    have ni2 : s.heap.objs.size ≠ i2 := let ⟨_, e, _⟩ := a2; new e
    rcases hz with ⟨hz, a, b, ho⟩ | ⟨T, f, oT, hz, hT, r1, r2, r3, r4⟩
    · refine wpAny_pyNext_zip_item D hz p ho a1 a2 t1 t2 ex ey fun h' c1 c2 c3 c4 c5 c6 k => ?_
      refine q h' ⟨k _ _ D.TIz D.TITO D.TIi1 D.TIi2 p, c3, c4, t1.at fun o e => k _ o D.l1z D.l1TO D.l1i1 D.l1i2 e, t2.at fun o e => k _ o D.l2z D.l2TO D.l2i1 D.l2i2 e, ns, .inr ⟨s.heap.objs.size, false, _, c1, c5, new hz, ni1, ni2, Nat.ne_of_gt Slt⟩⟩ c5 c6 fun b o nb e => ?_
      simp only [List.mem_cons, List.not_mem_nil, or_false, not_or] at nb
      exact k b o nb.1 nb.2.1 nb.2.2.1 nb.2.2.2 e
    · refine wpAny_pyNext_zip_item_held D hz hT p a1 a2 t1 t2 ex ey fun h' c1 c3 c4 c5 c6 k => ?_
      refine q h' ⟨k _ _ D.TIz D.TIi1 D.TIi2 p, c3, c4, t1.at fun o e => k _ o D.l1z D.l1i1 D.l1i2 e, t2.at fun o e => k _ o D.l2z D.l2i1 D.l2i2 e, ns, .inr ⟨T, true, oT, c1, k _ _ r1 r2 r3 hT, r1, r2, r3, r4⟩⟩ c5 c6 fun b o nb e => ?_
      simp only [List.mem_cons, List.not_mem_nil, or_false, not_or] at nb
      exact k b o nb.1 nb.2.2.1 nb.2.2.2 e
  done := by
    rintro A E S s Q hh ⟨p, a1, a2, t1, t2, ns, hz⟩ q
    have ex : xs[xs.size]? = none := by simp
    rcases hz with ⟨hz, a, b, ho⟩ | ⟨T, f, oT, hz, hT, r1, r2, r3, r4⟩
    · refine wpAny_pyNext_zip_end hh D hz p ho a1 a2 t1 t2 (.inl ex) fun h' k => q h' fun b o nb e => ?_
      simp only [List.mem_cons, List.not_mem_nil, or_false, not_or] at nb
      exact k b o nb.1 nb.2.1 nb.2.2.1 nb.2.2.2 e
    · refine wpAny_pyNext_zip_end_held hh D hz hT p a1 a2 t1 t2 (.inl ex) fun h' k => q h' fun b o nb e => ?_
      simp only [List.mem_cons, List.not_mem_nil, or_false, not_or] at nb
      exact k b o nb.1 nb.2.2.1 nb.2.2.2 e

theorem psrc_tuples {prog : Program} {w : World} {z TI TO i1 i2 l1 l2 : Addr} (D : ZipApart z TI TO i1 i2 l1 l2) (xs ys : Array Value) (hn : xs.size = ys.size) : PSrc prog w z [z, TO, i1, i2] xs.size (fun i => (xs.getD i .none, ys.getD i .none))
    (fun i S h => IsPair h TI (.ref i1) (.ref i2) ∧ h.IsTupleIter i1 l1 i ∧ h.IsTupleIter i2 l2 i ∧ h.IsTuple l1 xs ∧ h.IsTuple l2 ys ∧ (S ≠ z ∧ S ≠ TI ∧ S ≠ TO ∧ S ≠ i1 ∧ S ≠ i2 ∧ S ≠ l1 ∧ S ≠ l2) ∧
      ((IsZip h z TI TO .none ∧ ∃ a b, IsPair h TO a b) ∨ ∃ T f oT, IsZipHeld h z TI TO T f ∧ h.get? T = some oT ∧ T ≠ z ∧ T ≠ i1 ∧ T ≠ i2 ∧ T ≠ S)) where
  type := by
    rintro i S s ⟨_, _, _, _, _, _, ⟨hz, _⟩ | ⟨T, f, oT, hz, _⟩⟩
    · exact ⟨_, hz, rfl⟩
    · exact ⟨_, hz, rfl⟩
  self := by
    rintro A E i S s Q ⟨_, _, _, _, _, _, ⟨hz, _⟩ | ⟨T, f, oT, hz, _⟩⟩ q
    · exact wpAny_pyIter_zip hz q
    · have isz : s.TypeIs (.ref z) "zip" := ⟨_, hz, rfl⟩
      exact wpAny_pyIter_slot isz F.slot_zip_iter (wpAny_call_entry F.slot_zip_iter isz F.entry_zip_iter (wpAny_pure ⟨_, rfl, "zip", _, isz, F.slot_zip_next.lookup, q⟩) (F.args_zip_iter_1 _))
  keep := by
    rintro i S h h' ⟨p, a1, a2, t1, t2, ⟨n1, n2, n3, n4, n5, n6, n7⟩, hz⟩ k
    refine ⟨k _ _ n2.symm p, a1.at fun o e => k _ o n4.symm e, a2.at fun o e => k _ o n5.symm e, t1.at fun o e => k _ o n6.symm e, t2.at fun o e => k _ o n7.symm e, ⟨n1, n2, n3, n4, n5, n6, n7⟩, ?_⟩
    rcases hz with ⟨hz, a, b, ho⟩ | ⟨T, f, oT, hz, hT, r1, r2, r3, r4⟩
    · exact .inl ⟨k _ _ n1.symm hz, a, b, k _ _ n3.symm ho⟩
    · exact .inr ⟨T, f, oT, k _ _ n1.symm hz, k _ _ r4 hT, r1, r2, r3, r4⟩
  item := by
    rintro A E i S s Q lt Slt ⟨p, a1, a2, t1, t2, ns, hz⟩ q
    have ex : xs[i]? = some (xs.getD i .none) := by simp [Array.getD, lt]
    have ey : ys[i]? = some (ys.getD i .none) := by
      have : i < ys.size := by omega
      simp [Array.getD, this]
    have new : ∀ {b o}, s.heap.get? b = some o → s.heap.objs.size ≠ b := fun e => Nat.ne_of_gt (Heap.lt_size e)
    have ni1 : s.heap.objs.size ≠ i1 := let ⟨_, e, _⟩ := a1; new e
    have ni2 : s.heap.objs.size ≠ i2 := let ⟨_, e, _⟩ := a2; new e
    rcases hz with ⟨hz, a, b, ho⟩ | ⟨T, f, oT, hz, hT, r1, r2, r3, r4⟩
    · refine RZ.pyNext_zipT_item D hz p ho a1 a2 t1 t2 ex ey fun h' c1 c2 c3 c4 c5 c6 k => ?_
      refine q h' ⟨k _ _ D.TIz D.TITO D.TIi1 D.TIi2 p, c3, c4, t1.at fun o e => k _ o D.l1z D.l1TO D.l1i1 D.l1i2 e, t2.at fun o e => k _ o D.l2z D.l2TO D.l2i1 D.l2i2 e, ns, .inr ⟨s.heap.objs.size, false, _, c1, c5, new hz, ni1, ni2, Nat.ne_of_gt Slt⟩⟩ c5 c6 fun b o nb e => ?_
      simp only [List.mem_cons, List.not_mem_nil, or_false, not_or] at nb
      exact k b o nb.1 nb.2.1 nb.2.2.1 nb.2.2.2 e
    · refine zt_item D hz hT p a1 a2 t1 t2 ex ey fun h' c1 c3 c4 c5 c6 k => ?_
      refine q h' ⟨k _ _ D.TIz D.TIi1 D.TIi2 p, c3, c4, t1.at fun o e => k _ o D.l1z D.l1i1 D.l1i2 e, t2.at fun o e => k _ o D.l2z D.l2i1 D.l2i2 e, ns, .inr ⟨T, true, oT, c1, k _ _ r1 r2 r3 hT, r1, r2, r3, r4⟩⟩ c5 c6 fun b o nb e => ?_
      simp only [List.mem_cons, List.not_mem_nil, or_false, not_or] at nb
      exact k b o nb.1 nb.2.2.1 nb.2.2.2 e
  done := by
    rintro A E S s Q hh ⟨p, a1, a2, t1, t2, ns, hz⟩ q
    have ex : xs[xs.size]? = none := by simp
    rcases hz with ⟨hz, a, b, ho⟩ | ⟨T, f, oT, hz, hT, r1, r2, r3, r4⟩
    · refine RZ.pyNext_zipT_end hh D hz p ho a1 a2 t1 t2 (.inl ex) fun h' k => q h' fun b o nb e => ?_
      simp only [List.mem_cons, List.not_mem_nil, or_false, not_or] at nb
      exact k b o nb.1 nb.2.1 nb.2.2.1 nb.2.2.2 e
    · refine zt_end hh D hz hT p a1 t1 ex fun h' k => q h' fun b o nb e => ?_
      simp only [List.mem_cons, List.not_mem_nil, or_false, not_or] at nb
      exact k b o nb.1 nb.2.2.1 nb.2.2.2 e

/-! ### the rule -/
def putP : Hp → List Addr → List (V × V) → Hp
  | H, a :: as, p :: ps => putP (upd H a (.tup [p.1, p.2])) as ps
  | H, _, _ => H
theorem putP_off {b : Addr} : ∀ (as : List Addr) (ps : List (V × V)) (H : Hp), b ∉ as → putP H as ps b = H b
  | [], _, _, _ => rfl
  | _ :: _, [], _, _ => rfl
  | a :: as, p :: ps, H, h => by
    have h1 : b ∉ as := fun q => h (List.mem_cons_of_mem _ q)
    have h2 : b ≠ a := fun q => h (by rw [q]; exact List.mem_cons_self)
    show putP (upd H a (.tup [p.1, p.2])) as ps b = H b
    rw [putP_off as ps _ h1, upd_ne h2]
theorem putP_at : ∀ (as : List Addr) (ps : List (V × V)) (H : Hp), as.length = ps.length → as.Nodup → Paired (fun (t : Addr) (p : V × V) => putP H as ps t = some (.tup [p.1, p.2])) as ps
  | [], [], _, _, _ => .nil
  | [], _ :: _, _, h, _ => by cases h
  | _ :: _, [], _, h, _ => by cases h
  | a :: as, p :: ps, H, h, hn => by
    obtain ⟨n1, n2⟩ := List.nodup_cons.mp hn
    refine .cons ?_ (putP_at as ps (upd H a (.tup [p.1, p.2])) (Nat.succ.inj h) n2)
    show putP (upd H a (.tup [p.1, p.2])) as ps a = some (.tup [p.1, p.2])
    rw [putP_off as ps _ n1, upd_same]
/-- behind list(zip(..)): a new list of new pairs -/
def ZipEnd (H : Hp) (Q : VK) (xs ys : List V) : Prop := ∀ (H' : Hp) (l : Addr) (ts : List Addr), Same H H' → H l = none → H' l = some (.lst (ts.map V.ref)) → Paired (fun (t : Addr) (p : V × V) => H' t = some (.tup [p.1, p.2])) ts (xs.zip ys) → Q (.ref l) H'
section
variable {X : Cx} {pins : List (Addr × Obj)} {σ : L2.St} {H : Hp} {s : Shared} {xs ys : List V} {us vs : List Value}
theorem na_not {L : Nat} (h : L + 1 ≤ L) : False := by omega
theorem na_le {n L t : Nat} (h : n ≤ L) (g : L + 1 ≤ t) : n ≤ t := by omega
theorem na_ne {b n L : Nat} (h : b < n) (g : n ≤ L) : b ≠ L := by omega
theorem na_out {b n L : Nat} (h : b < n) (g : n ≤ L) (q : L + 1 ≤ b) : False := by omega
theorem na_ns {n a b : Nat} (la : a < n) (lb : b < n) : n + 5 ≠ n + 4 ∧ n + 5 ≠ n + 2 ∧ n + 5 ≠ n + 3 ∧ n + 5 ≠ n ∧ n + 5 ≠ n + 1 ∧ n + 5 ≠ a ∧ n + 5 ≠ b := by omega
theorem na_wr {n b : Nat} (h : b = n + 4 ∨ b = n + 3 ∨ b = n ∨ b = n + 1) : b < n + 5 := by omega
theorem na_old {n b : Nat} (h : b < n) (q : b = n + 4 ∨ b = n + 3 ∨ b = n ∨ b = n + 1) : False := by omega
theorem getD_of {us : List Value} {j : Nat} {u : Value} (h : us[j]? = some u) : us.toArray.getD j .none = u := by
  obtain ⟨h1, h2⟩ := List.getElem?_eq_some_iff.mp h
  simp [Array.getD, h1, h2]
theorem zip_laid (I : Inv X pins σ H s) (rx : Vals xs us) (ry : Vals ys vs) {h2 : Heap} {tk c L : Nat} {acc : Array Value} {as : List Addr} (k : ∀ b o, s.heap.get? b = some o → h2.get? b = some o) (hL : s.heap.objs.size ≤ L)
    (hS : h2.get? L = some { cls := .type "list", dict := none, data := .seq acc c, slots := #[] }) (hn : as.length = (xs.zip ys).length) (hz : as.length ≤ sizeLine) (g : Outs (fun i => (us.toArray.getD i .none, vs.toArray.getD i .none)) (L + 1) h2 as) (ha : acc.toList = as.map Value.ref) :
    ∃ H' : Hp, Same H H' ∧ H L = none ∧ H' L = some (.lst (as.map V.ref)) ∧ Paired (fun (t : Addr) (p : V × V) => H' t = some (.tup [p.1, p.2])) as (xs.zip ys) ∧ Inv X pins σ H' { s with heap := h2, toks := tk } := by
  have nL : L ∉ as := fun q => na_not (g.above L q)
  have nd : as.Nodup := List.Pairwise.imp (fun {a b} (h : a < b) => Nat.ne_of_lt h) g.rise
  have newT : ∀ t ∈ as, H t = none := fun t q => I.hok.fresh (na_le hL (g.above t q))
  have newL : H L = none := I.hok.fresh hL
  have tups := putP_at as (xs.zip ys) (upd H L (.lst (as.map V.ref))) hn nd
  have off : ∀ b, b ∉ as → b ≠ L → putP (upd H L (.lst (as.map V.ref))) as (xs.zip ys) b = H b := fun b q1 q2 => by rw [putP_off as _ _ q1, upd_ne q2]
  have low : ∀ b o, s.heap.get? b = some o → b ∉ as ∧ b ≠ L := fun b o e => by
    have lt := Heap.lt_size e
    exact ⟨fun q => na_out lt hL (g.above b q), na_ne lt hL⟩
  have kp : Same H (putP (upd H L (.lst (as.map V.ref))) as (xs.zip ys)) := fun b u e => by
    rw [off b (fun q => by rw [newT b q] at e; cases e) (fun q => by rw [q, newL] at e; cases e)]
    exact e
  have atL : putP (upd H L (.lst (as.map V.ref))) as (xs.zip ys) L = some (.lst (as.map V.ref)) := by rw [putP_off as _ _ nL, upd_same]
  refine ⟨_, kp, newL, atL, tups, ?_⟩
  have un : Un (frs X.stack) [] H (putP (upd H L (.lst (as.map V.ref))) as (xs.zip ys)) s.heap h2 := by
    refine ⟨fun b o e _ _ _ => k b o e, fun b o e _ _ _ => ⟨o.slots, k b o e⟩, fun b o e n _ => ?_, fun b o e _ => ⟨o, k b o e⟩, fun b zs e => kp b _ e, fun b o u e => kp b _ e, fun b ps e => ⟨#[], ?_⟩⟩
    · obtain ⟨q1, q2⟩ := low b o e
      rw [off b q1 q2]
      exact n
    · rw [kp b _ e]
      simp
  refine I.call' (ch := []) rfl un (fun b u e => ?_) I.bare fun b q => nomatch q
  by_cases hb : b ∈ as
  · obtain ⟨j, p, e1, e2, e3⟩ := LiI.paired_ix tups hb
    rw [e3] at e
    cases e
    obtain ⟨x1, y1⟩ := List.getElem?_zip_eq_some.mp e2
    obtain ⟨u, eu, ru⟩ := Vals.get rx x1
    obtain ⟨v, ev, rv⟩ := Vals.get ry y1
    have t := g.pairs j b e1
    rw [getD_of eu, getD_of ev] at t
    exact ⟨by show 2 ≤ sizeLine; decide, [u, v], .cons ru (.cons rv .nil), ⟨_, t, rfl, _, rfl⟩⟩
  · by_cases hb2 : b = L
    · rw [hb2] at e ⊢
      rw [atL] at e
      cases e
      refine ⟨by rw [List.length_map]; exact hz, acc.toList, c, by rw [ha]; exact LiI.vals_refs as, ?_⟩
      rw [Array.toArray_toList]
      exact hS
    · rw [off b hb hb2] at e
      exact (I.hok b u e).stay (fun d w _ q => k d w q) (fun d q => kp d _ q) fun d zs q => kp d _ q
def tListZip (K : PySem.W.Frag) (ta : TA) : TE := fun σ H Q => ta σ H fun vs H1 => ∃ (a b : Addr) (xs ys : List V), vs = [.ref a, .ref b] ∧ ((SqL K H1 a xs ∧ SqL K H1 b ys) ∨ (SqT K H1 a xs ∧ SqT K H1 b ys)) ∧ xs.length = ys.length ∧ ZipEnd H1 Q xs ys
theorem pe_listZip {e e2 : Expr} {ta : TA} {p p2 pos pos2 : Pos} (hg : Gl X "list") (hm : X.mg "list" = none) (hgz : Gl X "zip") (hmz : X.mg "zip" = none) (hc : X.calm = true) (hp : PA X [e, e2] ta)
    (hs : starEach [.Call (.Name "zip" p2) [e, e2] [] pos2] X.env = (false, eval (.Call (.Name "zip" p2) [e, e2] [] pos2) X.env) :: starEach [] X.env := by rfl) (hpl : (backTo pos (starEach [] X.env)).any (·.1) = false := by rfl)
    (hs2 : starEach [e, e2] X.env = (false, eval e X.env) :: starEach [e2] X.env := by rfl) (hpl2 : (backTo pos2 (starEach [e2] X.env)).any (·.1) = false := by rfl) :
    PE X (.Call (.Name "list" p) [.Call (.Name "zip" p2) [e, e2] [] pos2] [] pos) (tListZip X.K ta) := by
  refine ⟨fun pins s σ H Q I h => ?_⟩
  refine Call_ (ld_blt I hg hm (show bootBuiltins "list" = some (Value.type "list") by decide +kernel) (PyProof.Rows.callWith_type1 ?_ hs hpl))
  rw [hs]
  show wpAny _ _ (spliced ((false, eval (.Call (.Name "zip" p2) [e, e2] [] pos2) X.env) :: backTo pos (starEach [] X.env))) _ _ s
  refine Calls.spliced_cons ?_
  refine Call_ (ld_blt I hgz hmz PyProof.Rows.boot_zip (PyProof.Rows.callWith_type1 (thn (hp.run pos2 pins s σ H _ I h) fun us s1 ⟨vs, H1, I1, r1, q1⟩ => ?_) hs2 hpl2))
  obtain ⟨a, b, xs, ys, ex, hq, hl, q⟩ := q1
  subst ex
  cases r1 with
  | cons r rr =>
    cases rr with
    | cons r' rr =>
      cases rr
      cases r
      cases r'
      rcases hq with ⟨hx, hy⟩ | ⟨hx, hy⟩
      · obtain ⟨ia, rv, p1, z1⟩ := I1.list hx
        obtain ⟨ib, rw', p3, _⟩ := I1.list hy
        have eq : ia.toArray.size = ib.toArray.size := by simp only [List.size_toArray]; rw [← rv.length, ← rw'.length]; exact hl
        refine call_zip_2 p1.isList p3.isList fun h' hz hTI hTO h1 h2 hsz hk => Calls.spliced_nil ?_
        refine call_list_zip (s := { s1 with heap := h' }) (psrc_lists (PySem.W.ktu_apart s1.heap.objs.size a b p1.lt p3.lt) ia.toArray ib.toArray eq) (I1.ok.hd hc) ?_ ?_ ?_ ?_ ?_
        · intro h2' k
          have la := p1.lt
          have lb := p3.lt
          refine ⟨k _ _ hTI, h1.at fun o e => k _ o e, h2.at fun o e => k _ o e, p1.isList.at fun o e => k _ o (hk _ o e), p3.isList.at fun o e => k _ o (hk _ o e), ?_, .inl ⟨k _ _ hz, _, _, k _ _ hTO⟩⟩
          show h'.objs.size ≠ _ ∧ h'.objs.size ≠ _ ∧ h'.objs.size ≠ _ ∧ h'.objs.size ≠ _ ∧ h'.objs.size ≠ _ ∧ h'.objs.size ≠ _ ∧ h'.objs.size ≠ _
          rw [hsz]
          exact na_ns la lb
        · intro b' hb'
          show b' < h'.objs.size
          rw [hsz]
          simp only [List.mem_cons, List.not_mem_nil, or_false] at hb'
          exact na_wr hb'
        · show s1.heap.objs.size + 4 < h'.objs.size
          rw [hsz]
          exact Nat.lt_succ_self _
        · rw [List.size_toArray, ← rv.length]
          exact z1
        · intro h3 tk acc c as kp hS hlen g ha
          have kk : ∀ b' o, s1.heap.get? b' = some o → h3.get? b' = some o := fun b' o e => kp b' o (fun z => by
            have := Heap.lt_size e
            simp only [List.mem_cons, List.not_mem_nil, or_false] at z
            exact na_old this z) (hk b' o e)
          have lz : (xs.zip ys).length = xs.length := by rw [List.length_zip]; omega
          have la : as.length = xs.length := by rw [hlen, List.size_toArray, ← rv.length]
          obtain ⟨H', c1, c2, c3, c4, J⟩ := zip_laid (tk := tk) I1 rv rw' kk (show s1.heap.objs.size ≤ h'.objs.size by rw [hsz]; exact Nat.le_add_right _ _) hS (by omega) (by omega) g ha
          exact ⟨.ref h'.objs.size, H', J, rfl, q H' _ as c1 c2 c3 c4⟩
      · obtain ⟨ia, rv, p1, z1⟩ := I1.tuple hx
        obtain ⟨ib, rw', p3, _⟩ := I1.tuple hy
        have eq : ia.toArray.size = ib.toArray.size := by simp only [List.size_toArray]; rw [← rv.length, ← rw'.length]; exact hl
        refine RZ.call_zipT p1 p3 fun h' hz hTI hTO h1 h2 hsz hk => Calls.spliced_nil ?_
        refine call_list_zip (s := { s1 with heap := h' }) (psrc_tuples (PySem.W.ktu_apart s1.heap.objs.size a b p1.lt p3.lt) ia.toArray ib.toArray eq) (I1.ok.hd hc) ?_ ?_ ?_ ?_ ?_
        · intro h2' k
          have la := p1.lt
          have lb := p3.lt
          refine ⟨k _ _ hTI, h1.at fun o e => k _ o e, h2.at fun o e => k _ o e, Heap.IsTuple.at p1 fun o e => k _ o (hk _ o e), Heap.IsTuple.at p3 fun o e => k _ o (hk _ o e), ?_, .inl ⟨k _ _ hz, _, _, k _ _ hTO⟩⟩
          show h'.objs.size ≠ _ ∧ h'.objs.size ≠ _ ∧ h'.objs.size ≠ _ ∧ h'.objs.size ≠ _ ∧ h'.objs.size ≠ _ ∧ h'.objs.size ≠ _ ∧ h'.objs.size ≠ _
          rw [hsz]
          exact na_ns la lb
        · intro b' hb'
          show b' < h'.objs.size
          rw [hsz]
          simp only [List.mem_cons, List.not_mem_nil, or_false] at hb'
          exact na_wr hb'
        · show s1.heap.objs.size + 4 < h'.objs.size
          rw [hsz]
          exact Nat.lt_succ_self _
        · rw [List.size_toArray, ← rv.length]
          exact z1
        · intro h3 tk acc c as kp hS hlen g ha
          have kk : ∀ b' o, s1.heap.get? b' = some o → h3.get? b' = some o := fun b' o e => kp b' o (fun z => by
            have := Heap.lt_size e
            simp only [List.mem_cons, List.not_mem_nil, or_false] at z
            exact na_old this z) (hk b' o e)
          have lz : (xs.zip ys).length = xs.length := by rw [List.length_zip]; omega
          have la : as.length = xs.length := by rw [hlen, List.size_toArray, ← rv.length]
          obtain ⟨H', c1, c2, c3, c4, J⟩ := zip_laid (tk := tk) I1 rv rw' kk (show s1.heap.objs.size ≤ h'.objs.size by rw [hsz]; exact Nat.le_add_right _ _) hS (by omega) (by omega) g ha
          exact ⟨.ref h'.objs.size, H', J, rfl, q H' _ as c1 c2 c3 c4⟩
end
end L3

/-! dicts of kinds that are equal -/
namespace L3
open PySem PySem.Spec PyProof.Rows L2
section
variable {X : Cx} {pins : List (Addr × Obj)} {σ : L2.St} {H : Hp} {s : Shared}
theorem opR_or {f : Value → Value → Sem Value} {r r' : R2} (h : OpR X f r) (h' : OpR X f r') : OpR X f (fun x y H Q => r x y H Q ∨ r' x y H Q) := by
  intro pins s σ H x y v u Q I rx ry q
  rcases q with q | q
  · exact h pins s σ H x y v u Q I rx ry q
  · exact h' pins s σ H x y v u Q I rx ry q
theorem kv_hits (I : Inv X pins σ H s) {A : Around} (hu : A.units + 64 < cLine) {ls : List (Key × V)} {b2 : By} {vb : List (Key × Value)} (rb : KV ls vb) (k2 : ByAt H ls b2) (f2 : ∀ q ∈ b2, q.2.fit 60) :
    ∀ {ks : List (Key × V)} {b1 : By} {va : List (Key × Value)}, KV ks va → ByAt H ks b1 → (∀ q ∈ b1, q.2.fit 60 ∧ lk b2 q.1 = some q.2) → PySem.W.KeqHits A s vb va true
  | _, _, _, .nil, .nil, _ => .nil
  | (key, v) :: ks, (x, k) :: b1, (key', u) :: va, .cons ⟨e1, r1⟩ t1, .cons ⟨e2, g⟩ t2, h => by
    obtain ⟨fk, el⟩ := h _ List.mem_cons_self
    have e1' : key = key' := e1
    have e2' : key = .inr x := e2
    subst e1' e2'
    rcases k2.get x with ⟨_, z⟩ | ⟨v2, k', e3, e4, g'⟩
    · rw [z] at el
      cases el
    · rw [e4] at el
      cases el
      have rr : RelO (some v2) (valueAt vb (.inr x)) := by
        rw [← e3]
        exact rb.val (.inr x)
      obtain ⟨y, hy, ry⟩ := rr.some_of
      obtain ⟨as, ra⟩ := Dp.reads I _ v u g.dp r1
      obtain ⟨bs, rb'⟩ := Dp.reads I _ v2 y g'.dp ry
      obtain ⟨l1, l2⟩ := Kd.lay fk
      have eq := SeqAt.eqAt_reads _ _ A s u y as bs ra rb' l1 l1 (by have : min k.dat.depth k.dat.depth = k.dat.depth := Nat.min_self _; omega)
      rw [Kd.eqv, decide_eq_true rfl] at eq
      exact PySem.W.KeqHits.hit hy eq (kv_hits I hu rb k2 f2 t1 t2 fun q hq => h q (List.mem_cons_of_mem _ hq))
def rBy (r : Bool) : R2 := fun x y H Q => ∃ (a b : Addr) (ks ls : List (Key × V)) (b1 b2 : By), x = .ref a ∧ y = .ref b ∧ H a = some (.dK ks) ∧ H b = some (.dK ls) ∧ ByAt H ks b1 ∧ ByAt H ls b2 ∧ b1.length = b2.length ∧ (∀ q ∈ b1, q.2.fit 60 ∧ lk b2 q.1 = some q.2) ∧ (∀ q ∈ b2, q.2.fit 60) ∧ Q (.bl r) H
theorem op_eqBy (hu : X.A.units + 65 < cLine) : OpR X (compareOp .Eq) (rBy true) := by
  intro pins s σ H x y v u Q I rx ry ⟨a, b, ks, ls, b1, b2, ex, ey, ea, eb, k1, k2, hl, h1, h2, q⟩
  subst ex ey
  obtain rfl : v = Value.ref a := rx
  obtain rfl : u = Value.ref b := ry
  obtain ⟨_, ya, va, ra, da⟩ := (show ObjOk X.prog X.w H s.heap a (.dK ks) from I.hok a _ ea)
  obtain ⟨_, yb, vb, rb, db⟩ := (show ObjOk X.prog X.w H s.heap b (.dK ls) from I.hok b _ eb)
  have lv : va.length = vb.length := by rw [← ra.length, ← rb.length, Paired.length k1, Paired.length k2]; exact hl
  refine PySem.W.keq_eq (knd := mixKind X.prog X.w) (r := true) ya yb da db (by omega) (fun _ => kv_hits I (A := X.A.in1) (by show X.A.units + 1 + 64 < cLine; omega) rb k2 h2 ra k1 h1) ?_
  have e : (va.length == vb.length && true) = true := by simp [lv]
  rw [e]
  exact ⟨.bl true, H, I, rfl, q⟩
theorem op_neBy (hu : X.A.units + 65 < cLine) : OpR X (compareOp .NotEq) (rBy false) := by
  intro pins s σ H x y v u Q I rx ry ⟨a, b, ks, ls, b1, b2, ex, ey, ea, eb, k1, k2, hl, h1, h2, q⟩
  subst ex ey
  obtain rfl : v = Value.ref a := rx
  obtain rfl : u = Value.ref b := ry
  obtain ⟨_, ya, va, ra, da⟩ := (show ObjOk X.prog X.w H s.heap a (.dK ks) from I.hok a _ ea)
  obtain ⟨_, yb, vb, rb, db⟩ := (show ObjOk X.prog X.w H s.heap b (.dK ls) from I.hok b _ eb)
  have lv : va.length = vb.length := by rw [← ra.length, ← rb.length, Paired.length k1, Paired.length k2]; exact hl
  refine PySem.W.keq_ne (knd := mixKind X.prog X.w) (r := true) ya yb da db (by omega) (fun _ => kv_hits I (A := X.A.in1) (by show X.A.units + 1 + 64 < cLine; omega) rb k2 h2 ra k1 h1) ?_
  have e : (!(va.length == vb.length && true)) = false := by simp [lv]
  rw [e]
  exact ⟨.bl false, H, I, rfl, q⟩
end
/-- what is in order names each key once -/
theorem addV_nodup {fs : List Str} (x : Str) (h : fs.Nodup) : (addV fs x).Nodup := by
  unfold addV
  by_cases e : x ∈ fs
  · rw [if_pos e]
    exact h
  · rw [if_neg e]
    exact List.nodup_append.mpr ⟨h, by simp, fun a ha b hb => by rw [List.mem_singleton.mp hb]; intro z; rw [z] at ha; exact e ha⟩
theorem Kd.vs_nodup : ∀ (k : Kd) {fs : List Str}, fs.Nodup → (k.vs fs).Nodup
  | .var x, _, h => addV_nodup x h
  | .con _, _, h => h
  | .app a b, _, h => Kd.vs_nodup b (Kd.vs_nodup a h)
theorem vsL_nodup : ∀ (ks : List Kd) {fs : List Str}, fs.Nodup → (vsL ks fs).Nodup
  | [], _, h => h
  | k :: r, _, h => vsL_nodup r (k.vs_nodup h)
theorem lk_self : ∀ (b : By), (names b).Nodup → ∀ q ∈ b, lk b q.1 = some q.2
  | [], _, q, h => nomatch h
  | p :: r, hn, q, h => by
    obtain ⟨n1, n2⟩ := List.nodup_cons.mp (show (p.1 :: names r).Nodup from hn)
    rcases List.mem_cons.mp h with e | h
    · rw [e]
      exact lk_pos rfl
    · have ne : ¬ p.1 = q.1 := fun z => n1 (by rw [z]; exact List.mem_map.mpr ⟨q, h, rfl⟩)
      rw [lk_neg ne]
      exact lk_self r n2 q h
end L3

/-! how kinds are shown: no dict, not too long -/
namespace L3
open PySem L2
theorem shown_word {x : Str} (w : Wok x) : (PyData.str x).shown.length ≤ 82 := by
  have h := StrLaws.reprText_len x (fun c hc => by have := w.2.2 c hc; omega)
  have e : (PyData.str x).shown = reprText x := by simp only [PyData.shown]
  rw [e]
  have := w.2.1
  omega
theorem shown_var : (PyData.str "var").shown.length ≤ 82 := by decide +kernel
theorem shown_con : (PyData.str "con").shown.length ≤ 82 := by decide +kernel
theorem shown_apply : (PyData.str "apply").shown.length ≤ 82 := by decide +kernel
theorem shown_two (a b : PyData) : (PyData.tuple [a, b]).shown.length ≤ a.shown.length + b.shown.length + 7 := by
  have h := tupleText_len_le [a.shown, b.shown]
  simp only [PyData.shown, PyData.shownAll]
  simp only [List.map_cons, List.map_nil, List.sum_cons, List.sum_nil, List.length_cons, List.length_nil] at h
  omega
theorem shown_three (a b c : PyData) : (PyData.tuple [a, b, c]).shown.length ≤ a.shown.length + b.shown.length + c.shown.length + 9 := by
  have h := tupleText_len_le [a.shown, b.shown, c.shown]
  simp only [PyData.shown, PyData.shownAll]
  simp only [List.map_cons, List.map_nil, List.sum_cons, List.sum_nil, List.length_cons, List.length_nil] at h
  omega
theorem Kd.shown_len : ∀ {k : Kd} {n : Nat}, k.fit n → k.dat.shown.length + 100 ≤ 300 * 2 ^ n
  | .var x, n, h => by
    have h1 := shown_two (.str "var") (.str x)
    have h2 := shown_word (wok_of_var h)
    have h3 := shown_var
    have h4 : 1 ≤ 2 ^ n := Nat.one_le_two_pow
    show (PyData.tuple [.str "var", .str x]).shown.length + 100 ≤ _
    omega
  | .con x, n, h => by
    have h1 := shown_two (.str "con") (.str x)
    have h2 := shown_word (wok_of_con h)
    have h3 := shown_con
    have h4 : 1 ≤ 2 ^ n := Nat.one_le_two_pow
    show (PyData.tuple [.str "con", .str x]).shown.length + 100 ≤ _
    omega
  | .app a b, n, h => by
    obtain ⟨m, rfl, ha, hb⟩ := Kd.fit_app h
    have h1 := shown_three (.str "apply") a.dat b.dat
    have h2 := Kd.shown_len ha
    have h3 := Kd.shown_len hb
    have h4 := shown_apply
    have h5 : 2 ^ (m + 1) = 2 ^ m * 2 := Nat.pow_succ ..
    show (PyData.tuple [.str "apply", a.dat, b.dat]).shown.length + 100 ≤ _
    omega
theorem Kd.show_ok : ∀ k : Kd, k.dat.showable = true ∧ k.dat.hasDict = false
  | .var x => by simp [Kd.dat, PyData.showable, PyData.showableAll, PyData.hasDict, PyData.hasDictAll]
  | .con x => by simp [Kd.dat, PyData.showable, PyData.showableAll, PyData.hasDict, PyData.hasDictAll]
  | .app a b => by
    obtain ⟨h1, h2⟩ := Kd.show_ok a
    obtain ⟨h3, h4⟩ := Kd.show_ok b
    simp [Kd.dat, PyData.showable, PyData.showableAll, PyData.hasDict, PyData.hasDictAll, h1, h2, h3, h4]
theorem kds_show : ∀ {ks : List Kd} {n : Nat}, (∀ k ∈ ks, k.fit n) → PyData.showableAll (ks.map Kd.dat) = true ∧ PyData.hasDictAll (ks.map Kd.dat) = false ∧ PyData.depthAll (ks.map Kd.dat) ≤ n + 1 ∧ ((PyData.shownAll (ks.map Kd.dat)).map (·.length)).sum ≤ ks.length * (300 * 2 ^ n) ∧ (PyData.shownAll (ks.map Kd.dat)).length = ks.length
  | [], n, _ => by simp [PyData.showableAll, PyData.hasDictAll, PyData.depthAll, PyData.shownAll]
  | k :: r, n, h => by
    obtain ⟨h1, h2, h3, h4, h5⟩ := kds_show (ks := r) (n := n) fun y hy => h y (List.mem_cons_of_mem _ hy)
    have hk := h k List.mem_cons_self
    obtain ⟨g1, g2⟩ := Kd.show_ok k
    obtain ⟨g3, g4⟩ := Kd.lay hk
    have g5 := Kd.shown_len hk
    refine ⟨?_, ?_, ?_, ?_, ?_⟩
    · simp [PyData.showableAll, g1, h1]
    · simp [PyData.hasDictAll, g2, h2]
    · simp only [List.map_cons, PyData.depthAll]
      omega
    · have e : (r.length + 1) * (300 * 2 ^ n) = r.length * (300 * 2 ^ n) + 300 * 2 ^ n := Nat.succ_mul ..
      simp only [List.map_cons, PyData.shownAll, List.sum_cons, List.length_cons]
      rw [e]
      generalize r.length * (300 * 2 ^ n) = z at h4 ⊢
      omega
    · simp [PyData.shownAll, h5]
/-- [patterns, kinds] -/
def twoD (ps ks : List Kd) : PyData := .list [.list (ps.map Kd.dat), .list (ks.map Kd.dat)]
theorem twoD_show {ps ks : List Kd} (hp : ∀ k ∈ ps, k.fit 12) (hk : ∀ k ∈ ks, k.fit 12) (lp : ps.length ≤ 4) (lk : ks.length ≤ 4) :
    (twoD ps ks).showable = true ∧ (twoD ps ks).hasDict = false ∧ (twoD ps ks).depth ≤ 60 ∧ (twoD ps ks).shown.length ≤ sizeLine := by
  obtain ⟨a1, a2, a3, a4, a5⟩ := kds_show hp
  obtain ⟨b1, b2, b3, b4, b5⟩ := kds_show hk
  refine ⟨?_, ?_, ?_, ?_⟩
  · simp [twoD, PyData.showable, PyData.showableAll, a1, b1]
  · simp [twoD, PyData.hasDict, PyData.hasDictAll, a2, b2]
  · simp only [twoD, PyData.depth, PyData.depthAll]
    omega
  · have h := listText_len_le [listText (PyData.shownAll (ps.map Kd.dat)), listText (PyData.shownAll (ks.map Kd.dat))]
    have h1 := listText_len_le (PyData.shownAll (ps.map Kd.dat))
    have h2 := listText_len_le (PyData.shownAll (ks.map Kd.dat))
    have c1 : ps.length * (300 * 2 ^ 12) ≤ 4 * (300 * 2 ^ 12) := Nat.mul_le_mul_right _ lp
    have c2 : ks.length * (300 * 2 ^ 12) ≤ 4 * (300 * 2 ^ 12) := Nat.mul_le_mul_right _ lk
    simp only [List.map_cons, List.map_nil, List.sum_cons, List.sum_nil, List.length_cons, List.length_nil] at h
    simp only [twoD, PyData.shown, PyData.shownAll]
    have e := sizeLine_eq
    rw [e]
    omega
end L3

set_option maxHeartbeats 4000000
/-! values of any kind: none, bools, ints, texts, lists, tuples, dicts; literals; repr -/
namespace L3
open PySem PySem.Spec PyProof.Rows L2
mutual
/-- v is d; t is where the tape stands -/
inductive Da (t : Addr) (H : Hp) : V → PyData → Prop
  | non : Da t H .non .none
  | bl (b : Bool) : Da t H (.bl b) (.bool b)
  | int (i : Int) : Da t H (.int i) (.int i)
  | str (x : Str) : Da t H (.str x) (.str x)
  | lst {a : Addr} {xs : List V} {ds : List PyData} : H a = some (.lst xs) → a ≠ sysModules → DaAll t H xs ds → Da t H (.ref a) (.list ds)
  | tup {a : Addr} {xs : List V} {ds : List PyData} : H a = some (.tup xs) → DaAll t H xs ds → Da t H (.ref a) (.tuple ds)
  | dct {a : Addr} {kvs : List (Key × V)} {ds : List (PyData × PyData)} : H a = some (.dK kvs) → a ≠ t → DaKv t H kvs ds → Da t H (.ref a) (.dict ds)
inductive DaAll (t : Addr) (H : Hp) : List V → List PyData → Prop
  | nil : DaAll t H [] []
  | cons {v : V} {vs : List V} {d : PyData} {ds : List PyData} : Da t H v d → DaAll t H vs ds → DaAll t H (v :: vs) (d :: ds)
inductive DaKv (t : Addr) (H : Hp) : List (Key × V) → List (PyData × PyData) → Prop
  | nil : DaKv t H [] []
  | cons {x : Str} {v : V} {vs : List (Key × V)} {d : PyData} {ds : List (PyData × PyData)} : Da t H v d → DaKv t H vs ds → DaKv t H ((.inr x, v) :: vs) ((.str x, d) :: ds)
end
/-- what a change of the heap has to keep -/
structure Kp (t : Addr) (H H' : Hp) : Prop where
  l : ∀ a xs, H a = some (.lst xs) → H' a = some (.lst xs)
  u : ∀ a xs, H a = some (.tup xs) → H' a = some (.tup xs)
  d : ∀ a kvs, a ≠ t → H a = some (.dK kvs) → H' a = some (.dK kvs)
mutual
theorem Da.kp {t : Addr} {H H' : Hp} (e : Kp t H H') : ∀ {d : PyData} {v : V}, Da t H v d → Da t H' v d
  | .none, _, h => by cases h; exact .non
  | .bool b, _, h => by cases h; exact .bl b
  | .int i, _, h => by cases h; exact .int i
  | .str x, _, h => by cases h; exact .str x
  | .list ds, _, h => by
    cases h with
    | lst h1 h2 h3 => exact .lst (e.l _ _ h1) h2 (DaAll.kp e h3)
  | .tuple ds, _, h => by
    cases h with
    | tup h1 h3 => exact .tup (e.u _ _ h1) (DaAll.kp e h3)
  | .dict ds, _, h => by
    cases h with
    | dct h1 h2 h3 => exact .dct (e.d _ _ h2 h1) h2 (DaKv.kp e h3)
theorem DaAll.kp {t : Addr} {H H' : Hp} (e : Kp t H H') : ∀ {ds : List PyData} {vs : List V}, DaAll t H vs ds → DaAll t H' vs ds
  | [], _, h => by cases h; exact .nil
  | d :: ds, _, h => by
    cases h with
    | cons h1 h2 => exact .cons (Da.kp e h1) (DaAll.kp e h2)
theorem DaKv.kp {t : Addr} {H H' : Hp} (e : Kp t H H') : ∀ {ds : List (PyData × PyData)} {vs : List (Key × V)}, DaKv t H vs ds → DaKv t H' vs ds
  | [], _, h => by cases h; exact .nil
  | d :: ds, _, h => by
    cases h with
    | cons h1 h2 => exact .cons (Da.kp e h1) (DaKv.kp e h2)
end
theorem kp_same {t : Addr} {H H' : Hp} (e : Same H H') : Kp t H H' := ⟨fun _ _ h => e _ _ h, fun _ _ h => e _ _ h, fun _ _ _ h => e _ _ h⟩
theorem DaAll.len {t : Addr} {H : Hp} : ∀ {vs : List V} {ds : List PyData}, DaAll t H vs ds → vs.length = ds.length
  | _, [], h => by cases h; rfl
  | _, d :: ds, h => by
    cases h with
    | cons _ h => rw [List.length_cons, List.length_cons, DaAll.len h]
theorem DaAll.app {t : Addr} {H : Hp} : ∀ {vs ws : List V} {ds es : List PyData}, DaAll t H vs ds → DaAll t H ws es → DaAll t H (vs ++ ws) (ds ++ es)
  | _, _, [], _, h, g => by cases h; exact g
  | _, _, d :: ds, _, h, g => by
    cases h with
    | cons h1 h2 => exact .cons h1 (DaAll.app h2 g)
theorem DaAll.mem {t : Addr} {H : Hp} {v : V} : ∀ {vs : List V} {ds : List PyData}, DaAll t H vs ds → v ∈ vs → ∃ d ∈ ds, Da t H v d
  | _, [], h, hv => by cases h; cases hv
  | _, d :: ds, h, hv => by
    cases h with
    | cons h1 h2 =>
      rcases List.mem_cons.mp hv with e | hv
      · exact ⟨d, List.mem_cons_self, by rw [e]; exact h1⟩
      · obtain ⟨d', m, q⟩ := DaAll.mem h2 hv
        exact ⟨d', List.mem_cons_of_mem _ m, q⟩
/-! ### read by the library -/
section
variable {X : Cx} {pins : List (Addr × Obj)} {σ : L2.St} {H : Hp} {s : Shared} {t : Addr}
theorem kv_keys {knd : KeyKind X.prog X.w Key} (hk : knd.is = keyIs) : ∀ {kvs : List (Key × V)} {ds : List (PyData × PyData)} {es : List DictEntry} {vs : List (Key × Value)}, DaKv t H kvs ds → KV kvs vs → Pairs knd es vs → ReadsAll s.heap (es.map (·.key)) (ds.map (·.1)) []
  | _, [], _, _, h, h2, h3 => by
    cases h
    cases h2
    cases h3
    exact ReadsAll.nil
  | _, (q, d) :: ds, [], _, h, h2, h3 => by
    cases h3
    cases h2
    cases h
  | _, (q, d) :: ds, e :: es, _, h, h2, h3 => by
    cases h with
    | @cons x v vs d' ds' g1 g2 =>
      cases h2 with
      | cons e2 t2 =>
        cases h3 with
        | cons p1 p2 t3 =>
          obtain ⟨e2, _⟩ := e2
          rw [hk] at p1
          have h1' : keyIs _ e.key = true := p1
          rw [← e2] at h1'
          obtain ⟨tk, ht⟩ := Value.isStrOf_shape (x := x) (v := e.key) h1'
          have ih := kv_keys hk g2 t2 t3
          show ReadsAll s.heap (e.key :: es.map (·.key)) (PyData.str x :: _) []
          rw [ht]
          exact ReadsAll.cons (as := []) (bs := []) (Reads.str _ _) ih
mutual
theorem Da.reads (I : Inv X pins σ H s) : ∀ (d : PyData) (v : V) (u : Value), Da t H v d → RelV v u → ∃ as, Reads s.heap u d as ∧ sysModules ∉ as
  | .none, _, _, h, r => by
    cases h
    cases r
    exact ⟨_, Reads.none, List.not_mem_nil⟩
  | .bool b, _, _, h, r => by
    cases h
    cases r
    exact ⟨_, Reads.bool b, List.not_mem_nil⟩
  | .int i, _, _, h, r => by
    cases h
    obtain ⟨k, rfl⟩ := r
    exact ⟨_, Reads.int i k, List.not_mem_nil⟩
  | .str x, _, _, h, r => by
    cases h
    obtain ⟨k, rfl⟩ := r
    exact ⟨_, Reads.str x k, List.not_mem_nil⟩
  | .list ds, _, u, h, r => by
    cases h with
    | @lst a xs _ hs ns ha =>
      obtain rfl : u = Value.ref a := r
      obtain ⟨its, rv, ⟨o, n, ho, hc, _, hd⟩, _⟩ := I.list (SqL.of hs)
      obtain ⟨as, hr, q⟩ := Da.readsAll I ds _ its ha rv
      exact ⟨_, Reads.list ho hc hd hr, fun z => (List.mem_cons.mp z).elim (fun e => ns e.symm) q⟩
  | .tuple ds, _, u, h, r => by
    cases h with
    | @tup a xs _ hs ha =>
      obtain rfl : u = Value.ref a := r
      obtain ⟨its, rv, ⟨o, ho, hc, n, hd⟩, _⟩ := I.tuple (SqT.of hs)
      obtain ⟨as, hr, q⟩ := Da.readsAll I ds _ its ha rv
      exact ⟨_, Reads.tuple ho hc hd hr, q⟩
  | .dict ds, _, u, h, r => by
    cases h with
    | @dct a kvs _ hs na ha =>
      obtain rfl : u = Value.ref a := r
      obtain ⟨_, lo, vs, ra, da⟩ := (show ObjOk X.prog X.w H s.heap a (.dK kvs) from I.hok a _ hs)
      obtain ⟨ep, o, es, ho, hx, hdat, _, pr, _⟩ := da.dictAt
      obtain ⟨bs, hr, q⟩ := Da.readsKv I ds kvs _ vs ha ra pr
      refine ⟨_, Reads.dict (as := []) ho hx.1 hdat (kv_keys rfl ha ra pr) hr, fun z => ?_⟩
      rcases List.mem_append.mp z with e | e
      · have e := List.mem_singleton.mp e
        rw [← e] at lo
        simp at lo
      · exact q e
theorem Da.readsAll (I : Inv X pins σ H s) : ∀ (ds : List PyData) (vs : List V) (us : List Value), DaAll t H vs ds → Vals vs us → ∃ as, ReadsAll s.heap us ds as ∧ sysModules ∉ as
  | [], _, _, h, r => by
    cases h
    cases r
    exact ⟨_, ReadsAll.nil, List.not_mem_nil⟩
  | d :: ds, _, _, h, r => by
    cases h with
    | cons h1 h2 =>
      cases r with
      | cons r1 r2 =>
        obtain ⟨as, q1, n1⟩ := Da.reads I d _ _ h1 r1
        obtain ⟨bs, q2, n2⟩ := Da.readsAll I ds _ _ h2 r2
        exact ⟨_, ReadsAll.cons q1 q2, fun z => (List.mem_append.mp z).elim n1 n2⟩
theorem Da.readsKv (I : Inv X pins σ H s) {knd : KeyKind X.prog X.w Key} : ∀ (ds : List (PyData × PyData)) (kvs : List (Key × V)) (es : List DictEntry) (vs : List (Key × Value)), DaKv t H kvs ds → KV kvs vs → Pairs knd es vs → ∃ as, ReadsAll s.heap (es.map (·.val)) (ds.map (·.2)) as ∧ sysModules ∉ as
  | [], _, _, _, h, h2, h3 => by
    cases h
    cases h2
    cases h3
    exact ⟨_, ReadsAll.nil, List.not_mem_nil⟩
  | (q, d) :: ds, _, [], _, h, h2, h3 => by
    cases h3
    cases h2
    cases h
  | (q, d) :: ds, _, e :: es', _, h, h2, h3 => by
    cases h with
    | @cons x v vs d' ds' g1 g2 =>
      cases h2 with
      | cons e2 t2 =>
        cases h3 with
        | cons p1 p2 t3 =>
          obtain ⟨_, r⟩ := e2
          obtain ⟨as, q1, n1⟩ := Da.reads I d _ _ g1 r
          obtain ⟨bs, q2, n2⟩ := Da.readsKv I ds _ es' _ g2 t2 t3
          have h2' : e.val = _ := p2
          refine ⟨_, ?_, fun z => (List.mem_append.mp z).elim n1 n2⟩
          show ReadsAll s.heap (e.val :: es'.map (·.val)) (d :: _) _
          rw [h2']
          exact ReadsAll.cons q1 q2
end
/-- repr of a list, a tuple or a dict of such values -/
def rReprA (t : Addr) : List V → Hp → VK → Prop := fun xs H Q => ∃ (a : Addr) (d : PyData), xs = [.ref a] ∧ Da t H (.ref a) d ∧ d.showable = true ∧ d.depth ≤ 60 ∧ d.shown.length ≤ sizeLine ∧ Q (.str d.shown) H
theorem call_reprA (t : Addr) (hg : X.A.guards = some []) (hu : X.A.units + 64 < cLine) : CallR X (.builtin "repr") (rReprA t) := by
  intro pins s σ H xs us Q I r h
  obtain ⟨a, d, rfl, hd, hs, hdep, hsz, q⟩ := h
  obtain ⟨u, rfl, rx⟩ := vals1 r
  obtain rfl : u = Value.ref a := rx
  obtain ⟨as, hr, n⟩ := Da.reads I d _ _ hd (show RelV (.ref a) (.ref a) from rfl)
  exact repr_of_reads' hr hs (fun _ => n) hg (by omega) (fun _ _ e => e) (fun h' u tk hk => ⟨.str d.shown, H, I.kept (t' := tk) hk, ⟨u, rfl⟩, q⟩) hsz
end
/-! ### literals -/
section
variable {X : Cx} {e : Expr} {es : List Expr} {pos : Pos} {t : Addr}
theorem _root_.L2.PE.weak {te te' : TE} (h : PE X e te) (m : ∀ σ H Q, te' σ H Q → te σ H Q) : PE X e te' := ⟨fun pins s σ H Q I q => h.run pins s σ H Q I (m σ H Q q)⟩
theorem _root_.L2.PA.weak {te te' : TA} (h : PA X es te) (m : ∀ σ H Q, te' σ H Q → te σ H Q) : PA X es te' := ⟨fun pos pins s σ H Q I q => h.run pos pins s σ H Q I (m σ H Q q)⟩
/-- a value that is d, all else is kept -/
def tLit (t : Addr) (d : PyData) : TE := fun _ H Q => (∃ o, H t = some o) ∧ ∀ H' v, Same H H' → Da t H' v d → Q v H'
def tLits (t : Addr) (ds : List PyData) : TA := fun _ H Q => (∃ o, H t = some o) ∧ ∀ H' vs, Same H H' → DaAll t H' vs ds → Q vs H'
/-- a new list of such values -/
def tLitL (t : Addr) (ds : List PyData) : TE := fun _ H Q => (∃ o, H t = some o) ∧ ∀ H' l vs, Same H H' → l ≠ sysModules → H' l = some (.lst vs) → DaAll t H' vs ds → Q (.ref l) H'
theorem pl_nil : PA X [] (tLits t []) := pa_nil.weak fun σ H Q h => h.2 H [] (Same.refl H) .nil
theorem pl_cons {d : PyData} {ds : List PyData} (ha : PE X e (tLit t d)) (hr : PA X es (tLits t ds)) (hs : starEach (e :: es) X.env = (false, eval e X.env) :: starEach es X.env := by rfl) : PA X (e :: es) (tLits t (d :: ds)) :=
  (pa_cons ha hr hs).weak fun σ H Q ⟨⟨o, ho⟩, h⟩ => ⟨⟨o, ho⟩, fun H1 v s1 d1 => ⟨⟨o, s1 _ _ ho⟩, fun H2 vs s2 d2 => h H2 (v :: vs) (s1.trans s2) (.cons (d1.kp (kp_same s2)) d2)⟩⟩
theorem pl_tup {x1} {ds : List PyData} (h : PA X es (tLits t ds)) (hz : ds.length ≤ 1000 := by decide) : PE X (.Tuple es x1 pos) (tLit t (.tuple ds)) :=
  (pe_tup h).weak fun σ H Q ⟨⟨o, ho⟩, h⟩ => ⟨⟨o, ho⟩, fun H1 vs s1 d1 => ⟨by rw [d1.len, sizeLine_eq]; omega, fun p hp => h _ _ (s1.trans (same_new hp)) (.tup upd_same (d1.kp (kp_same (same_new hp))))⟩⟩
theorem pl_lstL {ds : List PyData} (h : PA X es (tLits t ds)) (hz : ds.length ≤ 1000 := by decide) : PE X (.List es pos) (tLitL t ds) := by
  refine ⟨fun pins s σ H Q I hq => ?_⟩
  obtain ⟨ho, hq⟩ := hq
  refine wpAny_List_spliced (thn (h.run pos pins s σ H (fun vs H1 => Same H H1 ∧ DaAll t H1 vs ds) I ⟨ho, fun H1 vs s1 d1 => ⟨s1, d1⟩⟩) fun us s1 ⟨xs, H1, I1, r, sm, dd⟩ => ⟨by rw [← r.length, dd.len, sizeLine_eq]; omega, ?_⟩)
  have hf : H1 s1.heap.objs.size = none := I1.hok.fresh (Nat.le_refl _)
  refine ⟨.ref s1.heap.objs.size, upd H1 s1.heap.objs.size (.lst xs), I1.laid (t' := s1.toks) (fun b u e => Heap.get?_push_of_some _ e) (Nat.le_refl _) ?_, rfl, hq _ _ xs (sm.trans (same_new hf)) (Nat.ne_of_gt I1.big) upd_same (dd.kp (kp_same (same_new hf)))⟩
  exact ⟨by rw [dd.len, sizeLine_eq]; omega, us, 0, r, Heap.get?_push_size _ rfl⟩
theorem pl_lst {ds : List PyData} (h : PA X es (tLits t ds)) (hz : ds.length ≤ 1000 := by decide) : PE X (.List es pos) (tLit t (.list ds)) :=
  (pl_lstL h hz).weak fun σ H Q ⟨ho, h⟩ => ⟨ho, fun H1 l vs s1 n1 g1 d1 => h _ _ s1 (.lst g1 n1 d1)⟩
theorem pl_c {x : V} {d : PyData} (h : PE X e (tC x)) (m : ∀ H, Da t H x d) : PE X e (tLit t d) := h.weak fun σ H Q ⟨_, h⟩ => h H x (Same.refl H) (m H)
theorem pl_d0 : PE X (.Dict [] [] pos) (tLit t (.dict [])) :=
  pe_dnewK.weak fun σ H Q ⟨⟨o, ho⟩, h⟩ p hp => h _ _ (same_new hp) (.dct upd_same (fun e => by rw [e, ho] at hp; cases hp) .nil)
theorem pl_neg {i : Int} (h : PE X e (tC (.int i))) : PE X (.UnaryOp .USub e pos) (tLit t (.int (-i))) :=
  (pe_un un_neg h).weak fun σ H Q ⟨_, q⟩ => ⟨_, rfl, q H _ (Same.refl H) (.int _)⟩
theorem pl_pow {e2 : Expr} {i j : Int} (h : PE X e (tC (.int i))) (h2 : PE X e2 (tC (.int j))) (hc : CPow i j := by decide) : PE X (.BinOp e .Pow e2 pos) (tLit t (.int (i ^ j.toNat))) :=
  (pe_op op_pow h h2).weak fun σ H Q ⟨_, q⟩ => ⟨_, _, rfl, rfl, hc, q H _ (Same.refl H) (.int _)⟩
theorem pl_d1 {x : Str} {i : Int} {p1 p2 : Pos} {k1 k2} : PE X (.Dict [some (.Constant (.str x) k1 p1)] [.Constant (.int i) k2 p2] pos) (tLit t (.dict [(.str x, .int i)])) :=
  (pe_disp (pps_cons pe_str pe_int pps_nil) (by rfl) (by rfl) (fun z => by cases z) (by show 1 ≤ 15; decide)).weak fun σ H Q ⟨⟨o, ho⟩, h⟩ p hp => ⟨upd_same, [(.inr x, .int i)], rfl, by show 1 ≤ 15; decide, h _ _ (fun b o' e => by
    rw [upd_ne (ne_of_none e hp), upd_ne (ne_of_none e hp)]
    exact e) (.dct upd_same (fun e => by rw [e, ho] at hp; cases hp) (.cons (.int i) .nil))⟩
end
end L3

/-! a value of any kind: its type; beside a text -/
namespace L3
open PySem PySem.Spec PyProof.Rows L2
open PySem.SeqAt
theorem dict_eq_declines_str (a : Addr) (es : Array DictEntry) (n : Nat) (dd : Option Addr) (sl : Array (Option Value)) (b : Str) (u : Tok) :
    Meets (Builtin.«dict.__eq__» ⟨[.ref a, .str b u], []⟩) (fun _ R s => s.heap.get? a = some { cls := .type "dict", dict := dd, data := .dict es n, slots := sl } ∧ R (.ok (.ret .notImplemented)) s) :=
  .of_wp fun prog w A R s h => by
    obtain ⟨hl, h⟩ := h
    have tA : s.TypeIs (.ref a) "dict" := ⟨_, hl, rfl⟩
    show wpAny _ _ (Builtin.Dict.dictSlotArgs "__eq__" ⟨[.ref a, .str b u], []⟩ >>= _) _ _ s
    refine wpAny_bind ?_
    unfold Builtin.Dict.dictSlotArgs
    refine wpAny_bind (wpAny_notOrdered_dict tA ?_)
    show wpAny _ _ (pure (Value.ref a, Value.str b u)) _ _ s
    refine wpAny_pure ?_
    refine wpAny_bind (wpAny_isInstance (T := "str") (typeIs_str s b u) F.sub_str_dict ?_)
    simp only [Bool.not_false, if_true]
    exact wpAny_bind (wpAny_rule (wpAny_pure ⟨_, rfl, h⟩))
theorem str_eq_declines_dict (b : Str) (u : Tok) (l : Addr) (c : Value) (es : Array DictEntry) (n : Nat) (dd : Option Addr) (sl : Array (Option Value)) :
    Meets (Builtin.«str.__eq__» ⟨[.str b u, .ref l], []⟩) (fun _ R s => s.heap.get? l = some { cls := c, dict := dd, data := .dict es n, slots := sl } ∧ R (.ok (.ret .notImplemented)) s) :=
  .of_wp fun prog w A R s h => by obtain ⟨hp, g, d, tk, os⟩ := s; obtain ⟨hl, h⟩ := h; wp_walk using wpAny_loadPart' hl, wpAny_load hl; exact ⟨_, rfl, h⟩
section
variable {A : Around} {s : Shared}
theorem rc_dict_str {l : Addr} {o : Obj} {es : Array DictEntry} {n : Nat} (b : Str) (u : Tok) (ho : s.heap.get? l = some o) (hc : o.cls = .type "dict") (hd : o.data = .dict es n) (hu : A.units < cLine) : RcAt A s (.ref l) (.str b u) false := fun prog w E Q h => by
  obtain ⟨cls, dd, data, sl⟩ := o
  simp only at hc hd
  subst hc hd
  exact rc_eq_decline_or (k := false) ⟨_, ho, rfl⟩ (typeIs_str s b u) (by decide) F.sub_str_dict F.slot_dict_eq F.slot_str_eq_refl
    (fun _ hq => call_meets F.slot_dict_eq ⟨_, ho, rfl⟩ F.entry_dict_eq (F.args_dict_eq_2 _ _) (dict_eq_declines_str l es n dd sl b u) ⟨ho, hq⟩)
    (fun _ hq => call_meets F.slot_str_eq_refl (typeIs_str s b u) F.entry_str_eq (F.args_str_eq_2 _ _) (str_eq_declines_dict b u l (.type "dict") es n dd sl) ⟨ho, hq⟩)
    (fun _ hq => wpAny_of_eq (rfl : isSame (.ref l) (.str b u) = pure false) hq) (.inr hu) h
end
/-- whether a value is this text -/
def isS (x : Str) : PyData → Bool
  | .str y => decide (y = x)
  | _ => false
def tyName : PyData → String
  | .none => "NoneType"
  | .bool _ => "bool"
  | .int _ => "int"
  | .str _ => "str"
  | .list _ => "list"
  | .tuple _ => "tuple"
  | .dict _ => "dict"
section
variable {X : Cx} {pins : List (Addr × Obj)} {σ : L2.St} {H : Hp} {s : Shared}
def rEqStr (t : Addr) : R2 := fun x y H Q => ∃ (d : PyData) (z : Str), y = .str z ∧ Da t H x d ∧ Q (.bl (isS z d)) H
theorem op_eqStr {t : Addr} (hu : X.A.units + 64 < cLine) : OpR X (compareOp .Eq) (rEqStr t) := by
  intro pins s σ H x y v u Q I rx ry h
  obtain ⟨d, z, rfl, hd, q⟩ := h
  obtain ⟨tk, rfl⟩ := (show ∃ k, u = Value.str z k from ry)
  have hu' : X.A.units < cLine := by omega
  have fin : ∀ b : Bool, b = isS z d → EP X pins σ Q (.bool b) s := fun b e => ⟨.bl b, H, I, rfl, by rw [e]; exact q⟩
  cases d with
  | none =>
    cases hd
    cases (show v = Value.none from rx)
    exact RcAt.none_str z tk _ _ _ _ (fin _ rfl)
  | bool b =>
    cases hd
    cases (show v = Value.bool b from rx)
    exact RcAt.bool_str b z tk _ _ _ _ (fin _ rfl)
  | int i =>
    cases hd
    obtain ⟨k, rfl⟩ := (show ∃ k, v = Value.int i k from rx)
    exact RcAt.int_str i k z tk _ _ _ _ (fin _ rfl)
  | str y =>
    cases hd
    obtain ⟨k, rfl⟩ := (show ∃ k, v = Value.str y k from rx)
    exact RcAt.str_str y k z tk _ _ _ _ (fin _ (str_beq y z))
  | list ds =>
    cases hd with
    | @lst a xs _ hs ns ha =>
      obtain rfl : v = Value.ref a := rx
      obtain ⟨its, rv, ⟨o, n, ho, hc, _, hd⟩, _⟩ := I.list (SqL.of hs)
      exact RcAt.list_str z tk ⟨o, ho, hc, n, hd⟩ hu' _ _ _ _ (fin _ rfl)
  | tuple ds =>
    cases hd with
    | @tup a xs _ hs ha =>
      obtain rfl : v = Value.ref a := rx
      obtain ⟨its, rv, ⟨o, ho, hc, n, hd⟩, _⟩ := I.tuple (SqT.of hs)
      exact RcAt.tuple_str z tk ⟨o, ho, hc, n, hd⟩ hu' _ _ _ _ (fin _ rfl)
  | dict ds =>
    cases hd with
    | @dct a kvs _ hs na ha =>
      obtain rfl : v = Value.ref a := rx
      obtain ⟨_, lo, vs, ra, da⟩ := (show ObjOk X.prog X.w H s.heap a (.dK kvs) from I.hok a _ hs)
      obtain ⟨ep, o, es, ho, hx, hdat, _, pr, _⟩ := da.dictAt
      exact rc_dict_str z tk ho hx.1 hdat hu' _ _ _ _ (fin _ rfl)
theorem Da.ty {K : PySem.W.Frag} {t : Addr} {v : V} {d : PyData} (h : Da t H v d) : TyX K H v (.type (tyName d)) := by
  cases d with
  | none => cases h; exact .base .non
  | bool b => cases h; exact .base (.bl b)
  | int i => cases h; exact .base (.int i)
  | str y => cases h; exact .base (.str y)
  | list ds =>
    cases h with
    | lst h1 _ _ => exact .base (.lst h1)
  | tuple ds =>
    cases h with
    | tup h1 _ => exact .base (.tup h1)
  | dict ds =>
    cases h with
    | dct h1 _ _ => exact .base (.dK h1)
def isStr : PyData → Bool
  | .str _ => true
  | _ => false
def isTup : PyData → Bool
  | .tuple _ => true
  | _ => false
theorem kit_str {K : PySem.W.Frag} (d : PyData) : PySem.W.kitOne K (.type (tyName d)) (.type "str") = some (isStr d) := by
  cases d with
  | none => exact kit_ty (show kitB "NoneType" "str" = some false by decide +kernel)
  | bool _ => exact kit_ty (show kitB "bool" "str" = some false by decide +kernel)
  | int _ => exact kit_ty (show kitB "int" "str" = some false by decide +kernel)
  | str _ => exact kit_ty (show kitB "str" "str" = some true by decide +kernel)
  | list _ => exact kit_ty (show kitB "list" "str" = some false by decide +kernel)
  | tuple _ => exact kit_ty (show kitB "tuple" "str" = some false by decide +kernel)
  | dict _ => exact kit_ty (show kitB "dict" "str" = some false by decide +kernel)
theorem kit_tup {K : PySem.W.Frag} (d : PyData) : PySem.W.kitOne K (.type (tyName d)) (.type "tuple") = some (isTup d) := by
  cases d with
  | none => exact kit_ty (show kitB "NoneType" "tuple" = some false by decide +kernel)
  | bool _ => exact kit_ty (show kitB "bool" "tuple" = some false by decide +kernel)
  | int _ => exact kit_ty (show kitB "int" "tuple" = some false by decide +kernel)
  | str _ => exact kit_ty (show kitB "str" "tuple" = some false by decide +kernel)
  | list _ => exact kit_ty (show kitB "list" "tuple" = some false by decide +kernel)
  | tuple _ => exact kit_ty (show kitB "tuple" "tuple" = some true by decide +kernel)
  | dict _ => exact kit_ty (show kitB "dict" "tuple" = some false by decide +kernel)
end
end L3

/-! names, wholes, texts among values of any kind -/
namespace L3
open PySem L2
theorem szl {n : Nat} (h : n ≤ 1000000) : n < sizeLine := Nat.lt_of_le_of_lt h (by decide)
structure Bl9 (mg : Str → Option Value) : Prop where
  isinstance : mg "isinstance" = none
  all : mg "all" = none
  str_ : mg "str" = none
  tuple : mg "tuple" = none
  bool : mg "bool" = none
  int : mg "int" = none
  ord : mg "ord" = none
  abs : mg "abs" = none
  max : mg "max" = none
def barL : List Str := ["data", "role", "case", "define", "derive", "picks", "above", "settles", "member", "as", "if", "given", "let", "and", "in", "match", "end"]
theorem pe_gc {X : Cx} {x : Str} {v : V} {pos : Pos} (hg : Gl X x) (h : ∃ u, X.mg x = some u ∧ RelV v u) (hd : (x == ("__debug__" : Str)) = false := by decide) : PE X (.Name x pos) (tC v) := by
  obtain ⟨u, e, r⟩ := h
  exact pe_glob hg e r hd
/-- a sign from a to z -/
def lo (c : Nat) : Bool := decide (97 ≤ c) && decide (c ≤ 122)
/-- 1 to 8 letters -/
def wok (x : Str) : Bool := decide (1 ≤ x.length) && decide (x.length ≤ 8) && x.cps.all lo
def isWordD : PyData → Bool
  | .str x => wok x
  | _ => false
def isNameD : PyData → Bool
  | .str x => wok x && !decide (x ∈ barL)
  | _ => false
def isIntD : PyData → Bool
  | .int _ => true
  | _ => false
def isWholeD : PyData → Bool
  | .int i => decide (-(10 ^ 30) ≤ i) && decide (i ≤ 10 ^ 30)
  | _ => false
/-- a sign that a text may have -/
def sgnT (c : Nat) : Bool := decide (32 ≤ c) && decide (c ≤ 126) && !decide (c = 37)
def isTextD : PyData → Bool
  | .str x => decide (x.length ≤ 200) && x.cps.all sgnT
  | _ => false
theorem lo_tab : ∀ c, c < 128 → (Unicode.isAlpha c && Unicode.isUpper c) = (decide (65 ≤ c) && decide (c ≤ 90)) ∧ Unicode.isAlpha c = (decide (65 ≤ c) && decide (c ≤ 90) || lo c) ∧ Unicode.isLower c = lo c ∧ (Unicode.isUpper c || Unicode.isTitle c) = (decide (65 ≤ c) && decide (c ≤ 90)) := by decide +kernel
theorem asc_low {x : Str} (h1 : 1 ≤ x.length) : (Txt.isascii x && (Txt.isalpha x && Txt.islower x)) = x.cps.all lo := by
  have hl : ∀ p : Nat → Bool, x.cps.all p = x.cps.toList.all p := fun p => (Array.all_toList).symm
  have hn : ∀ p : Nat → Bool, x.cps.any p = x.cps.toList.any p := fun p => (Array.any_toList).symm
  unfold Txt.isascii Txt.isalpha Txt.islower
  have e1 : decide (x.length > 0) = true := decide_eq_true h1
  rw [e1, hl, hl, hl, hn, hn]
  have h1 : 0 < x.cps.toList.length := by
    rw [Array.length_toList]
    exact h1
  generalize x.cps.toList = l at h1 ⊢
  rw [Bool.eq_iff_iff]
  simp only [Bool.true_and, Bool.and_eq_true, List.all_eq_true, List.any_eq_true, Bool.not_eq_true', List.any_eq_false, decide_eq_true_eq]
  constructor
  · rintro ⟨ha, hb, _, hc⟩ c m
    obtain ⟨_, t2, _, t4⟩ := lo_tab c (ha c m)
    have b := hb c m
    have u := hc c m
    rw [t4] at u
    rw [t2, Bool.or_eq_true] at b
    rcases b with b | b
    · exact absurd b u
    · exact b
  · intro h
    have small : ∀ c ∈ l, c < 128 := fun c m => by
      have := h c m
      unfold lo at this
      simp only [Bool.and_eq_true, decide_eq_true_eq] at this
      omega
    refine ⟨small, fun c m => ?_, ?_, fun c m => ?_⟩
    · rw [(lo_tab c (small c m)).2.1, h c m, Bool.or_true]
    · obtain ⟨c, m⟩ := List.exists_mem_of_length_pos h1
      exact ⟨c, m, by rw [(lo_tab c (small c m)).2.2.1]; exact h c m⟩
    · rw [(lo_tab c (small c m)).2.2.2]
      have := h c m
      unfold lo at this
      simp only [Bool.and_eq_true, decide_eq_true_eq] at this ⊢
      omega
end L3

/-! a tuple of anything beside a tuple of one text -/
namespace L3
open PySem PySem.Spec PyProof.Rows L2
open PySem.SeqAt
theorem eqAt_rc {A : Around} {s : Shared} {v : Value} {z : Str} {tk : Tok} {b : Bool} (hf : ∀ x y, v ≠ .float x y) (h : RcAt A s v (.str z tk) b) (e : v = .str z tk → b = true) : EqAt A s v (.str z tk) b := fun prog w E Q hq => by
  by_cases c : v = .str z tk
  · have eb := e c
    subst c eb
    exact EqAt.same _ prog w E Q hq
  · unfold eqBool
    refine wpAny_holding ?_
    refine wpAny_ite_split (fun hab => absurd (eq_of_beq hab) c) (fun _ => ?_)
    cases v with
    | float x y => exact absurd rfl (hf x y)
    | _ => exact wpAny_bind (h prog w E _ (wpAny_truthy_bool hq))
section
variable {X : Cx} {pins : List (Addr × Obj)} {σ : L2.St} {H : Hp} {s : Shared}
theorem rc_any_str {t : Addr} {A : Around} (I : Inv X pins σ H s) (hu' : A.units < cLine) {d : PyData} {x : V} {v : Value} {z : Str} {tk : Tok} (hd : Da t H x d) (rx : RelV x v) : RcAt A s v (.str z tk) (isS z d) ∧ (v = .str z tk → isS z d = true) ∧ (∀ x y, v ≠ .float x y) := by
  cases d with
  | none =>
    cases hd
    cases (show v = Value.none from rx)
    exact ⟨RcAt.none_str z tk, nofun, nofun⟩
  | bool b =>
    cases hd
    cases (show v = Value.bool b from rx)
    exact ⟨RcAt.bool_str b z tk, nofun, nofun⟩
  | int i =>
    cases hd
    obtain ⟨k, rfl⟩ := (show ∃ k, v = Value.int i k from rx)
    exact ⟨RcAt.int_str i k z tk, nofun, nofun⟩
  | str y =>
    cases hd
    obtain ⟨k, rfl⟩ := (show ∃ k, v = Value.str y k from rx)
    have e : isS z (.str y) = (y == z) := by
      show decide (y = z) = (y == z)
      rw [Bool.eq_iff_iff, decide_eq_true_eq, beq_iff_eq]
    rw [e]
    refine ⟨RcAt.str_str y k z tk, fun h => ?_, nofun⟩
    injection h with h _
    rw [h]
    exact beq_self_eq_true z
  | list ds =>
    cases hd with
    | @lst a xs _ hs ns ha =>
      obtain rfl : v = Value.ref a := rx
      obtain ⟨its, rv, ⟨o, n, ho, hc, _, hd⟩, _⟩ := I.list (SqL.of hs)
      exact ⟨RcAt.list_str z tk ⟨o, ho, hc, n, hd⟩ hu', nofun, nofun⟩
  | tuple ds =>
    cases hd with
    | @tup a xs _ hs ha =>
      obtain rfl : v = Value.ref a := rx
      obtain ⟨its, rv, ⟨o, ho, hc, n, hd⟩, _⟩ := I.tuple (SqT.of hs)
      exact ⟨RcAt.tuple_str z tk ⟨o, ho, hc, n, hd⟩ hu', nofun, nofun⟩
  | dict ds =>
    cases hd with
    | @dct a kvs _ hs na ha =>
      obtain rfl : v = Value.ref a := rx
      obtain ⟨_, lo, vs, ra, da⟩ := (show ObjOk X.prog X.w H s.heap a (.dK kvs) from I.hok a _ hs)
      obtain ⟨ep, o, es, ho, hx, hdat, _, pr, _⟩ := da.dictAt
      exact ⟨rc_dict_str z tk ho hx.1 hdat hu', nofun, nofun⟩
/-- one value, this text -/
def isOne (z : Str) : List PyData → Bool
  | [d] => isS z d
  | _ => false
def rEqOne (t : Addr) : R2 := fun x y H Q => ∃ (a b : Addr) (ds : List PyData) (z : Str), x = .ref a ∧ y = .ref b ∧ Da t H (.ref a) (.tuple ds) ∧ H b = some (.tup [.str z]) ∧ Q (.bl (isOne z ds)) H
theorem op_eqOne {t : Addr} (hu : X.A.units + 64 < cLine) : OpR X (compareOp .Eq) (rEqOne t) := by
  intro pins s σ H x y v u Q I rx ry h
  obtain ⟨a, b, ds, z, rfl, rfl, hd, hb, q⟩ := h
  obtain rfl : v = Value.ref a := rx
  obtain rfl : u = Value.ref b := ry
  cases hd with
  | @tup _ xs _ ha da =>
    obtain ⟨its, rv, ⟨o, ho, hc, n, hd⟩, _⟩ := I.tuple (SqT.of ha)
    obtain ⟨its2, rv2, ⟨o2, ho2, hc2, n2, hd2⟩, _⟩ := I.tuple (SqT.of hb)
    obtain ⟨u2, rfl, r2⟩ := vals1 rv2
    obtain ⟨tk, rfl⟩ := (show ∃ k, u2 = Value.str z k from r2)
    have fin : ∀ b : Bool, b = isOne z ds → EP X pins σ Q (.bool b) s := fun b e => ⟨.bl b, H, I, rfl, by rw [e]; exact q⟩
    cases da with
    | nil =>
      cases rv
      exact RcAt.tuples (e := fun _ => true) ⟨o, ho, hc, n, hd⟩ ⟨o2, ho2, hc2, n2, hd2⟩ (by omega) (fun j h1 h2 => absurd h1 (by simp)) _ _ _ _ (fin _ rfl)
    | @cons v1 vs1 d ds' q1 t1 =>
      cases rv with
      | @cons _ u1 _ us1 r1 rr =>
        obtain ⟨c1, c2, c3⟩ := rc_any_str (A := X.A.in1) (z := z) (tk := tk) I (by show X.A.units + 1 < cLine; omega) q1 r1
        refine RcAt.tuples (e := fun _ => isS z d) ⟨o, ho, hc, n, hd⟩ ⟨o2, ho2, hc2, n2, hd2⟩ (by omega) (fun j h1 h2 => ?_) _ _ _ _ (fin _ ?_)
        · obtain rfl : j = 0 := by
            have : j < 1 := h2
            omega
          exact eqAt_rc c3 c1 c2
        · have l1 := t1.len
          have l2 := rr.length
          cases t1 with
          | nil =>
            cases rr
            show (isS z d && true && true) = isS z d
            simp
          | cons _ _ =>
            cases rr
            show (_ && _) = false
            simp
end
end L3

namespace L3
open PySem L2
structure Mn (K : PySem.W.Frag) (w : World) (mg : Str → Option Value) (bA : Addr) (es : Array DictEntry) (nb : Nat) : Prop where
  LONGEST : ∃ u, mg "LONGEST" = some u ∧ RelV (.int 8) u
  BARRED : ∃ u, mg "BARRED" = some u ∧ RelV (.ref bA) u
  kd : KDict K w bA es nb
  has : ∀ z : Str, ∃ r, PySem.W.nsIn K bA z = some r ∧ r.isSome = decide (z ∈ barL)
  BOUND : ∃ u, mg "BOUND" = some u ∧ RelV (.int (10 ^ 30)) u
  LONGEST_TEXT : ∃ u, mg "LONGEST_TEXT" = some u ∧ RelV (.int 200) u
  set : mg "set" = none
section
variable {P : Program} {w : World} {K : PySem.W.Frag} {mg : Str → Option Value} {base : Heap} {bA : Addr} {es : Array DictEntry} {nb : Nat}
abbrev s_is_word : Stmt := topS 5
abbrev N_is_word : List Str := ["value"]
theorem sc_is_word : FnScope N_is_word ["value"] (defScope s_is_word) := ⟨rfl, rfl, rfl, by decide +kernel, rfl, by decide +kernel, by decide +kernel⟩
def spWord : Sp := fun vs H Q _ => ∃ (t : Addr) (v : V) (d : PyData), vs = [v] ∧ Da t H v d ∧ (∀ x, d = .str x → x.length ≤ 1000) ∧ Q (.bl (isWordD d)) H
theorem ok_word {f : Addr} {fd : FuncData} (F : Fun K "is_word" "is_word" s_is_word f fd) (B : Bl mg) (B9 : Bl9 mg) (M : Mn K w mg bA es nb) : FnOk P w K mg base CX0 1 f fd ["value"] spWord := by
  refine F.ok sc_is_word (fun vs H Q E h => ?_) (fun cdv A outer s H vs Q E hr h => ?_)
  · obtain ⟨t, v, d, rfl, _⟩ := h
    rfl
  · obtain ⟨t, v, d, rfl, hd, hx, k⟩ := h
    refine ⟨_, (pss_cons (ps_if (PW.pt (pw_or (pt_not (pt_val (pe_callB call_isi (by rfl) B9.isinstance PyProof.Rows.boot_isinstance (pa_cons (pv 0) (pa_cons (pe_bltn (v := .ty "str") (by rfl) B9.str_ (by decide +kernel) rfl) pa_nil))))) (pw_or1 (pt_not (pt_chain op_le op_le pe_int (pe_callB call_len (by rfl) B.len PySem.boot_len (pa_cons (pv 0) pa_nil)) (pe_gc (by rfl) M.LONGEST))))))
  (pss_one (ps_ret pe_bl))
  pss_nil)
  (pss_one (ps_ret (pe_and (pe_bm0 PySem.F.plainAttrs_str PySem.F.slot_str_isascii PySem.F.type_str_isascii mt_isascii (pv 0)) (pe_and (pe_bm0 PySem.F.plainAttrs_str PySem.F.slot_str_isalpha PySem.F.type_str_isalpha mt_isalpha (pv 0)) (pe_one (pe_bm0 PySem.F.plainAttrs_str PySem.F.slot_str_islower PySem.F.type_str_islower mt_islower (pv 0)))))))), ?_⟩
    refine ⟨_, rfl, v, .ty "str", .type (tyName d), .type "str", isStr d, rfl, .ty "str", hd.ty, kit_str d, _, rfl, ?_⟩
    cases hs : isStr d with
    | false =>
      have e : isWordD d = false := by cases d <;> first | rfl | cases hs
      rw [e] at k
      refine iT rfl ?_
      exact iT rfl k
    | true =>
      obtain ⟨x, rfl⟩ : ∃ x, d = .str x := by
        cases d with
        | str x => exact ⟨x, rfl⟩
        | _ => cases hs
      cases hd
      have lx := hx x rfl
      refine iF rfl ?_
      refine ⟨_, rfl, .str x, x.length, rfl, ⟨by rw [sizeLine_eq]; omega, rfl⟩, _, _, rfl, rfl, _, rfl, ?_⟩
      by_cases h1 : (1 : Int) ≤ (x.length : Int)
      · refine iT (decide_eq_true h1) ?_
        refine ⟨_, _, rfl, rfl, _, rfl, ?_⟩
        by_cases h2 : (x.length : Int) ≤ 8
        · refine iF (by rw [decide_eq_true h2]; rfl) ?_
          have ew : isWordD (.str x) = (Txt.isascii x && (Txt.isalpha x && Txt.islower x)) := by
            rw [asc_low (by omega)]
            show wok x = _
            unfold wok
            rw [decide_eq_true (by omega : 1 ≤ x.length), decide_eq_true (by omega : x.length ≤ 8)]
            rfl
          rw [ew] at k
          refine ⟨_, rfl, rfl, x, rfl, rfl, trivial, _, rfl, ?_⟩
          cases h3 : Txt.isascii x with
          | false =>
            rw [h3] at k
            exact iF rfl k
          | true =>
            rw [h3] at k
            refine iT rfl ?_
            refine ⟨_, rfl, rfl, x, rfl, rfl, trivial, _, rfl, ?_⟩
            cases h4 : Txt.isalpha x with
            | false =>
              rw [h4] at k
              exact iF rfl k
            | true =>
              rw [h4] at k
              refine iT rfl ?_
              exact ⟨_, rfl, rfl, x, rfl, rfl, trivial, k⟩
        · refine iT (by rw [decide_eq_false h2]; rfl) ?_
          have e : isWordD (.str x) = false := by
            show wok x = false
            unfold wok
            rw [decide_eq_false (by omega : ¬ x.length ≤ 8)]
            simp
          rw [e] at k
          exact k
      · refine iF (decide_eq_false h1) ?_
        have e : isWordD (.str x) = false := by
          show wok x = false
          unfold wok
          rw [decide_eq_false (by omega : ¬ 1 ≤ x.length)]
          rfl
        rw [e] at k
        exact ⟨_, rfl, iT rfl k⟩
/-! ### names -/
abbrev s_is_name : Stmt := topS 6
abbrev N_is_name : List Str := ["value"]
theorem sc_is_name : FnScope N_is_name ["value"] (defScope s_is_name) := ⟨rfl, rfl, rfl, by decide +kernel, rfl, by decide +kernel, by decide +kernel⟩
def spName : Sp := fun vs H Q _ => ∃ (t : Addr) (v : V) (d : PyData), vs = [v] ∧ Da t H v d ∧ (∀ x, d = .str x → x.length ≤ 1000) ∧ Q (.bl (isNameD d)) H
theorem ok_name {f : Addr} {fd : FuncData} (F : Fun K "is_name" "is_name" s_is_name f fd) (M : Mn K w mg bA es nb) (D_is_word : Kn P w K mg base 1 "is_word" ["value"] spWord) : FnOk P w K mg base CX0 2 f fd ["value"] spName := by
  refine F.ok sc_is_name (fun vs H Q E h => ?_) (fun cdv A outer s H vs Q E hr h => ?_)
  · obtain ⟨t, v, d, rfl, _⟩ := h
    rfl
  · obtain ⟨t, v, d, rfl, hd, hx, k⟩ := h
    have hr_is_word : Room 1 _ := hr
    refine ⟨_, (pss_one (ps_ret (pe_and (pe_kn D_is_word hr_is_word (pa_cons (pv 0) pa_nil)) (pe_one (pe_cmpR (op_notIn_kd M.kd) (pv 0) (pe_gc (by rfl) M.BARRED) (by rfl)))))), ?_⟩
    refine ⟨_, rfl, t, v, d, rfl, hd, hx, ?_⟩
    refine ⟨_, rfl, ?_⟩
    cases hw : isWordD d with
    | false =>
      have e : isNameD d = false := by
        cases d with
        | str x =>
          have hw' : wok x = false := hw
          show (wok x && _) = false
          rw [hw']
          rfl
        | _ => rfl
      rw [e] at k
      exact iF rfl k
    | true =>
      obtain ⟨x, rfl⟩ : ∃ x, d = .str x := by
        cases d with
        | str x => exact ⟨x, rfl⟩
        | _ => cases hw
      cases hd
      refine iT rfl ?_
      obtain ⟨r, er, hr2⟩ := M.has x
      refine ⟨_, rfl, x, r, rfl, rfl, er, ?_⟩
      have hw' : wok x = true := hw
      have e : isNameD (.str x) = !r.isSome := by
        show (wok x && _) = _
        rw [hw', hr2]
        rfl
      rw [e] at k
      exact k
/-! ### integers, wholes -/
def isBoolD : PyData → Bool
  | .bool _ => true
  | _ => false
theorem kit_int {K : PySem.W.Frag} (d : PyData) : PySem.W.kitOne K (.type (tyName d)) (.type "int") = some (isIntD d || isBoolD d) := by
  cases d with
  | none => exact kit_ty (show kitB "NoneType" "int" = some false by decide +kernel)
  | bool _ => exact kit_ty (show kitB "bool" "int" = some true by decide +kernel)
  | int _ => exact kit_ty (show kitB "int" "int" = some true by decide +kernel)
  | str _ => exact kit_ty (show kitB "str" "int" = some false by decide +kernel)
  | list _ => exact kit_ty (show kitB "list" "int" = some false by decide +kernel)
  | tuple _ => exact kit_ty (show kitB "tuple" "int" = some false by decide +kernel)
  | dict _ => exact kit_ty (show kitB "dict" "int" = some false by decide +kernel)
theorem kit_bool {K : PySem.W.Frag} (d : PyData) : PySem.W.kitOne K (.type (tyName d)) (.type "bool") = some (isBoolD d) := by
  cases d with
  | none => exact kit_ty (show kitB "NoneType" "bool" = some false by decide +kernel)
  | bool _ => exact kit_ty (show kitB "bool" "bool" = some true by decide +kernel)
  | int _ => exact kit_ty (show kitB "int" "bool" = some false by decide +kernel)
  | str _ => exact kit_ty (show kitB "str" "bool" = some false by decide +kernel)
  | list _ => exact kit_ty (show kitB "list" "bool" = some false by decide +kernel)
  | tuple _ => exact kit_ty (show kitB "tuple" "bool" = some false by decide +kernel)
  | dict _ => exact kit_ty (show kitB "dict" "bool" = some false by decide +kernel)
abbrev s_is_integer : Stmt := topS 7
abbrev N_is_integer : List Str := ["value"]
theorem sc_is_integer : FnScope N_is_integer ["value"] (defScope s_is_integer) := ⟨rfl, rfl, rfl, by decide +kernel, rfl, by decide +kernel, by decide +kernel⟩
def spInt : Sp := fun vs H Q _ => ∃ (t : Addr) (v : V) (d : PyData), vs = [v] ∧ Da t H v d ∧ Q (.bl (isIntD d)) H
theorem ok_int {f : Addr} {fd : FuncData} (F : Fun K "is_integer" "is_integer" s_is_integer f fd) (B9 : Bl9 mg) : FnOk P w K mg base CX0 1 f fd ["value"] spInt := by
  refine F.ok sc_is_integer (fun vs H Q E h => ?_) (fun cdv A outer s H vs Q E hr h => ?_)
  · obtain ⟨t, v, d, rfl, _⟩ := h
    rfl
  · obtain ⟨t, v, d, rfl, hd, k⟩ := h
    refine ⟨_, (pss_one (ps_ret (pe_and (pe_callB call_isi (by rfl) B9.isinstance PyProof.Rows.boot_isinstance (pa_cons (pv 0) (pa_cons (pe_bltn (v := .ty "int") (by rfl) B9.int (by decide +kernel) rfl) pa_nil))) (pe_one (pe_not (pe_callB call_isi (by rfl) B9.isinstance PyProof.Rows.boot_isinstance (pa_cons (pv 0) (pa_cons (pe_bltn (v := .ty "bool") (by rfl) B9.bool (by decide +kernel) rfl) pa_nil)))))))), ?_⟩
    refine ⟨_, rfl, v, .ty "int", .type (tyName d), .type "int", _, rfl, .ty "int", hd.ty, kit_int d, _, rfl, ?_⟩
    cases hi : (isIntD d || isBoolD d) with
    | false =>
      have e : isIntD d = false := (Bool.or_eq_false_iff.mp hi).1
      rw [e] at k
      exact iF rfl k
    | true =>
      refine iT rfl ?_
      refine ⟨_, rfl, v, .ty "bool", .type (tyName d), .type "bool", isBoolD d, rfl, .ty "bool", hd.ty, kit_bool d, _, rfl, ?_⟩
      have e : isIntD d = !isBoolD d := by cases d <;> first | rfl | cases hi
      rw [e] at k
      exact k
abbrev s_is_whole : Stmt := topS 21
abbrev N_is_whole : List Str := ["value"]
theorem sc_is_whole : FnScope N_is_whole ["value"] (defScope s_is_whole) := ⟨rfl, rfl, rfl, by decide +kernel, rfl, by decide +kernel, by decide +kernel⟩
def spWhole : Sp := fun vs H Q _ => ∃ (t : Addr) (v : V) (d : PyData), vs = [v] ∧ Da t H v d ∧ Q (.bl (isWholeD d)) H
theorem ok_whole {f : Addr} {fd : FuncData} (F : Fun K "is_whole" "is_whole" s_is_whole f fd) (M : Mn K w mg bA es nb) (D_is_integer : Kn P w K mg base 1 "is_integer" ["value"] spInt) : FnOk P w K mg base CX0 2 f fd ["value"] spWhole := by
  refine F.ok sc_is_whole (fun vs H Q E h => ?_) (fun cdv A outer s H vs Q E hr h => ?_)
  · obtain ⟨t, v, d, rfl, _⟩ := h
    rfl
  · obtain ⟨t, v, d, rfl, hd, k⟩ := h
    have hr_is_integer : Room 1 _ := hr
    refine ⟨_, (pss_one (ps_ret (pe_and (pe_kn D_is_integer hr_is_integer (pa_cons (pv 0) pa_nil)) (pe_one (pe_chain op_le op_le (pe_un un_neg (pe_gc (by rfl) M.BOUND)) (pv 0) (pe_gc (by rfl) M.BOUND)))))), ?_⟩
    refine ⟨_, rfl, t, v, d, rfl, hd, ?_⟩
    refine ⟨_, rfl, ?_⟩
    cases hi : isIntD d with
    | false =>
      have e : isWholeD d = false := by cases d <;> first | rfl | cases hi
      rw [e] at k
      exact iF rfl k
    | true =>
      obtain ⟨i, rfl⟩ : ∃ i, d = .int i := by
        cases d with
        | int i => exact ⟨i, rfl⟩
        | _ => cases hi
      cases hd
      refine iT rfl ?_
      have e : isWholeD (.int i) = (decide (-(10 ^ 30) ≤ i) && decide (i ≤ 10 ^ 30)) := rfl
      rw [e] at k
      refine ⟨_, rfl, _, rfl, _, _, rfl, rfl, _, rfl, ?_⟩
      by_cases h1 : (-(10 ^ 30) : Int) ≤ i
      · rw [decide_eq_true h1] at k
        refine iT (decide_eq_true h1) ?_
        exact ⟨_, _, rfl, rfl, k⟩
      · rw [decide_eq_false h1] at k
        exact iF (decide_eq_false h1) k
abbrev s_is_text : Stmt := topS 22
abbrev N_is_text : List Str := ["value", "sign"]
theorem sc_is_text : FnScope N_is_text ["value"] (defScope s_is_text) := ⟨rfl, rfl, rfl, by decide +kernel, rfl, by decide +kernel, by decide +kernel⟩
def spText : Sp := fun vs H Q _ => ∃ (t : Addr) (v : V) (d : PyData), vs = [v] ∧ Da t H v d ∧ (∀ x, d = .str x → x.length ≤ 1000) ∧ ∀ H', Same H H' → Q (.bl (isTextD d)) H'
theorem ok_text {f : Addr} {fd : FuncData} (F : Fun K "is_text" "is_text" s_is_text f fd) (B : Bl mg) (B9 : Bl9 mg) (M : Mn K w mg bA es nb) : FnOk P w K mg base CX0 1 f fd ["value"] spText := by
  refine F.ok sc_is_text (fun vs H Q E h => ?_) (fun cdv A outer s H vs Q E hr h => ?_)
  · obtain ⟨t, v, d, rfl, _⟩ := h
    rfl
  · obtain ⟨t, v, d, rfl, hd, hx, k⟩ := h
    refine ⟨_, (pss_cons (ps_if (PW.pt (pw_or (pt_not (pt_val (pe_callB call_isi (by rfl) B9.isinstance PyProof.Rows.boot_isinstance (pa_cons (pv 0) (pa_cons (pe_bltn (v := .ty "str") (by rfl) B9.str_ (by decide +kernel) rfl) pa_nil))))) (pw_or1 (pt_cmpR op_gt (pe_callB call_len (by rfl) B.len PySem.boot_len (pa_cons (pv 0) pa_nil)) (pe_gc (by rfl) M.LONGEST_TEXT) (nomark _)))))
  (pss_one (ps_ret pe_bl))
  pss_nil)
  (pss_one (ps_ret (pe_callB (cr_all rfl) (by rfl) B9.all (by decide +kernel) (pa_cons (pe_lc (own := [("sign", 1)]) rfl sc_is_text.nd (pi_str (pv 0)) (blkOk_by (N := N_is_text) (sc := (defScope s_is_text)) (own := [("sign", 1)]) (by decide +kernel)) (fun _ _ _ _ _ => (pg_name (i := 1) sc_is_text.nd rfl (Or.inl rfl))) (fun _ _ _ _ _ => pts_nil) (fun _ _ _ _ _ => (pe_and (pe_chain op_le op_le pe_int (pe_callB call_ord (by rfl) B9.ord PyProof.Rows.boot_ord (pa_cons (pv 1) pa_nil)) pe_int) (pe_one (pe_cmpR op_ne (pe_callB call_ord (by rfl) B9.ord PyProof.Rows.boot_ord (pa_cons (pv 1) pa_nil)) pe_int (nomark _)))))) pa_nil))))), ?_⟩
    refine ⟨_, rfl, v, .ty "str", .type (tyName d), .type "str", isStr d, rfl, .ty "str", hd.ty, kit_str d, _, rfl, ?_⟩
    cases hs : isStr d with
    | false =>
      have e : isTextD d = false := by cases d <;> first | rfl | cases hs
      rw [e] at k
      refine iT rfl ?_
      exact iT rfl (k H (Same.refl H))
    | true =>
      obtain ⟨x, rfl⟩ : ∃ x, d = .str x := by
        cases d with
        | str x => exact ⟨x, rfl⟩
        | _ => cases hs
      cases hd
      have lx := hx x rfl
      refine iF rfl ?_
      refine ⟨_, rfl, .str x, x.length, rfl, ⟨by rw [sizeLine_eq]; omega, rfl⟩, _, _, rfl, rfl, ?_⟩
      refine ⟨_, rfl, ?_⟩
      by_cases h1 : (x.length : Int) > 200
      · refine iT (decide_eq_true h1) ?_
        have e : isTextD (.str x) = false := by
          show (decide (x.length ≤ 200) && _) = false
          rw [decide_eq_false (by omega)]
          rfl
        rw [e] at k
        exact k H (Same.refl H)
      · refine iF (decide_eq_false h1) ?_
        have e : isTextD (.str x) = x.cps.toList.all sgnT := by
          show (decide (x.length ≤ 200) && _) = _
          rw [decide_eq_true (by omega), ← Array.all_toList]
          rfl
        rw [e] at k
        refine ⟨_, rfl, x, rfl, fun D hD => lc_it walk_str (fun i H' => Same H H' ∧ H' D = some (.lst (((x.cps.toList.take i).map sgnT).map V.bl))) ⟨same_new hD, upd_same⟩ (fun i H' _ _ => trivial) ?_ ?_⟩
        · rintro i y H1 H2 hi ⟨s1, g1⟩ ⟨rfl, c, ec, rfl⟩
          refine ⟨rfl, ?_⟩
          have ec' : x.cps.toList[i]? = some c := by simpa using ec
          have hi' : i < x.length := hi
          have fin : ∀ b : Bool, b = sgnT c → ∃ acc, H2 D = some (.lst acc) ∧ acc.length < sizeLine ∧ Same H (upd H2 D (.lst (acc ++ [V.bl b]))) ∧ upd H2 D (.lst (acc ++ [V.bl b])) D = some (.lst (((x.cps.toList.take (i + 1)).map sgnT).map V.bl)) := fun b eb => by
            refine ⟨_, g1, szl (by simp; omega), fun b o e => ?_, ?_⟩
            · rw [upd_ne (ne_of_none e hD)]
              exact s1 _ _ e
            · rw [upd_same, List.take_add_one, ec', eb]
              simp
          refine ⟨_, rfl, ⟨#[c]⟩, rfl, rfl, _, _, rfl, rfl, _, rfl, ?_⟩
          show if decide ((32 : Int) ≤ (c : Int)) = true then _ else _
          by_cases q1 : 32 ≤ c
          · refine iT (decide_eq_true (by omega)) ?_
            refine ⟨_, _, rfl, rfl, _, rfl, ?_⟩
            show if decide ((c : Int) ≤ 126) = true then _ else _
            by_cases q2 : c ≤ 126
            · refine iT (decide_eq_true (by omega)) ?_
              refine ⟨_, rfl, ⟨#[c]⟩, rfl, rfl, rfl, ?_⟩
              refine fin _ ?_
              unfold sgnT
              rw [decide_eq_true q1, decide_eq_true q2]
              show (!decide (V.int (c : Int) = V.int 37)) = _
              by_cases q3 : c = 37
              · rw [decide_eq_true q3, decide_eq_true (by rw [q3]; rfl)]
                rfl
              · rw [decide_eq_false q3, decide_eq_false (fun z => q3 (by injection z with z; omega))]
                rfl
            · refine iF (decide_eq_false (by omega)) ?_
              refine fin _ ?_
              unfold sgnT
              rw [decide_eq_false q2]
              simp
          · refine iF (decide_eq_false (by omega)) ?_
            refine ⟨_, rfl, iF rfl (fin _ ?_)⟩
            unfold sgnT
            rw [decide_eq_false q1]
            simp
        · rintro H1 ⟨s1, g1⟩
          rw [List.take_of_length_le (by simp)] at g1
          refine ⟨D, _, rfl, SqL.of g1, ?_⟩
          have ew : (x.cps.toList.map sgnT).all id = x.cps.toList.all sgnT := by
            rw [List.all_map]
            rfl
          rw [ew]
          exact k H1 s1
end
end L3

/-! list(reversed(t)) of a tuple -/
namespace L3
open PySem PySem.Spec PyProof.Rows L2 RT
theorem nolen_rt : typeLookup (.type "reversed") "__len__" = pure none := by rw [typeLookup_type, builtinLookup_eq_fast]; kernel_rfl
theorem hint_rt : typeLookup (.type "reversed") "__length_hint__" = pure (some (.builtin "reversed.__length_hint__")) := by rw [typeLookup_type, builtinLookup_eq_fast]; kernel_rfl
theorem walks_rt {prog : Program} {w : World} {A : Around} (hh : A.handled = none) (I t : Addr) (hne : t ≠ I) (items : Array Value) (hn : items.size ≤ sizeLine) :
    Walks prog w A I [I, t] [I] items.size (fun i v => items[items.size - 1 - i]? = some v) (fun i h => i ≤ items.size ∧ IsRt h I t ((items.size : Int) - 1 - (i : Int)) ∧ IsTup h t items) where
  sub := fun b hb => by simp at hb; simp [hb]
  frame := fun _ _ _ x hk => ⟨x.1, x.2.1.at fun o e => hk I (by simp) o e, by
    obtain ⟨o, ho, r⟩ := x.2.2
    exact ⟨o, hk t (by simp) o ho, r⟩⟩
  item := fun i s Q E hi x hQ => by
    have e : (items.size : Int) - 1 - (i : Int) = ((items.size - 1 - i : Nat) : Int) := by omega
    have hit := x.2.1
    rw [e] at hit
    have hx : items[items.size - 1 - i]? = some (items[items.size - 1 - i]'(by omega)) := Array.getElem?_eq_getElem (by omega)
    refine next_rt_item hit x.2.2 hx hn fun h' hit' hs' => ?_
    have e2 : ((items.size - 1 - i : Nat) : Int) - 1 = (items.size : Int) - 1 - ((i + 1 : Nat) : Int) := by omega
    rw [e2] at hit'
    refine hQ _ h' (s.toks + 1) hx ⟨hi, hit', ?_⟩ fun b o hb eo => hs'.extBut b o (fun h => hb (by simp [h])) eo
    obtain ⟨o, ho, r⟩ := x.2.2
    exact ⟨o, (hs'.2 t hne).trans ho, r⟩
  done := fun s Q E x hQ => by
    have e : (items.size : Int) - 1 - (items.size : Int) = -1 := by omega
    have hit := x.2.1
    rw [e] at hit
    exact next_rt_end hh hit fun h' he' => hQ h' s.toks fun b o hb eo => he' b o (fun h => hb (by simp [h])) eo
  self := fun _ _ _ _ x hQ => iter_rt x.2.1 hQ
theorem asInt_int (n : Int) (tk : Nat) : asInt? (Value.int n tk) = pure (some n) := rfl
theorem slot_rt_hint : Slot "reversed" "__length_hint__" "reversed.__length_hint__" :=
  .of (owner := "reversed") (n := "__length_hint__") (by rw [typeLookup_type, builtinLookup_eq_fast]; kernel_rfl) (by decide +kernel) (by decide +kernel) (by decide +kernel)
    (by first | exact .inl (by decide +kernel) | exact .inr (by decide +kernel)) (by rw [isSubtype_type]; kernel_rfl)
theorem entry_rt_hint : entryFor table "reversed.__length_hint__" = some Builtin.«reversed.__length_hint__» := entryFor_of_tree (by kernel_rfl)
theorem args_rt_hint (a : Value) : argsOk "reversed.__length_hint__" ⟨[a], []⟩ := by
  unfold argsOk; rw [signature?_of (id := "reversed.__length_hint__") (n := ['_', '_', 't', 'n', 'i', 'h', '_', 'h', 't', 'g', 'n', 'e', 'l', '_', '_']) (o := ['d', 'e', 's', 'r', 'e', 'v', 'e', 'r']) (by kernel_rfl) owner_rt]; kernel_rfl
section
variable {prog : Program} {w : World} {A : Around} {E : Value → Shared → Prop} {s : Shared}
theorem hint_rt_call {it t : Addr} {items : Array Value} {Q : Value → Shared → Prop} (hit : IsRt s.heap it t ((items.size : Int) - 1)) (ht : IsTup s.heap t items) (hn : items.size ≤ sizeLine)
    (q : ∀ tk tk', Q (.int (items.size : Int) tk) { s with toks := tk' }) : wpAny (model prog w) A (call (.builtin "reversed.__length_hint__") [.ref it]) Q E s := by
  obtain ⟨o, ho, hc, hd⟩ := id hit
  have hn' := hn
  rw [sizeLine_eq] at hn'
  refine wpAny_call_entry slot_rt_hint hit.typeIs entry_rt_hint ?_ (args_rt_hint _)
  unfold Builtin.«reversed.__length_hint__»
  refine wpAny_bind (wpAny_of_eq (a := Value.ref it) rfl ?_)
  try dsimp only
  refine wpAny_bind (wpAny_field ho hd (x := .ref t) rfl ?_)
  rw [if_neg (show ¬ ((Value.ref t == Value.none) = true) from Bool.false_ne_true)]
  try dsimp only
  refine wpAny_bind (len_tuple ht (by omega) ?_)
  refine wpAny_bind (wpAny_of_eq (a := some ((items.size : Nat) : Int)) rfl ?_)
  try dsimp only
  refine wpAny_bind (wpAny_field (s := { s with toks := s.toks + 1 + 1 }) ho hd (x := rawInt ((items.size : Int) - 1)) rfl ?_)
  show wpAny _ _ (if ((items.size : Nat) : Int) < (items.size : Int) - 1 + 1 then _ else _) _ _ _
  rw [if_neg (by omega)]
  unfold retInt
  refine wpAny_bind (wpAny_mkInt ?_)
  refine wpAny_pure ⟨_, rfl, ?_⟩
  rw [show (items.size : Int) - 1 + 1 = (items.size : Int) by omega]
  exact q _ _
theorem call_list_rt {it t : Addr} {items : Array Value} {Q : Value → Shared → Prop} (hh : A.handled = none) (hit : IsRt s.heap it t ((items.size : Int) - 1)) (ht : IsTup s.heap t items) (hne : t ≠ it) (hn : items.size ≤ sizeLine)
    (q : ∀ h' tk acc c, (∀ b o, b ≠ it → s.heap.get? b = some o → h'.get? b = some o) → h'.get? s.heap.objs.size = some { cls := .type "list", dict := none, data := .seq acc c, slots := #[] } → ItemsOf (fun i v => items[items.size - 1 - i]? = some v) acc items.size →
      Q (.ref s.heap.objs.size) { s with heap := h', toks := tk }) : wpAny (model prog w) A (call (.type "list") [.ref it]) Q E s := by
  have W := (walks_rt (prog := prog) (w := w) (A := A.in1.in1) hh it t hne items hn).toS
  obtain ⟨oi, hoi, _⟩ := id hit
  obtain ⟨ot, hot, _⟩ := id ht
  have zlt : it < s.heap.objs.size := Heap.lt_size hoi
  have tlt : t < s.heap.objs.size := Heap.lt_size hot
  refine callType_codes (Q₁ := fun obj s' => obj = .ref s.heap.objs.size ∧ s' = { s with heap := s.heap.push { cls := .type "list", data := .seq #[] } }) PySem.F.called_list (PySem.F.typeCall_list_1 _) PySem.F.entry_list_init (code_list_new _ ⟨rfl, rfl⟩) ?_
  rintro obj s' ⟨rfl, rfl⟩
  have at0 : (s.heap.push { cls := .type "list", data := .seq #[] }).get? s.heap.objs.size = some { cls := .type "list", data := .seq #[] } := Heap.get?_push_size _ rfl
  refine ⟨⟨_, at0, rfl⟩, PySem.F.args_list_init_2 _ _, ?_⟩
  show wpAny _ A.in1.in1 (do let old ← Builtin.List.listItems (.ref s.heap.objs.size); Builtin.List.listUpdate (.ref s.heap.objs.size) (fun _ => #[]); letGo old.toList.reverse; Builtin.List.listExtendWith (.ref s.heap.objs.size) (.ref it) .none) _ _ _
  refine wpAny_bind ?_
  unfold Builtin.List.listItems
  refine wpAny_bind (wpAny_seqItems at0 rfl (wpAny_pure ?_))
  show wpAny _ A.in1.in1 (updateSeq s.heap.objs.size (fun _ => #[]) >>= fun _ => letGo (#[] : Array Value).toList.reverse >>= fun _ => Builtin.List.listExtendWith (.ref s.heap.objs.size) (.ref it) .none) _ _ _
  refine wpAny_bind (wpAny_updateSeq at0 rfl (wpAny_bind (wpAny_letGo ?_)))
  have at1 := Heap.get?_update_self (Obj.mapSeq (fun _ => (#[] : Array Value))) at0 rfl
  have k1 : ∀ b o, s.heap.get? b = some o → ((s.heap.push { cls := .type "list", data := .seq #[] }).update s.heap.objs.size (Obj.mapSeq (fun _ => (#[] : Array Value)))).get? b = some o :=
    fun b o e => (Heap.get?_update_other _ _ (Nat.ne_of_gt (Heap.lt_size e))).trans (Heap.get?_push_of_some _ e)
  generalize (s.heap.push { cls := .type "list", data := .seq #[] }).update s.heap.objs.size (Obj.mapSeq (fun _ => (#[] : Array Value))) = g1 at at1 k1 ⊢
  have hit1 : IsRt g1 it t ((items.size : Int) - 1) := hit.at fun o e => k1 _ o e
  have ht1 : IsTup g1 t items := by
    obtain ⟨o, ho, r⟩ := ht
    exact ⟨o, k1 _ _ ho, r⟩
  have isz : ({ s with heap := g1 } : Shared).TypeIs (.ref it) "reversed" := IsRt.typeIs (s := { s with heap := g1 }) hit1
  have nsame : Builtin.List.listSameRef (.ref s.heap.objs.size) (.ref it) = false := by simp [Builtin.List.listSameRef, Nat.ne_of_gt zlt]
  have zz : (Value.type "reversed" == Value.type "list") = false := by decide
  have zt : (Value.type "reversed" == Value.type "tuple") = false := by decide
  unfold Builtin.List.listExtendWith
  refine wpAny_bind (wpAny_typeOf isz ?_)
  simp only [nsame, zz, zt, Bool.or_false, Bool.false_eq_true, if_false]
  refine wpAny_bind (iter_rt (s := { s with heap := g1 }) hit1 (wpAny_bind (wpAny_holding ?_)))
  unfold Builtin.List.listLengthHint
  refine wpAny_bind (wpAny_specialOf isz nolen_rt ?_)
  show wpAny _ A.in1.in1 (specialOf (Value.ref it) (Str.ofString "__length_hint__") >>= _) _ _ _
  refine wpAny_bind (wpAny_specialOf isz hint_rt ?_)
  generalize hid : ("reversed.__length_hint__" : String) = id0
  wp_delta
  rw [show splitId id0 = some ("reversed", "__length_hint__") from by subst hid; decide +kernel]
  subst hid
  refine wpAny_bind (wpAny_isInstance (b := true) isz (by rw [isSubtype_type]; kernel_rfl) ?_)
  rw [if_neg (by decide)]
  try dsimp only
  rw [if_neg (by decide +kernel)]
  refine wpAny_bind (wpAny_rule ?_)
  refine wpAny_bind (wpAny_of_eq (slot_rt_hint.bind _) ?_)
  try dsimp only
  refine wpAny_bind (wpAny_attempt (hint_rt_call (s := { s with heap := g1 }) hit1 ht1 hn fun tk tk' => ?_))
  try dsimp only
  have hS : ∀ (g2 : Heap) (c : Nat) (tk2 : Nat), (∀ b o, s.heap.get? b = some o → g2.get? b = some o) → g2.get? s.heap.objs.size = some { cls := .type "list", dict := none, data := .seq #[] c, slots := #[] } →
      codeAny (model prog w) A.in1 (.builtin "list.extend.loop" ⟨[.ref s.heap.objs.size, .ref it, .none], []⟩) (wants (fun r s₂ => r = Value.none ∧ Q (Value.ref s.heap.objs.size) s₂) E) { s with heap := g2, toks := tk2 } := by
    intro g2 c tk2 k2 at2
    have e0 : ((items.size : Nat) : Int) - 1 - ((0 : Nat) : Int) = (items.size : Int) - 1 := by omega
    refine codeAny_extend_loopS W hn _ ?_ .none items.size 0 { s with heap := g2, toks := tk2 } #[] c rfl (Nat.zero_le _) ⟨Nat.zero_le _, by rw [e0]; exact hit.at fun o e => k2 _ o e, by
      obtain ⟨o, ho, r⟩ := ht
      exact ⟨o, k2 _ _ ho, r⟩⟩ at2 (ItemsOf.nil _) fun s' acc' c' hm hS' hacc => ?_
    · simp only [List.mem_cons, List.not_mem_nil, or_false, not_or]
      exact ⟨Nat.ne_of_gt zlt, Nat.ne_of_gt tlt⟩
    · refine ⟨rfl, ?_⟩
      rw [Moved.eq_with hm]
      refine q s'.heap s'.toks acc' c' (fun b o hb e => hm.heap b o (fun hmem => ?_) (k2 _ _ e)) hS' hacc
      rcases List.mem_cons.mp hmem with e' | hmem
      · exact absurd (Heap.lt_size e) (by rw [e']; exact Nat.lt_irrefl _)
      · exact hb (List.mem_singleton.mp hmem)
  have hz0 : 0 ≤ (items.size : Int) := by omega
  have hz1 : (items.size : Int) < 2 ^ 63 := by
    rw [sizeLine_eq] at hn
    omega
  have hz2 : (items.size : Int).toNat ≤ sizeLine := by
    rw [Int.toNat_natCast]
    exact hn
  generalize ((items.size : Nat) : Int) = z at hz0 hz1 hz2 ⊢
  refine wpAny_bind (wpAny_of_eq (asInt_int z tk) ?_)
  try dsimp only
  rw [if_neg (by
    have : Builtin.List.listFitsIndex z = true := by
      unfold Builtin.List.listFitsIndex
      simp only [Bool.and_eq_true, decide_eq_true_eq]
      omega
    rw [this]; decide), if_neg (by omega), if_neg (by
    unfold Builtin.List.listTooLong
    simp only [decide_eq_true_eq]
    omega)]
  refine wpAny_pure ?_
  split
  · refine wpAny_bind (wpAny_rule (wpAny_bind ?_))
    show wpAny _ A.in1.in1 (updateSeq s.heap.objs.size (·.push .none) >>= fun _ => updateSeq s.heap.objs.size (·.pop)) _ _ _
    refine wpAny_bind (wpAny_updateSeq at1 rfl ?_)
    have at2 := Heap.get?_update_self (Obj.mapSeq (·.push Value.none)) at1 rfl
    refine wpAny_updateSeq (hz := by seq_fits) at2 rfl ?_
    have at3 := Heap.get?_update_self (Obj.mapSeq (·.pop)) at2 rfl
    refine wpAny_pure ⟨plainId_quiet F.plain_extend_loop _, ?_⟩
    refine hS _ _ tk' (fun b o e => ?_) at3
    have nb := Nat.ne_of_gt (Heap.lt_size e)
    exact (Heap.get?_update_other _ _ nb).trans ((Heap.get?_update_other _ _ nb).trans (k1 b o e))
  · refine wpAny_pure ⟨plainId_quiet F.plain_extend_loop _, ?_⟩
    exact hS g1 _ tk' k1 at1
end
/-- list(reversed(t)), t a tuple -/
def tListRevT (K : PySem.W.Frag) (te : TE) : TE := fun σ H Q => te σ H fun v H1 => ∃ (a : Addr) (xs : List V), v = .ref a ∧ SqT K H1 a xs ∧ ∀ q, H1 q = none → Q (.ref q) (upd H1 q (.lst xs.reverse))
theorem pe_listRevT {X : Cx} {e : Expr} {te : TE} {p p2 pos pos2 : Pos} (hc : X.calm = true) (hg : Gl X "list") (hm : X.mg "list" = none) (hg2 : Gl X "reversed") (hm2 : X.mg "reversed" = none) (he : PE X e te)
    (hs : starEach [e] X.env = (false, eval e X.env) :: starEach [] X.env := by rfl)
    (hs2 : starEach [.Call (.Name "reversed" p2) [e] [] pos2] X.env = (false, eval (.Call (.Name "reversed" p2) [e] [] pos2) X.env) :: starEach [] X.env := by rfl) :
    PE X (.Call (.Name "list" p) [.Call (.Name "reversed" p2) [e] [] pos2] [] pos) (tListRevT X.K te) := by
  refine ⟨fun pins s σ H Q I h => ?_⟩
  refine Call_ (ld_blt I hg hm (show bootBuiltins "list" = some (Value.type "list") by decide +kernel) (PyProof.Rows.callWith_type1 (args_cons (Call_ (ld_blt I hg2 hm2 PyProof.Rows.boot_reversed (PyProof.Rows.callWith_type1 (args_cons (thn (he.run pins s σ H _ I h) fun u s1 ⟨v, H1, I1, r1, q1⟩ => args_nil ?_) hs) hs rfl))) hs2) hs2 rfl))
  obtain ⟨a, xs, ev, hq, q⟩ := q1
  subst ev
  obtain rfl : u = Value.ref a := r1
  obtain ⟨its, rv, p', hz⟩ := I1.tuple hq
  have hl := rv.length
  have hn63 := line63
  have hn : its.toArray.size ≤ sizeLine := by rw [List.size_toArray, ← rv.length]; exact hz
  refine call_reversed_tup p' (fun A E Q k => len_tuple p' (by simp only [List.size_toArray] <;> omega) k) (args_nil ?_)
  have k0 : ∀ b o, s1.heap.get? b = some o → (s1.heap.push (rtObj a ((its.toArray.size : Int) - 1))).get? b = some o := fun b o e => Heap.get?_push_of_some _ e
  obtain ⟨ol, hol, _⟩ := id p'
  have hne : a ≠ s1.heap.objs.size := Nat.ne_of_lt (Heap.lt_size hol)
  refine call_list_rt (s := { s1 with heap := s1.heap.push (rtObj a ((its.toArray.size : Int) - 1)), toks := s1.toks + 1 + 1 }) (I1.ok.hd hc) ⟨_, Heap.get?_push_size _ rfl, rfl, rfl⟩ (by
    obtain ⟨o, ho, r⟩ := p'
    exact ⟨o, k0 _ _ ho, r⟩) hne hn fun h' tk acc c hk at' hi => ?_
  have kk : ∀ b o, s1.heap.get? b = some o → h'.get? b = some o := fun b o e => hk b o (Nat.ne_of_lt (Heap.lt_size e)) (k0 b o e)
  have le : s1.heap.objs.size ≤ (s1.heap.push (rtObj a ((its.toArray.size : Int) - 1))).objs.size := by
    have z : (s1.heap.push (rtObj a ((its.toArray.size : Int) - 1))).get? s1.heap.objs.size = some (rtObj a ((its.toArray.size : Int) - 1)) := Heap.get?_push_size _ rfl
    exact Nat.le_of_lt (Heap.lt_size z)
  exact ⟨.ref _, upd H1 _ (.lst xs.reverse), I1.laid (t' := tk) kk le (show ObjOk X.prog X.w _ h' _ (.lst xs.reverse) from ⟨by rw [List.length_reverse]; exact hz, acc.toList, c, vals_rev rv hi, by rw [Array.toArray_toList]; exact at'⟩), rfl, q _ (I1.hok.fresh le)⟩
end L3

/-! defs with a star parameter, known by their names -/
namespace L3
open PySem PySem.Spec PyProof.Rows L2 StX
structure KnR (P : Program) (w : World) (K : PySem.W.Frag) (mg : Str → Option Value) (base : Heap) (k : Nat) (x : Str) (sp : Sp) : Prop where
  ex : ∃ (f : Addr), FnR P w K mg base CX0 k f sp ∧ mg x = some (.ref f) ∧ PySem.W.keepIn K (.ref f) = true
def tCallR (sp : Sp) (t : TA) : TE := fun σ H Q => t σ H fun vs H1 => sp vs H1 Q E0
def tCallS (K : PySem.W.Frag) (sp : Sp) (te : TE) : TE := fun σ H Q => te σ H fun y H1 => ∃ a xs, y = V.ref a ∧ (SqT K H1 a xs ∨ SqL K H1 a xs) ∧ sp xs H1 Q E0
section
variable {X : Cx} {x : Str} {k : Nat} {sp : Sp} {e : Expr} {es : List Expr} {te : TE} {t : TA} {p sp_ pos : Pos}
theorem pe_ks (D : KnR X.prog X.w X.K X.mg X.base k x sp) (hr : Room k X.A) (ha : PA X (e :: es) t) (hg : Gl X x := by rfl) (hdb : (x == ("__debug__" : Str)) = false := by decide)
    (he : starEach (e :: es) X.env = (false, eval e X.env) :: starEach es X.env := by rfl) (hpl : (backTo pos (starEach es X.env)).any (·.1) = false := by rfl) :
    PE X (.Call (.Name x p) (e :: es) [] pos) (tCallR sp t) := by
  obtain ⟨f, F, hm, hk⟩ := D.ex
  refine ⟨fun pins s σ H Q I h => ?_⟩
  refine wpAny_Call_Name_kw (ld_glob I hg hm ?_ hdb)
  refine PySem.W.callWith_K (h₀ := X.base) I.ok.mod.kin hk (thn (ha.run pos pins s σ H _ I h) fun us s1 ⟨vs, H1, I1, r, q⟩ => ⟨I1.kIn, ?_⟩) he hpl
  exact wpAny_call (run_fnR F hr pass0 I1 r q)
theorem pe_ks0 (D : KnR X.prog X.w X.K X.mg X.base k x sp) (hr : Room k X.A) (hg : Gl X x := by rfl) (hdb : (x == ("__debug__" : Str)) = false := by decide) : PE X (.Call (.Name x p) [] [] pos) (tCallR sp tNil) := by
  obtain ⟨f, F, hm, hk⟩ := D.ex
  refine ⟨fun pins s σ H Q I h => ?_⟩
  refine wpAny_Call_Name_kw (ld_glob I hg hm ?_ hdb)
  exact PySem.W.callWith_K0 I.kIn hk (wpAny_call (run_fnR (us := []) F hr pass0 I .nil h))
theorem pe_ks1 (D : KnR X.prog X.w X.K X.mg X.base k x sp) (hr : Room k X.A) (he : PE X e te) (hg : Gl X x := by rfl) (hd : (x == ("__debug__" : Str)) = false := by decide)
    (hst : starEach [.Starred e sp_] X.env = [(true, eval e X.env)] := by rfl) :
    PE X (.Call (.Name x p) [.Starred e sp_] [] pos) (tCallS X.K sp te) := by
  obtain ⟨f, F, hm, hk⟩ := D.ex
  exact pe_callS1 F hr hk hg hm pass0 he hd hst
end
section
variable {P : Program} {w : World} {K : PySem.W.Frag} {mg : Str → Option Value} {base : Heap}
/-- what a def with a star parameter is promised, by what it is promised of the tuple -/
def spStar (n : Nat) (sp : Sp) : Sp := fun vs H Q E => ∃ ws rest, vs = ws ++ rest ∧ ws.length = n ∧ rest.length ≤ sizeLine ∧ ∀ p, H p = none → sp (ws ++ [V.ref p]) (upd H p (.tup rest)) Q E
theorem fn_starK {x qual pv : Str} {st : Stmt} {f : Addr} {fd : FuncData} {N ps : List Str} {k : Nat} {sp : Sp} (F : Fun K x qual st f fd) (S : FnScope N (ps ++ [pv]) (defScope st))
    (hb : ∀ (kV doc pm : Value) (an : Option Addr) (cdv ct : Value) (us rest : List Value), us.length = ps.length → bindArgs (PySem.W.fnOf x qual (defArgs st) (defBody st) (defScope st) .none kV doc pm an cdv ct) ⟨us ++ rest, []⟩ = (newTuple rest >>= fun t => pure (ps.zip us ++ [(pv, t)])))
    (hbody : ∀ (cdv : Value) (A : Around) (outer : List Env) (s : Shared) (H : Hp) (vs : List V) (Q : VK) (E : XK), Room k (A.deeper (envOfC qual (defScope st) s.heap.objs.size f cdv)) → sp vs H Q E →
      ∃ t, PSs (cxOf CX0 P w K mg base N qual (defScope st) f cdv A outer s H E).nox (defBody st) t ∧ t { nx := fun _ H' => Q .non H', rt := Q } (start N vs) H) : FnR P w K mg base CX0 (k + 1) f (spStar ps.length sp) := by
  obtain ⟨oc, od, kV, doc, pm, an, cdv, ct, osl, rfl, lk, hcd⟩ := F.ex
  exact fn_star lk hcd S (fun _ _ _ _ _ _ _ _ _ _ _ z => z) (hb kV doc pm an cdv ct) fun A outer s H vs Q E hr h => by
    obtain ⟨t, ht, q⟩ := hbody cdv A outer s H vs Q E hr h
    exact ⟨t, PSs.nox ht, q⟩
end
end L3

/-! enumerate(t), t a tuple -/
namespace L3
open PySem PySem.Spec PyProof.Rows L2
open Sem (wp)
/-- the pairs (i, t[i]), each new -/
def Iet (K : PySem.W.Frag) (a : Addr) : It :=
  ⟨fun i H => ∃ (xs : List V) (x : V), SqT K H a xs ∧ xs[i]? = some x, fun i H v H' => ∃ T x, v = .ref T ∧ H T = none ∧ H' = upd H T (.tup [.int (i : Nat), x]) ∧ ∀ xs, SqT K H a xs → xs[i]? = some x, fun i H => ∃ xs : List V, SqT K H a xs ∧ xs.length = i⟩
theorem turn_enumT {P : Program} {w : World} {K : PySem.W.Frag} {elts : List Expr} {kk : Nat} {tpos : Pos} (a e it : Addr) (na : a ≠ it) (nae : a ≠ e) :
    Turn P w K (.Tuple elts kk tpos) (Iet K a) [e, it] e (fun i h => (∃ old, IsEnum h e it ((i : Nat) : Int) old) ∧ h.IsTupleIter it a i ∧ e ≠ it) where
  mem := List.mem_cons_self ..
  obj := by
    rintro i h ⟨⟨old, he⟩, ⟨o, ho, hc, hd⟩, _⟩ b hb
    rcases List.mem_cons.mp hb with z | z
    · rw [z]; exact ⟨_, he, fun v q => nomatch q⟩
    · have z := List.mem_singleton.mp z
      rw [z]; exact ⟨o, ho, fun v q => by rw [hd] at q; cases q⟩
  keep := by
    rintro i h h' ⟨⟨old, he⟩, hi, hne⟩ k
    exact ⟨⟨old, k e (by simp) _ he⟩, hi.at fun o q => k it (by simp) o q, hne⟩
  item := by
    intro X hP hw hK hc i pins s σ H E I hf st hg
    subst hP hw hK
    obtain ⟨⟨old, he⟩, hit, hne⟩ := st
    obtain ⟨xs, x, hq, hx⟩ := hg
    obtain ⟨its, rv, p, hz⟩ := I.tuple hq
    obtain ⟨u, hu, ru⟩ := rv.get hx
    have ht : s.heap.IsTuple a its.toArray := p
    have hel : e < s.heap.objs.size := Heap.lt_size he
    have hil : it < s.heap.objs.size := by obtain ⟨_, q, _⟩ := hit; exact Heap.lt_size q
    have lt : i < its.toArray.size := by
      obtain ⟨q, _⟩ := List.getElem?_eq_some_iff.mp hu
      simpa using q
    refine wpAny_pyNext_enum_itemD (Draws.tuple (A := X.A.in1) (show X.A.in1.handled = none from I.ok.hd hc) it a na its.toArray) he ⟨hit, ht⟩ lt hne (by simp [hne, nae.symm]) fun y h' tk hy ho hs' hT hsz hk => ?_
    have ey : y = u := by
      have h2 : its[i]? = some y := by simpa using hy
      rw [hu] at h2
      exact (Option.some.inj h2).symm
    subst ey
    refine ⟨_, rfl, wpAny_letOwnedTupleGo_enum (s := { s with heap := h', toks := tk + 1 }) ho fun h'' he' sb => ?_⟩
    have hT2 : h''.get? s.heap.objs.size = some { cls := .type "tuple", data := .seq #[.int i tk, y] } := (sb.2 _ (Nat.ne_of_gt hel)).trans hT
    have new : ObjOk X.prog X.w (upd H s.heap.objs.size (.tup [.int (i : Nat), x])) h'' s.heap.objs.size (.tup [.int (i : Nat), x]) :=
      ⟨by show 2 ≤ sizeLine; decide, [.int i tk, y], .cons ⟨_, rfl⟩ (.cons ru .nil), ⟨_, hT2, rfl, _, rfl⟩⟩
    have I1 : Inv X pins σ (upd H s.heap.objs.size (.tup [.int (i : Nat), x])) { s with heap := h'', toks := tk + 1 } :=
      I.turnedNew (ch := [e, it]) (fun b ob hb q => (sb.2 b (fun z => hb (by simp [z]))).trans (hk b ob (fun z => hb (by simp [z])) (fun z => hb (by simp [z])) q)) hf (Nat.le_refl _) new
    refine ⟨.ref s.heap.objs.size, _, I1, rfl, ⟨_, x, rfl, I.hok.fresh (Nat.le_refl _), rfl, fun ys hy => by rw [I.tuple_inj hy hq]; exact hx⟩, ⟨⟨y, ?_⟩, hs'.1.at fun o q => (sb.2 it (Ne.symm hne)).trans q, hne⟩, fun b hb => ?_⟩
    · have e1 : ((i + 1 : Nat) : Int) = (i : Int) + 1 := by omega
      rw [e1]; exact he'
    · have hb' : b < s.heap.objs.size := by
        rcases List.mem_cons.mp hb with z | z
        · rw [z]; exact hel
        · rw [List.mem_singleton.mp z]; exact hil
      rw [upd_ne (Nat.ne_of_lt hb')]
      exact (hf b hb).1
  done := by
    intro X hP hw hK hc i pins s σ H E I hf st hg
    subst hP hw hK
    obtain ⟨⟨old, he⟩, hit, hne⟩ := st
    obtain ⟨xs, hq, hx⟩ := hg
    obtain ⟨its, rv, p, hz⟩ := I.tuple hq
    have ht : s.heap.IsTuple a its.toArray := p
    obtain ⟨f0, f1, f2, f3, f4, f5⟩ := hf it (by simp)
    have hl := rv.length
    have ei : i = its.toArray.size := by simp; omega
    refine wpAny_pyNext_enum_endD (Draws.tuple (A := X.A.in1) (show X.A.in1.handled = none from I.ok.hd hc) it a na its.toArray) he ⟨ei ▸ hit, ht⟩ fun h' eb => ?_
    exact ⟨rfl, I.turned (t' := s.toks) (fun b o hb q => eb b o hb q) f0 f1 f3 f4 f5⟩
  self := fun A i s Q E st h => let ⟨⟨_, he⟩, _⟩ := st; wpAny_pyIter_enum he h
/-- what enumerate(v) makes: an iterator of v and the pair-maker above it -/
def twoNew (h : Heap) (o : Obj) : Heap := (h.push o).push { cls := .type "enumerate", data := .fields #[.none, .bool false, .ref h.objs.size, rawInt 0, .none, .none] }
theorem meets_enum1 {v : Value} {o : Obj} {G : Heap → Prop} (B : Begins v o G) : Meets (Builtin.«enumerate.__new__» ⟨[.type "enumerate", v], []⟩) (fun _ R s => G s.heap ∧ R (.ok (.ret (.ref (s.heap.push o).objs.size))) { s with heap := twoNew s.heap o }) :=
  .of_wp fun prog w A R s h => by
    obtain ⟨hp, g, d, tk, os⟩ := s
    obtain ⟨h1, h⟩ := h
    have hsub := sub_enumerate
    have q1 : ∀ {A' : Around} {E : Value → Shared → Prop} {Q : Value → Shared → Prop}, Q (.ref hp.objs.size) ⟨hp.push o, g, d, tk, os⟩ → wpAny (model prog w) A' (pyIter v) Q E ⟨hp, g, d, tk, os⟩ := fun q => B.iter prog w _ _ ⟨hp, g, d, tk, os⟩ _ h1 q
    wp_walk using q1
    refine wpAny_stack_any fun st => wpAny_pure ?_
    split
    · rename_i c _ _ _ _ _
      cases (c == Value.type "enumerate") <;> (wp_walk using q1; exact ⟨_, rfl, h⟩)
    · wp_walk using q1
      exact ⟨_, rfl, h⟩
theorem call_enum1 {prog : Program} {w : World} {A : Around} {E : Value → Shared → Prop} {s : Shared} {v : Value} {o : Obj} {G : Heap → Prop} {Q : Value → Shared → Prop} (B : Begins v o G) (h1 : G s.heap)
    (h : ∀ h', IsEnum h' (s.heap.objs.size + 1) s.heap.objs.size 0 .none → h'.get? s.heap.objs.size = some o → (∀ b q, s.heap.get? b = some q → h'.get? b = some q) → Q (.ref (s.heap.objs.size + 1)) { s with heap := h' }) :
    wpAny (model prog w) A (call (.type "enumerate") [v]) Q E s := by
  have hz : (s.heap.push o).objs.size = s.heap.objs.size + 1 := Heap.size_push ..
  refine callType_new F.called_enumerate (by decide) (F.typeCall_enumerate_1 _) (F.newCall_enumerate_1 _) (fun obj => F.args_object_init_2 obj _) F.entry_enumerate_new (meets_enum1 B) ⟨h1, ?_⟩
  show _ ∧ _
  rw [hz]
  have he : IsEnum (twoNew s.heap o) (s.heap.objs.size + 1) s.heap.objs.size 0 .none := by
    rw [← hz]
    exact Heap.get?_push_size _ rfl
  exact ⟨⟨_, he, rfl⟩, h _ he (Heap.get?_push_of_some _ (Heap.get?_push_size _ B.free)) fun b q x => Heap.get?_push_of_some _ (Heap.get?_push_of_some _ x)⟩
def iEnumT (K : PySem.W.Frag) (ta : TA) : TI := fun σ H R => ta σ H fun vs H1 => ∃ a xs, vs = [.ref a] ∧ SqT K H1 a xs ∧ R (Iet K a) H1
theorem pi_enumT {X : Cx} {e : Expr} {ta : TA} {p pos tpos : Pos} {elts : List Expr} {kk : Nat} (hg : Gl X "enumerate") (hm : X.mg "enumerate" = none) (ha : PA X [e] ta) (hs : starEach [e] X.env = [(false, eval e X.env)] := by rfl) :
    PI X (.Tuple elts kk tpos) (.Call (.Name "enumerate" p) [e] [] pos) (iEnumT X.K ta) := by
  refine ⟨fun pins s σ H R I h => ?_⟩
  refine Call_ (ld_blt I hg hm boot_enumerate (PyProof.Rows.callWith_type1 (thn (ha.run pos pins s σ H _ I h) fun us s1 ⟨vs, H1, I1, r1, q1⟩ => ?_) hs rfl))
  obtain ⟨a, xs, rfl, hq, q⟩ := q1
  obtain ⟨u, rfl, ru⟩ := vals1 r1
  cases ru
  obtain ⟨its, rv, p', hz⟩ := I1.tuple hq
  have ht : s1.heap.IsTuple a its.toArray := p'
  have al : a < s1.heap.objs.size := by
    obtain ⟨_, z, _⟩ := ht
    exact Heap.lt_size z
  refine call_enum1 (begins_tuple a its.toArray) ht fun h' he hit hk => wpAny_pyIter_enum he ?_
  have I2 : Inv X pins σ H1 { s1 with heap := h' } := I1.kept (t' := s1.toks) hk
  refine ⟨s1.heap.objs.size + 1, [s1.heap.objs.size + 1, s1.heap.objs.size], _, _, H1, rfl, I2, turn_enumT a (s1.heap.objs.size + 1) s1.heap.objs.size (Nat.ne_of_lt al) (Nat.ne_of_lt (Nat.lt_succ_of_lt al)), ⟨⟨.none, he⟩, ⟨_, hit, rfl, rfl⟩, Nat.succ_ne_self _⟩, fun b hb => ?_, q⟩
  have hle : s1.heap.objs.size ≤ b := by
    rcases List.mem_cons.mp hb with z | z
    · rw [z]; exact Nat.le_add_right _ _
    · rw [List.mem_singleton.mp z]; exact Nat.le_refl _
  exact I1.fpOk hle (I1.hok.fresh hle)
end L3

/-! f(*t), f a local name that holds a def; the walk of enumerate(t) -/
namespace L3
open PySem PySem.Spec PyProof.Rows L2 StX
/-- the def at f keeps the promise sp -/
structure Does (P : Program) (w : World) (K : PySem.W.Frag) (mg : Str → Option Value) (base : Heap) (k : Nat) (f : Addr) (sp : Sp) : Prop where
  fn : FnR P w K mg base CX0 k f sp
  kp : PySem.W.keepIn K (.ref f) = true
def tCallLS (P : Program) (w : World) (K : PySem.W.Frag) (mg : Str → Option Value) (base : Heap) (k i : Nat) (te : TE) : TE := fun σ H Q => ∃ f sp, σ[i]? = some (some (.ref f)) ∧ Does P w K mg base k f sp ∧ te σ H fun y H1 => ∃ a xs, y = V.ref a ∧ (SqT K H1 a xs ∨ SqL K H1 a xs) ∧ sp xs H1 Q E0
theorem pe_callLS {X : Cx} {k i : Nat} {x : Str} {p pos sp_ : Pos} {e : Expr} {te : TE} (hr : Room k X.A) (hN : X.N[i]? = some x) (hv : Vis X.env.scope x) (he : PE X e te)
    (hdb : (x == ("__debug__" : Str)) = false := by decide) (hcd : (x == ("__classdict__" : Str)) = false := by decide) (hst : starEach [.Starred e sp_] X.env = [(true, eval e X.env)] := by rfl) :
    PE X (.Call (.Name x p) [.Starred e sp_] [] pos) (tCallLS X.prog X.w X.K X.mg X.base k i te) := by
  refine ⟨fun pins s σ H Q I h => ?_⟩
  obtain ⟨f, sp, hs, D, ht⟩ := h
  refine wpAny_Call_Name_kw (thn ((pe_var (pos := p) hN hv hdb hcd).run pins s σ H (fun v H1 => v = .ref f ∧ H1 = H) I ⟨.ref f, hs, rfl, rfl⟩) fun u s1 ⟨v, H1, I1, r1, q1⟩ => ?_)
  obtain ⟨rfl, rfl⟩ := q1
  cases r1
  refine PySem.W.callWith_S (h₀ := X.base) I.ok.mod.kin D.kp (thn (he.run pins s1 σ _ _ I1 ht) fun v s2 ⟨y, H2, I2, ry, a, xs, ey, hxs, q⟩ => ?_) hst
  subst ey
  obtain rfl : v = Value.ref a := ry
  exact star_any I2 hxs fun us s3 I3 rv => ⟨I3.kIn, wpAny_call (run_fnR D.fn hr pass0 I3 rv q)⟩
theorem walk_enumT {K : PySem.W.Frag} {a : Addr} {xs : List V} : Walk (Iet K a) xs.length (fun H => SqT K H a xs) (YPair (fun i => some (.int (i : Nat))) (fun i => xs[i]?)) := by
  refine ⟨fun i _ hi q => ⟨xs, xs[i], q, by simp [hi]⟩, fun _ q => ⟨xs, q, rfl⟩, fun i H v H' _ q y => ?_⟩
  obtain ⟨T, x, h1, h2, h3, h4⟩ := y
  exact ⟨T, .int (i : Nat), x, h1, h2, h3, rfl, h4 xs q⟩
end L3

/-! f(x, ..), f a local name that holds a def -/
namespace L3
open PySem PySem.Spec PyProof.Rows L2 StX
def tCallD (P : Program) (w : World) (K : PySem.W.Frag) (mg : Str → Option Value) (base : Heap) (k i : Nat) (ta : TA) : TE := fun σ H Q => ∃ f sp, σ[i]? = some (some (.ref f)) ∧ Does P w K mg base k f sp ∧ ta σ H fun vs H1 => sp vs H1 Q E0
theorem pe_callD {X : Cx} {k i : Nat} {x : Str} {p pos : Pos} {e : Expr} {es : List Expr} {ta : TA} (hr : Room k X.A) (hN : X.N[i]? = some x) (hv : Vis X.env.scope x) (ha : PA X (e :: es) ta)
    (hdb : (x == ("__debug__" : Str)) = false := by decide) (hcd : (x == ("__classdict__" : Str)) = false := by decide)
    (he : starEach (e :: es) X.env = (false, eval e X.env) :: starEach es X.env := by rfl) (hpl : (backTo pos (starEach es X.env)).any (·.1) = false := by rfl) :
    PE X (.Call (.Name x p) (e :: es) [] pos) (tCallD X.prog X.w X.K X.mg X.base k i ta) := by
  refine ⟨fun pins s σ H Q I h => ?_⟩
  obtain ⟨f, sp, hs, D, ht⟩ := h
  refine wpAny_Call_Name_kw (thn ((pe_var (pos := p) hN hv hdb hcd).run pins s σ H (fun v H1 => v = .ref f ∧ H1 = H) I ⟨.ref f, hs, rfl, rfl⟩) fun u s1 ⟨v, H1, I1, r1, q1⟩ => ?_)
  obtain ⟨rfl, rfl⟩ := q1
  cases r1
  refine PySem.W.callWith_K (h₀ := X.base) I.ok.mod.kin D.kp (thn (ha.run pos pins s1 σ _ _ I1 ht) fun us s2 ⟨vs, H2, I2, r2, q2⟩ => ⟨I2.kIn, ?_⟩) he hpl
  exact wpAny_call (run_fnR D.fn hr pass0 I2 r2 q2)
/-- over a list or a tuple -/
def iAny (K : PySem.W.Frag) (tl : TE) : TI := fun σ H R => tl σ H fun x H1 => ∃ a, x = .ref a ∧ ((∃ xs, SqL K H1 a xs) ∧ R (Itl K a) H1 ∨ (∃ xs, SqT K H1 a xs) ∧ R (Itt K a) H1)
theorem pi_any {X : Cx} {tg l : Expr} {tl : TE} (hl : PE X l tl) : PI X tg l (iAny X.K tl) := by
  refine ⟨fun pins s σ H R I h => ?_⟩
  refine thn (hl.run pins s σ H _ I h) fun v s1 ⟨x, H1, I1, r1, q1⟩ => ?_
  obtain ⟨a, e, q⟩ := q1
  subst e
  cases r1
  rcases q with ⟨⟨xs, hq⟩, q⟩ | ⟨⟨xs, hq⟩, q⟩
  · obtain ⟨its, rv, p, hz⟩ := I1.list hq
    refine wpAny_pyIter_list p.isList ?_
    refine ⟨s1.heap.objs.size, [s1.heap.objs.size], _, _, H1, rfl, I1.kept (t' := s1.toks) fun b o e => Heap.get?_push_of_some _ e, turn_list a _, ⟨_, Heap.get?_push_size _ rfl, rfl, rfl⟩, fun b hb => ?_, q⟩
    have e : b = s1.heap.objs.size := by simpa using hb
    subst e
    exact I1.fpOk (Nat.le_refl _) (I1.hok.fresh (Nat.le_refl _))
  · obtain ⟨its, rv, p, hz⟩ := I1.tuple hq
    refine wpAny_pyIter_tuple (show s1.heap.IsTuple a its.toArray from p) ?_
    refine ⟨s1.heap.objs.size, [s1.heap.objs.size], _, _, H1, rfl, I1.kept (t' := s1.toks) fun b o e => Heap.get?_push_of_some _ e, turn_tuple a _, ⟨_, Heap.get?_push_size _ rfl, rfl, rfl⟩, fun b hb => ?_, q⟩
    have e : b = s1.heap.objs.size := by simpa using hb
    subst e
    exact I1.fpOk (Nat.le_refl _) (I1.hok.fresh (Nat.le_refl _))
def rLenK (K : PySem.W.Frag) : List V → Hp → VK → Prop := fun xs H Q => ∃ x n, xs = [x] ∧ LenV K x H n ∧ Q (.int n) H
end L3

/-! a tuple of anything beside the empty one -/
namespace L3
open PySem PySem.Spec PyProof.Rows L2
open PySem.SeqAt
def rNeNil : R2 := fun x y H Q => ∃ (a b : Addr) (xs : List V), x = .ref a ∧ y = .ref b ∧ H a = some (.tup xs) ∧ H b = some (.tup []) ∧ Q (.bl (!xs.isEmpty)) H
theorem op_neNil {X : Cx} (hu : X.A.units + 64 < cLine) : OpR X (compareOp .NotEq) rNeNil := by
  intro pins s σ H x y v u Q I rx ry h
  obtain ⟨a, b, xs, rfl, rfl, ha, hb, q⟩ := h
  obtain rfl : v = Value.ref a := rx
  obtain rfl : u = Value.ref b := ry
  obtain ⟨its, rv, ⟨o, ho, hc, n, hd⟩, _⟩ := I.tuple (SqT.of ha)
  obtain ⟨its2, rv2, ⟨o2, ho2, hc2, n2, hd2⟩, _⟩ := I.tuple (SqT.of hb)
  cases rv2
  have hl := rv.length
  refine RcNeAt.tuples (e := fun _ => true) ⟨o, ho, hc, n, hd⟩ ⟨o2, ho2, hc2, n2, hd2⟩ (by omega) (fun j h1 h2 => absurd h2 (by simp)) _ _ _ _ ?_
  refine ⟨.bl (!xs.isEmpty), H, I, ?_, q⟩
  cases rv with
  | nil => rfl
  | cons _ _ =>
    show Value.bool _ = Value.bool _
    simp
end L3

/-! slices of tuples, put together; list(t) -/
namespace L3
open PySem L2
theorem catA_ok {K : PySem.W.Frag} {H : Hp} {Q : VK} {a b : Addr} {xs ys : List V} (ha : H a = some (.tup xs)) (hb : H b = some (.tup ys)) (hz : xs.length + ys.length ≤ 900000) (k : ∀ H' q, Same H H' → H' q = some (.tup (xs ++ ys)) → Q (.ref q) H') : rCatA K (.ref a) (.ref b) H Q := by
  refine ⟨a, b, xs, ys, rfl, rfl, SqT.of ha, SqT.of hb, Nat.le_of_lt (szl (by omega)), fun e => ?_, fun _ e => ?_, fun _ _ p hp => k _ p (same_new hp) upd_same⟩
  · subst e
    exact k H b (Same.refl H) hb
  · subst e
    exact k H a (Same.refl H) (by rw [List.append_nil]; exact ha)
theorem slA_ok {K : PySem.W.Frag} {H : Hp} {Q : VK} {a : Addr} {xs : List V} {lo hi : Option Int} (ha : H a = some (.tup xs)) (k : ∀ H' q, Same H H' → H' q = some (.tup (cutV xs lo hi)) → Q (.ref q) H') : rSlA K (.ref a) lo hi H Q := by
  refine ⟨a, xs, rfl, SqT.of ha, fun e => k H a (Same.refl H) ?_, fun _ p hp => k _ p (same_new hp) upd_same⟩
  have : cutV xs lo hi = xs := by
    unfold cutV
    rw [e.1, e.2, List.drop_zero, Nat.sub_zero, List.take_length]
  rw [this]
  exact ha
theorem cut_front (l : List V) (x : V) (r : List V) : cutV (l ++ x :: r) none (some (l.length : Int)) = l := by
  unfold cutV
  rw [HT.sIx_none, HT.sIx_nat, List.length_append, List.length_cons, Nat.min_eq_left (by omega), List.drop_zero, Nat.sub_zero, List.take_left']
  rfl
theorem cut_back (l : List V) (x : V) (r : List V) : cutV (l ++ x :: r) (some ((l.length : Int) + 1)) none = r := by
  unfold cutV
  rw [show (l.length : Int) + 1 = ((l.length + 1 : Nat) : Int) by omega, HT.sIx_none, HT.sIx_nat, List.length_append, List.length_cons, Nat.min_eq_left (by omega)]
  have e : (l ++ x :: r).drop (l.length + 1) = r := by
    rw [← List.drop_drop, List.drop_left]
    rfl
  rw [e, List.take_of_length_le (by omega)]
theorem daAll_split {t : Addr} {H : Hp} : ∀ {ds : List PyData} {vs : List V} (i : Nat), i < vs.length → DaAll t H vs ds → ∃ l x r dl dx dr, vs = l ++ x :: r ∧ ds = dl ++ dx :: dr ∧ l.length = i ∧ DaAll t H l dl ∧ Da t H x dx ∧ DaAll t H r dr
  | [], _, i, hi, h => by cases h; cases hi
  | d :: ds, _, 0, hi, h => by
    cases h with
    | @cons v vs _ _ h1 h2 => exact ⟨[], v, vs, [], d, ds, rfl, rfl, rfl, .nil, h1, h2⟩
  | d :: ds, _, i + 1, hi, h => by
    cases h with
    | @cons v vs _ _ h1 h2 =>
      obtain ⟨l, x, r, dl, dx, dr, e1, e2, e3, g1, g2, g3⟩ := daAll_split i (by simpa using hi) h2
      exact ⟨v :: l, x, r, d :: dl, dx, dr, by rw [e1]; rfl, by rw [e2]; rfl, by rw [List.length_cons, e3], .cons h1 g1, g2, g3⟩
theorem depthAll_app : ∀ (a b : List PyData), PyData.depthAll (a ++ b) = max (PyData.depthAll a) (PyData.depthAll b)
  | [], b => by simp [PyData.depthAll]
  | d :: a, b => by simp only [List.cons_append, PyData.depthAll, depthAll_app a b]; omega
theorem call_listN {X : Cx} : CallR X (.type "list") (fun xs H Q => ∃ p ys, xs = [.ref p] ∧ SqT X.K H p ys ∧ ∀ l, H l = none → l ≠ sysModules → Q (.ref l) (upd H l (.lst ys))) := by
  intro pins s σ H xs us Q I r ⟨p, ys, e, hq, q⟩
  subst e
  obtain ⟨u, rfl, rx⟩ := vals1 r
  cases rx
  obtain ⟨its, rv, pl, hz⟩ := I.tuple hq
  have hn := rv.length
  obtain ⟨o, ho, hc, n, hd⟩ := pl
  refine call_list_seq p (.inr rfl) ho hc hd (fun h' c' kp e => ?_) (by simp only [List.size_toArray] <;> omega)
  exact ⟨.ref _, _, I.laid (t' := s.toks) kp (Nat.le_refl _) (show ObjOk X.prog X.w _ h' _ (.lst ys) from ⟨hz, its, c', rv, e⟩), rfl, q _ (I.hok.fresh (Nat.le_refl _)) (Nat.ne_of_gt I.big)⟩
end L3

namespace L3
open PySem L2
/-! the terms that the law draws, and what is left of them when they are cut -/
inductive Tm
  | name (x : Str) | whole | text | use (a b : Tm) | giv (x : Str) (a : Tm) | lt (x : Str) (a b : Tm) | mt (a b c : Tm) | hole
def Tm.d : Tm → PyData
  | .name x => .tuple [.str "name", .str x]
  | .whole => .tuple [.str "whole", .int 3]
  | .text => .tuple [.str "text", .str "t"]
  | .use a b => .tuple [.str "use", a.d, b.d]
  | .giv x a => .tuple [.str "given", .str x, a.d]
  | .lt x a b => .tuple [.str "let", .tuple [.tuple [.str x, a.d]], b.d]
  | .mt a b c => .tuple [.str "match", a.d, .tuple [.tuple [.str "no", .tuple [], b.d], .tuple [.str "yes", .tuple [], c.d]]]
  | .hole => .tuple [.str "hole"]
def Tm.parts : Tm → List Tm
  | .use a b => [a, b]
  | .giv _ a => [a]
  | .lt _ a b => [a, b]
  | .mt a b c => [a, b, c]
  | _ => []
/-- its names are names; no hole -/
def Tm.ok : Tm → Bool
  | .name x => isNameD (.str x) && decide (x.length ≤ 8)
  | .whole | .text => true
  | .use a b => a.ok && b.ok
  | .giv x a => isNameD (.str x) && decide (x.length ≤ 8) && a.ok
  | .lt x a b => isNameD (.str x) && decide (x.length ≤ 8) && a.ok && b.ok
  | .mt a b c => a.ok && b.ok && c.ok
  | .hole => false
def dsP (m : Tm) : List PyData := m.parts.map Tm.d
def spForm (p : Tm → Bool) : Sp := fun vs H Q _ => ∃ (t : Addr) (v : V) (m : Tm), vs = [v] ∧ Da t H v m.d ∧ m.ok = true ∧ p m = true ∧ ∀ H' l us, Same H H' → H' l = some (.lst us) → H l = none → DaAll t H us (dsP m) → Q (.ref l) H'
def isNameT : Tm → Bool | .name _ => true | _ => false
def isWholeT : Tm → Bool | .whole => true | _ => false
def isTextT : Tm → Bool | .text => true | _ => false
def isUseT : Tm → Bool | .use _ _ => true | _ => false
def isGivT : Tm → Bool | .giv _ _ => true | _ => false
def isLetT : Tm → Bool | .lt _ _ _ => true | _ => false
def isMatT : Tm → Bool | .mt _ _ _ => true | _ => false
section
variable {P : Program} {w : World} {K : PySem.W.Frag} {mg : Str → Option Value} {base : Heap} {bA : Addr} {es : Array DictEntry} {nb : Nat}
abbrev s_parts_in_use : Stmt := topS 15
abbrev N_parts_in_use : List Str := ["value"]
theorem sc_parts_in_use : FnScope N_parts_in_use ["value"] (defScope s_parts_in_use) := ⟨rfl, rfl, rfl, by decide +kernel, rfl, by decide +kernel, by decide +kernel⟩
theorem ok_fuse {f : Addr} {fd : FuncData} (F : Fun K "parts_in_use" "parts_in_use" s_parts_in_use f fd) (B : Bl mg) : FnOk P w K mg base CX0 3 f fd ["value"] (spForm isUseT) := by
  refine F.ok sc_parts_in_use (fun vs H Q E h => ?_) (fun cdv A outer s H vs Q E hr h => ?_)
  · obtain ⟨t, v, m, rfl, _⟩ := h
    rfl
  · obtain ⟨t, v, m, rfl, hd, ho, hm, k⟩ := h
    have hu64 := hr.units
    refine ⟨_, (pss_cons (ps_if (pt_cmpR op_eq (pe_callB call_len (by rfl) B.len PySem.boot_len (pa_cons (pv 0) pa_nil)) pe_int (nomark _))
  (pss_one (ps_ret (pe_lst (pa_cons (pe_ix ix_tup (pv 0) pe_int (fun _ _ => rfl)) (pa_cons (pe_ix ix_tup (pv 0) pe_int (fun _ _ => rfl)) pa_nil)))))
  pss_nil)
  (pss_one (ps_ret pe_non))), ?_⟩
    cases m <;> first | cases hm | skip
    rename_i a b
    cases id hd with
    | @tup ad xs _ ga da =>
      cases da with
      | @cons v0 _ _ _ d0 da =>
      cases da with
      | @cons v1 _ _ _ d1 da =>
      cases da with
      | @cons v2 _ _ _ d2 da =>
      cases da
      refine ⟨_, rfl, .ref ad, 3, rfl, .inr ⟨_, SqT.of ga, rfl⟩, ?_⟩
      refine ⟨rfl, _, rfl, iT rfl ?_⟩
      refine ⟨_, rfl, ad, _, 1, _, rfl, rfl, SqT.of ga, rfl, _, rfl, ad, _, 2, _, rfl, rfl, SqT.of ga, rfl, slz rfl, fun l hl => ?_⟩
      have s1 := same_new (o := .lst [v1, v2]) hl
      exact k _ l _ s1 upd_same hl (.cons d1 (.cons d2 .nil))
abbrev s_parts_in_name : Stmt := topS 12
abbrev N_parts_in_name : List Str := ["value"]
theorem sc_parts_in_name : FnScope N_parts_in_name ["value"] (defScope s_parts_in_name) := ⟨rfl, rfl, rfl, by decide +kernel, rfl, by decide +kernel, by decide +kernel⟩
theorem ok_fname {f : Addr} {fd : FuncData} (F : Fun K "parts_in_name" "parts_in_name" s_parts_in_name f fd) (B : Bl mg) (D_is_name : Kn P w K mg base 2 "is_name" ["value"] spName) : FnOk P w K mg base CX0 3 f fd ["value"] (spForm isNameT) := by
  refine F.ok sc_parts_in_name (fun vs H Q E h => ?_) (fun cdv A outer s H vs Q E hr h => ?_)
  · obtain ⟨t, v, m, rfl, _⟩ := h
    rfl
  · obtain ⟨t, v, m, rfl, hd, ho, hm, k⟩ := h
    have hu64 := hr.units
    have hr_is_name : Room 2 _ := hr.mono (by decide)
    refine ⟨_, (pss_cons (ps_if (PW.pt (pw_and (pt_cmpR op_eq (pe_callB call_len (by rfl) B.len PySem.boot_len (pa_cons (pv 0) pa_nil)) pe_int (nomark _)) (pw_and1 (pt_val (pe_kn D_is_name hr_is_name (pa_cons (pe_ix ix_tup (pv 0) pe_int (fun _ _ => rfl)) pa_nil))))))
  (pss_one (ps_ret (pe_lst pa_nil)))
  pss_nil)
  (pss_one (ps_ret pe_non))), ?_⟩
    cases m <;> first | cases hm | skip
    rename_i x
    simp only [Tm.ok, Bool.and_eq_true, decide_eq_true_eq] at ho
    cases id hd with
    | @tup ad xs _ ga da =>
      cases da with
      | @cons v0 _ _ _ d0 da =>
      cases da with
      | @cons v1 _ _ _ d1 da =>
      cases da
      refine ⟨_, rfl, .ref ad, 2, rfl, .inr ⟨_, SqT.of ga, rfl⟩, ?_⟩
      refine ⟨rfl, _, rfl, iT rfl ?_⟩
      refine ⟨_, rfl, ad, _, 1, _, rfl, rfl, SqT.of ga, rfl, t, v1, _, rfl, d1, (fun y e => by cases e; omega), ?_⟩
      rw [ho.1]
      refine ⟨_, rfl, iT rfl ?_⟩
      refine ⟨slz rfl, fun l hl => ?_⟩
      exact k _ l _ (same_new hl) upd_same hl .nil
abbrev s_parts_in_whole : Stmt := topS 13
abbrev N_parts_in_whole : List Str := ["value"]
theorem sc_parts_in_whole : FnScope N_parts_in_whole ["value"] (defScope s_parts_in_whole) := ⟨rfl, rfl, rfl, by decide +kernel, rfl, by decide +kernel, by decide +kernel⟩
theorem ok_fwhole {f : Addr} {fd : FuncData} (F : Fun K "parts_in_whole" "parts_in_whole" s_parts_in_whole f fd) (B : Bl mg) (D_is_whole : Kn P w K mg base 2 "is_whole" ["value"] spWhole) : FnOk P w K mg base CX0 3 f fd ["value"] (spForm isWholeT) := by
  refine F.ok sc_parts_in_whole (fun vs H Q E h => ?_) (fun cdv A outer s H vs Q E hr h => ?_)
  · obtain ⟨t, v, m, rfl, _⟩ := h
    rfl
  · obtain ⟨t, v, m, rfl, hd, ho, hm, k⟩ := h
    have hu64 := hr.units
    have hr_is_whole : Room 2 _ := hr.mono (by decide)
    refine ⟨_, (pss_cons (ps_if (PW.pt (pw_and (pt_cmpR op_eq (pe_callB call_len (by rfl) B.len PySem.boot_len (pa_cons (pv 0) pa_nil)) pe_int (nomark _)) (pw_and1 (pt_val (pe_kn D_is_whole hr_is_whole (pa_cons (pe_ix ix_tup (pv 0) pe_int (fun _ _ => rfl)) pa_nil))))))
  (pss_one (ps_ret (pe_lst pa_nil)))
  pss_nil)
  (pss_one (ps_ret pe_non))), ?_⟩
    cases m <;> first | cases hm | skip
    cases id hd with
    | @tup ad xs _ ga da =>
      cases da with
      | @cons v0 _ _ _ d0 da =>
      cases da with
      | @cons v1 _ _ _ d1 da =>
      cases da
      refine ⟨_, rfl, .ref ad, 2, rfl, .inr ⟨_, SqT.of ga, rfl⟩, ?_⟩
      refine ⟨rfl, _, rfl, iT rfl ?_⟩
      refine ⟨_, rfl, ad, _, 1, _, rfl, rfl, SqT.of ga, rfl, t, v1, _, rfl, d1, ?_⟩
      rw [show isWholeD (.int 3) = true from by decide +kernel]
      refine ⟨_, rfl, iT rfl ?_⟩
      refine ⟨slz rfl, fun l hl => ?_⟩
      exact k _ l _ (same_new hl) upd_same hl .nil
abbrev s_parts_in_text : Stmt := topS 14
abbrev N_parts_in_text : List Str := ["value"]
theorem sc_parts_in_text : FnScope N_parts_in_text ["value"] (defScope s_parts_in_text) := ⟨rfl, rfl, rfl, by decide +kernel, rfl, by decide +kernel, by decide +kernel⟩
theorem ok_ftext {f : Addr} {fd : FuncData} (F : Fun K "parts_in_text" "parts_in_text" s_parts_in_text f fd) (B : Bl mg) (D_is_text : Kn P w K mg base 1 "is_text" ["value"] spText) : FnOk P w K mg base CX0 3 f fd ["value"] (spForm isTextT) := by
  refine F.ok sc_parts_in_text (fun vs H Q E h => ?_) (fun cdv A outer s H vs Q E hr h => ?_)
  · obtain ⟨t, v, m, rfl, _⟩ := h
    rfl
  · obtain ⟨t, v, m, rfl, hd, ho, hm, k⟩ := h
    have hu64 := hr.units
    have hr_is_text : Room 1 _ := hr.mono (by decide)
    refine ⟨_, (pss_cons (ps_if (PW.pt (pw_and (pt_cmpR op_eq (pe_callB call_len (by rfl) B.len PySem.boot_len (pa_cons (pv 0) pa_nil)) pe_int (nomark _)) (pw_and1 (pt_val (pe_kn D_is_text hr_is_text (pa_cons (pe_ix ix_tup (pv 0) pe_int (fun _ _ => rfl)) pa_nil))))))
  (pss_one (ps_ret (pe_lst pa_nil)))
  pss_nil)
  (pss_one (ps_ret pe_non))), ?_⟩
    cases m <;> first | cases hm | skip
    cases id hd with
    | @tup ad xs _ ga da =>
      cases da with
      | @cons v0 _ _ _ d0 da =>
      cases da with
      | @cons v1 _ _ _ d1 da =>
      cases da
      refine ⟨_, rfl, .ref ad, 2, rfl, .inr ⟨_, SqT.of ga, rfl⟩, ?_⟩
      refine ⟨rfl, _, rfl, iT rfl ?_⟩
      refine ⟨_, rfl, ad, _, 1, _, rfl, rfl, SqT.of ga, rfl, t, v1, _, rfl, d1, (fun y e => by cases e; decide), fun H1 s1 => ?_⟩
      rw [show isTextD (.str "t") = true from by decide +kernel]
      refine ⟨_, rfl, iT rfl ?_⟩
      refine ⟨slz rfl, fun l hl => ?_⟩
      exact k _ l _ (s1.trans (same_new hl)) upd_same (s1.free hl) .nil
abbrev s_parts_in_given : Stmt := topS 16
abbrev N_parts_in_given : List Str := ["value"]
theorem sc_parts_in_given : FnScope N_parts_in_given ["value"] (defScope s_parts_in_given) := ⟨rfl, rfl, rfl, by decide +kernel, rfl, by decide +kernel, by decide +kernel⟩
theorem ok_fgiv {f : Addr} {fd : FuncData} (F : Fun K "parts_in_given" "parts_in_given" s_parts_in_given f fd) (B : Bl mg) (D_is_name : Kn P w K mg base 2 "is_name" ["value"] spName) : FnOk P w K mg base CX0 3 f fd ["value"] (spForm isGivT) := by
  refine F.ok sc_parts_in_given (fun vs H Q E h => ?_) (fun cdv A outer s H vs Q E hr h => ?_)
  · obtain ⟨t, v, m, rfl, _⟩ := h
    rfl
  · obtain ⟨t, v, m, rfl, hd, ho, hm, k⟩ := h
    have hu64 := hr.units
    have hr_is_name : Room 2 _ := hr.mono (by decide)
    refine ⟨_, (pss_cons (ps_if (PW.pt (pw_and (pt_cmpR op_eq (pe_callB call_len (by rfl) B.len PySem.boot_len (pa_cons (pv 0) pa_nil)) pe_int (nomark _)) (pw_and1 (pt_val (pe_kn D_is_name hr_is_name (pa_cons (pe_ix ix_tup (pv 0) pe_int (fun _ _ => rfl)) pa_nil))))))
  (pss_one (ps_ret (pe_lst (pa_cons (pe_ix ix_tup (pv 0) pe_int (fun _ _ => rfl)) pa_nil))))
  pss_nil)
  (pss_one (ps_ret pe_non))), ?_⟩
    cases m <;> first | cases hm | skip
    rename_i x a
    simp only [Tm.ok, Bool.and_eq_true, decide_eq_true_eq] at ho
    cases id hd with
    | @tup ad xs _ ga da =>
      cases da with
      | @cons v0 _ _ _ d0 da =>
      cases da with
      | @cons v1 _ _ _ d1 da =>
      cases da with
      | @cons v2 _ _ _ d2 da =>
      cases da
      refine ⟨_, rfl, .ref ad, 3, rfl, .inr ⟨_, SqT.of ga, rfl⟩, ?_⟩
      refine ⟨rfl, _, rfl, iT rfl ?_⟩
      refine ⟨_, rfl, ad, _, 1, _, rfl, rfl, SqT.of ga, rfl, t, v1, _, rfl, d1, (fun y e => by cases e; omega), ?_⟩
      rw [ho.1.1]
      refine ⟨_, rfl, iT rfl ?_⟩
      refine ⟨_, rfl, ad, _, 2, _, rfl, rfl, SqT.of ga, rfl, slz rfl, fun l hl => ?_⟩
      have s1 := same_new (o := .lst [v2]) hl
      exact k _ l _ s1 upd_same hl (.cons d2 .nil)
end
end L3

namespace L3
open PySem L2
theorem da_at {t : Addr} {H : Hp} : ∀ {xs : List V} {ds : List PyData} {i : Nat} {y : V}, DaAll t H xs ds → xs[i]? = some y → ∃ d, ds[i]? = some d ∧ Da t H y d
  | [], _, _, _, .nil, h => by cases h
  | _ :: _, _ :: _, 0, _, .cons a _, h => ⟨_, rfl, by cases h; exact a⟩
  | _ :: _, _ :: _, i + 1, _, .cons _ r, h => da_at (i := i) r h
section
variable {P : Program} {w : World} {K : PySem.W.Frag} {mg : Str → Option Value} {base : Heap} {bA : Addr} {es : Array DictEntry} {nb : Nat}
abbrev s_are_rows : Stmt := topS 23
abbrev N_are_rows : List Str := ["value", "length", "row"]
theorem sc_are_rows : FnScope N_are_rows ["value", "length"] (defScope s_are_rows) := ⟨rfl, rfl, rfl, by decide +kernel, rfl, by decide +kernel, by decide +kernel⟩
def spRows : Sp := fun vs H Q _ => ∃ (t : Addr) (v : V) (ds : List PyData) (n : Nat), vs = [v, .int (n : Int)] ∧ Da t H v (.tuple ds) ∧ ds ≠ [] ∧ ds.length ≤ 100 ∧ n ≤ 100 ∧ (∀ d ∈ ds, ∃ es, d = .tuple es ∧ es.length = n) ∧ ∀ H', Same H H' → Q (.bl true) H'
theorem ok_rows {f : Addr} {fd : FuncData} (F : Fun K "are_rows" "are_rows" s_are_rows f fd) (B : Bl mg) (B9 : Bl9 mg) : FnOk P w K mg base CX0 1 f fd ["value", "length"] spRows := by
  refine F.ok sc_are_rows (fun vs H Q E h => ?_) (fun cdv A outer s H vs Q E hr h => ?_)
  · obtain ⟨t, v, ds, n, rfl, _⟩ := h
    rfl
  · obtain ⟨t, v, ds, n, rfl, hd, hn, hz, hn2, hrow, k⟩ := h
    have hu64 := hr.units
    refine ⟨_, (pss_cons (ps_if (PW.pt (pw_or (pt_not (pt_val (pe_callB call_isi (by rfl) B9.isinstance PyProof.Rows.boot_isinstance (pa_cons (pv 0) (pa_cons (pe_bltn (v := .ty "tuple") (by rfl) B9.tuple (by decide +kernel) rfl) pa_nil))))) (pw_or1 (pt_cmpR op_eq (pe_callB call_len (by rfl) B.len PySem.boot_len (pa_cons (pv 0) pa_nil)) pe_int (nomark _)))))
  (pss_one (ps_ret pe_bl))
  pss_nil)
  (pss_one (ps_ret (pe_callB (cr_all rfl) (by rfl) B9.all (by decide +kernel) (pa_cons (pe_lc (own := [("row", 2)]) rfl sc_are_rows.nd (pi_tup (pv 0)) (blkOk_by (N := N_are_rows) (sc := (defScope s_are_rows)) (own := [("row", 2)]) (by decide +kernel)) (fun _ _ _ _ _ => (pg_name (i := 2) sc_are_rows.nd rfl (Or.inl rfl))) (fun _ _ _ _ _ => pts_nil) (fun _ _ _ _ _ => (pe_and (pe_callB (show CallR _ (.builtin "isinstance") (rIsi K) from call_isi) (by rfl) B9.isinstance PyProof.Rows.boot_isinstance (pa_cons (pv 2) (pa_cons (pe_bltn (v := .ty "tuple") (by rfl) B9.tuple (by decide +kernel) rfl) pa_nil))) (pe_one (pe_cmpR op_eq (pe_callB (show CallR _ (.builtin "len") (rLenK K) from call_len) (by rfl) B.len PySem.boot_len (pa_cons (pv 2) pa_nil)) (pv 1) (nomark _)))))) pa_nil))))), ?_⟩
    refine ⟨_, rfl, v, .ty "tuple", .type (tyName (.tuple ds)), .type "tuple", isTup (.tuple ds), rfl, .ty "tuple", hd.ty, kit_tup _, _, rfl, ?_⟩
    cases id hd with
    | @tup ad xs _ ga da =>
      have le := da.len
      refine iF rfl ?_
      refine ⟨_, rfl, .ref ad, xs.length, rfl, .inr ⟨_, SqT.of ga, rfl⟩, ?_⟩
      refine ⟨rfl, _, rfl, ?_⟩
      have nz : ds.length ≠ 0 := fun z => hn (List.length_eq_zero_iff.mp z)
      refine iF (decide_eq_false fun z => by injection z with z; omega) ?_
      refine ⟨_, rfl, ad, rfl, ⟨_, SqT.of ga⟩, fun D hD => lc_it walk_tup (fun i H' => Same H H' ∧ H' D = some (.lst ((List.replicate i true).map V.bl))) ⟨same_new hD, upd_same⟩ (fun i H' _ h => SqT.of (h.1 _ _ ga)) ?_ ?_⟩
      · rintro i y H1 H2 hi ⟨s1, g1⟩ ⟨rfl, ey⟩
        refine ⟨rfl, ?_⟩
        obtain ⟨d, ed, dd⟩ := da_at da ey
        obtain ⟨es2, rfl, el⟩ := hrow d (List.mem_of_getElem? ed)
        have dd2 := dd.kp (kp_same s1)
        refine ⟨_, rfl, y, .ty "tuple", .type (tyName (.tuple es2)), .type "tuple", isTup (.tuple es2), rfl, .ty "tuple", dd2.ty, kit_tup _, ?_⟩
        cases id dd2 with
        | @tup ay ys _ gy dy =>
          have ly := dy.len
          refine ⟨_, rfl, iT rfl ?_⟩
          refine ⟨_, rfl, .ref ay, ys.length, rfl, .inr ⟨_, SqT.of gy, rfl⟩, _, rfl, rfl, ?_⟩
          refine ⟨_, g1, szl (by simp; omega), fun b o e => ?_, ?_⟩
          · rw [upd_ne (ne_of_none e hD)]
            exact s1 _ _ e
          · rw [upd_same, List.replicate_succ', List.map_append, decide_eq_true (show V.int (ys.length : Int) = V.int (n : Int) by rw [ly, el])]
            rfl
      · rintro H1 ⟨s1, g1⟩
        refine ⟨D, _, rfl, SqL.of g1, ?_⟩
        rw [show (List.replicate xs.length true).all id = true by simp]
        exact k H1 s1
abbrev s_are_different_names : Stmt := topS 24
abbrev N_are_different_names : List Str := ["row", "value"]
theorem sc_are_different_names : FnScope N_are_different_names ["row"] (defScope s_are_different_names) := ⟨rfl, rfl, rfl, by decide +kernel, rfl, by decide +kernel, by decide +kernel⟩
def spDif : Sp := fun vs H Q _ => ∃ (a : Addr) (xs : List Str), vs = [.ref a] ∧ (H a = some (.lst (xs.map V.str)) ∨ H a = some (.tup (xs.map V.str))) ∧ xs.length ≤ 1 ∧ (∀ x ∈ xs, isNameD (.str x) = true ∧ x.length ≤ 8) ∧ ∀ H', Same H H' → Q (.bl true) H'
theorem ok_dif {f : Addr} {fd : FuncData} (F : Fun K "are_different_names" "are_different_names" s_are_different_names f fd) (B : Bl mg) (B9 : Bl9 mg) (M : Mn K w mg bA es nb) (D_is_name : Kn P w K mg base 2 "is_name" ["value"] spName) : FnOk P w K mg base CX0 3 f fd ["row"] spDif := by
  refine F.ok sc_are_different_names (fun vs H Q E h => ?_) (fun cdv A outer s H vs Q E hr h => ?_)
  · obtain ⟨a, xs, rfl, _⟩ := h
    rfl
  · obtain ⟨a, xs, rfl, ha, hz, hx, k⟩ := h
    have hu64 := hr.units
    have hr_is_name : Room 2 _ := hr
    refine ⟨_, (pss_one (ps_ret (pe_and (pe_callB (cr_all rfl) (by rfl) B9.all (by decide +kernel) (pa_cons (pe_lc (own := [("value", 1)]) rfl sc_are_different_names.nd (pi_any (pv 0)) (blkOk_by (N := N_are_different_names) (sc := (defScope s_are_different_names)) (own := [("value", 1)]) (by decide +kernel)) (fun _ _ _ _ _ => (pg_name (i := 1) sc_are_different_names.nd rfl (Or.inl rfl))) (fun _ _ _ _ _ => pts_nil) (fun _ _ _ _ _ => (pe_kn D_is_name hr_is_name (pa_cons (pv 1) pa_nil)))) pa_nil)) (pe_one (pe_cmpR op_eq (pe_lenSet rfl (by rfl) B.len (by rfl) M.set (pv 0)) (pe_callB call_len (by rfl) B.len PySem.boot_len (pa_cons (pv 0) pa_nil)) (nomark _)))))), ?_⟩
    have step : ∀ (i : Nat) (y : V) (D : Addr) (H1 : Hp), H D = none → (xs.map V.str)[i]? = some y → Same H H1 → H1 D = some (.lst ((List.replicate i true).map V.bl)) → ∃ (t : Addr) (v : V) (d : PyData), [y] = [v] ∧ Da t H1 v d ∧ (∀ x, d = .str x → x.length ≤ 1000) ∧
        ∃ acc, H1 D = some (.lst acc) ∧ acc.length < sizeLine ∧ Same H (upd H1 D (.lst (acc ++ [V.bl (isNameD d)]))) ∧ upd H1 D (.lst (acc ++ [V.bl (isNameD d)])) D = some (.lst ((List.replicate (i + 1) true).map V.bl)) := fun i y D H1 hD ey s1 g1 => by
      obtain ⟨x, ex, rfl⟩ : ∃ x, xs[i]? = some x ∧ y = .str x := by
        rw [List.getElem?_map] at ey
        cases e : xs[i]? with
        | none => rw [e] at ey; cases ey
        | some x => rw [e] at ey; exact ⟨x, rfl, (Option.some.inj ey).symm⟩
      obtain ⟨hn, hl⟩ := hx x (List.mem_of_getElem? ex)
      have hi := (List.getElem?_eq_some_iff.mp ex).1
      refine ⟨D, .str x, .str x, rfl, .str x, fun z e => by cases e; omega, _, g1, szl (by simp; omega), fun b o e => ?_, ?_⟩
      · rw [upd_ne (ne_of_none e hD)]
        exact s1 _ _ e
      · rw [hn, upd_same, List.replicate_succ', List.map_append]
        rfl
    have e1 : ∀ n : Nat, (List.replicate n true).all id = true := fun n => by simp
    have e2 : decide (V.int (xs.length : Int) = V.int (((xs.map V.str).length : Nat) : Int)) = true := decide_eq_true (by rw [List.length_map])
    rcases ha with ha | ha
    · refine ⟨_, rfl, a, rfl, .inl ⟨⟨_, SqL.of ha⟩, fun D hD => lc_it walk_list (fun i H' => Same H H' ∧ H' D = some (.lst ((List.replicate i true).map V.bl))) ⟨same_new hD, upd_same⟩ (fun i H' _ h => SqL.of (h.1 _ _ ha)) ?_ ?_⟩⟩
      · rintro i y H1 H2 hi ⟨s1, g1⟩ ⟨rfl, ey⟩
        refine ⟨rfl, _, rfl, ?_⟩
        exact step i y D _ hD ey s1 g1
      · rintro H1 ⟨s1, g1⟩
        refine ⟨D, _, rfl, SqL.of g1, _, rfl, iT (e1 _) ?_⟩
        refine ⟨_, rfl, a, xs, rfl, .inl (SqL.of (s1 _ _ ha)), hz, _, rfl, .ref a, _, rfl, .inl ⟨_, SqL.of (s1 _ _ ha), rfl⟩, ?_⟩
        have k1 := k H1 s1
        rw [← e2] at k1
        exact ⟨rfl, k1⟩
    · refine ⟨_, rfl, a, rfl, .inr ⟨⟨_, SqT.of ha⟩, fun D hD => lc_it walk_tup (fun i H' => Same H H' ∧ H' D = some (.lst ((List.replicate i true).map V.bl))) ⟨same_new hD, upd_same⟩ (fun i H' _ h => SqT.of (h.1 _ _ ha)) ?_ ?_⟩⟩
      · rintro i y H1 H2 hi ⟨s1, g1⟩ ⟨rfl, ey⟩
        refine ⟨rfl, _, rfl, ?_⟩
        exact step i y D _ hD ey s1 g1
      · rintro H1 ⟨s1, g1⟩
        refine ⟨D, _, rfl, SqL.of g1, _, rfl, iT (e1 _) ?_⟩
        refine ⟨_, rfl, a, xs, rfl, .inr (SqT.of (s1 _ _ ha)), hz, _, rfl, .ref a, _, rfl, .inr ⟨_, SqT.of (s1 _ _ ha), rfl⟩, ?_⟩
        have k1 := k H1 s1
        rw [← e2] at k1
        exact ⟨rfl, k1⟩
end
end L3

namespace L3
open PySem L2
section
variable {P : Program} {w : World} {K : PySem.W.Frag} {mg : Str → Option Value} {base : Heap} {bA : Addr} {es : Array DictEntry} {nb : Nat}
abbrev s_parts_in_let : Stmt := topS 17
abbrev N_parts_in_let : List Str := ["value", "row"]
theorem sc_parts_in_let : FnScope N_parts_in_let ["value"] (defScope s_parts_in_let) := ⟨rfl, rfl, rfl, by decide +kernel, rfl, by decide +kernel, by decide +kernel⟩
theorem ok_flet {f : Addr} {fd : FuncData} (F : Fun K "parts_in_let" "parts_in_let" s_parts_in_let f fd) (B : Bl mg) (D_are_rows : Kn P w K mg base 1 "are_rows" ["value", "length"] spRows) (D_are_different_names : Kn P w K mg base 3 "are_different_names" ["row"] spDif) : FnOk P w K mg base CX0 4 f fd ["value"] (spForm isLetT) := by
  refine F.ok sc_parts_in_let (fun vs H Q E h => ?_) (fun cdv A outer s H vs Q E hr h => ?_)
  · obtain ⟨t, v, m, rfl, _⟩ := h
    rfl
  · obtain ⟨t, v, m, rfl, hd, ho, hm, k⟩ := h
    have hu64 := hr.units
    have hr_are_rows : Room 1 _ := hr.mono (by decide)
    have hr_are_different_names : Room 3 _ := hr
    refine ⟨_, (pss_cons (ps_if (PW.pt (pw_or (pt_cmpR op_ne (pe_callB call_len (by rfl) B.len PySem.boot_len (pa_cons (pv 0) pa_nil)) pe_int (nomark _)) (pw_or1 (pt_not (pt_val (pe_kn D_are_rows hr_are_rows (pa_cons (pe_ix ix_tup (pv 0) pe_int (fun _ _ => rfl)) (pa_cons pe_int pa_nil))))))))
  (pss_one (ps_ret pe_non))
  pss_nil)
  (pss_cons (ps_if (pt_not (pt_val (pe_kn D_are_different_names hr_are_different_names (pa_cons (pe_lc (own := [("row", 1)]) rfl sc_parts_in_let.nd (pi_tup (pe_ix ix_tup (pv 0) pe_int (fun _ _ => rfl))) (blkOk_by (N := N_parts_in_let) (sc := (defScope s_parts_in_let)) (own := [("row", 1)]) (by decide +kernel)) (fun _ _ _ _ _ => (pg_name (i := 1) sc_parts_in_let.nd rfl (Or.inl rfl))) (fun _ _ _ _ _ => pts_nil) (fun _ _ _ _ _ => (pe_ix (show IxR _ (rIxT K) from ix_tup) (pv 1) pe_int (fun _ _ => rfl)))) pa_nil))))
  (pss_one (ps_ret pe_non))
  pss_nil)
  (pss_one (ps_ret (pe_op op_cat (pe_lc (own := [("row", 1)]) rfl sc_parts_in_let.nd (pi_tup (pe_ix ix_tup (pv 0) pe_int (fun _ _ => rfl))) (blkOk_by (N := N_parts_in_let) (sc := (defScope s_parts_in_let)) (own := [("row", 1)]) (by decide +kernel)) (fun _ _ _ _ _ => (pg_name (i := 1) sc_parts_in_let.nd rfl (Or.inl rfl))) (fun _ _ _ _ _ => pts_nil) (fun _ _ _ _ _ => (pe_ix (show IxR _ (rIxT K) from ix_tup) (pv 1) pe_int (fun _ _ => rfl)))) (pe_lst (pa_cons (pe_ix ix_tup (pv 0) pe_int (fun _ _ => rfl)) pa_nil))))))), ?_⟩
    cases m <;> first | cases hm | skip
    rename_i x a b
    simp only [Tm.ok, Bool.and_eq_true, decide_eq_true_eq] at ho
    cases id hd with
    | @tup ad xs _ ga da =>
      cases da with
      | @cons v0 _ _ _ d0 da =>
      cases da with
      | @cons v1 _ _ _ d1 da =>
      cases da with
      | @cons v2 _ _ _ d2 da =>
      cases da
      cases id d1 with
      | @tup a1 ys _ g1 d11 =>
      cases d11 with
      | @cons r _ _ _ dr d11 =>
      cases d11
      cases id dr with
      | @tup ar zs _ gr dz =>
      cases dz with
      | @cons z0 _ _ _ dz0 dz =>
      cases dz with
      | @cons z1 _ _ _ dz1 dz =>
      cases dz
      cases dz0
      refine ⟨_, rfl, .ref ad, 3, rfl, .inr ⟨_, SqT.of ga, rfl⟩, ?_⟩
      refine ⟨rfl, _, rfl, iF rfl ?_⟩
      refine ⟨_, rfl, ad, _, 1, _, rfl, rfl, SqT.of ga, rfl, ?_⟩
      refine ⟨t, _, _, 2, rfl, d1, by simp, by simp, by decide, fun d hd => ⟨_, List.mem_singleton.mp hd, rfl⟩, fun H1 s1 => ?_⟩
      refine ⟨_, rfl, iF rfl ?_⟩
      have ga1 := s1 _ _ ga
      have g11 := s1 _ _ g1
      have gr1 := s1 _ _ gr
      refine ⟨_, rfl, ad, _, 1, _, rfl, rfl, SqT.of ga1, rfl, a1, rfl, ⟨_, SqT.of g11⟩, fun D hD => lc_it walk_tup (fun i H' => Same H1 H' ∧ H' D = some (.lst (([V.str x] : List V).take i))) ⟨same_new hD, upd_same⟩ (fun i H' _ h => SqT.of (h.1 _ _ g11)) ?_ ?_⟩
      · rintro i y H2 H3 hi ⟨s2, g2⟩ ⟨rfl, ey⟩
        have hi : i < 1 := hi
        obtain rfl : i = 0 := by omega
        cases ey
        refine ⟨rfl, ?_⟩
        refine ⟨_, rfl, ar, _, 0, _, rfl, rfl, SqT.of (s2 _ _ gr1), rfl, _, g2, szl (by simp), fun b o e => ?_, ?_⟩
        · rw [upd_ne (ne_of_none e hD)]
          exact s2 _ _ e
        · rw [upd_same]
          rfl
      · rintro H2 ⟨s2, g2⟩
        refine ⟨D, [x], rfl, .inl g2, by simp, fun z hz => by rw [List.mem_singleton.mp hz]; exact ho.1.1, fun H3 s3 => ?_⟩
        refine ⟨_, rfl, iF rfl ?_⟩
        have S13 := s2.trans s3
        have ga3 := S13 _ _ ga1
        have g13 := S13 _ _ g11
        have gr3 := S13 _ _ gr1
        refine ⟨_, rfl, ad, _, 1, _, rfl, rfl, SqT.of ga3, rfl, a1, rfl, ⟨_, SqT.of g13⟩, fun D2 hD2 => lc_it walk_tup (fun i H' => Same H3 H' ∧ H' D2 = some (.lst (([z1] : List V).take i))) ⟨same_new hD2, upd_same⟩ (fun i H' _ h => SqT.of (h.1 _ _ g13)) ?_ ?_⟩
        · rintro i y H4 H5 hi ⟨s4, g4⟩ ⟨rfl, ey⟩
          have hi : i < 1 := hi
          obtain rfl : i = 0 := by omega
          cases ey
          refine ⟨rfl, ?_⟩
          refine ⟨_, rfl, ar, _, 1, _, rfl, rfl, SqT.of (s4 _ _ gr3), rfl, _, g4, szl (by simp), fun b o e => ?_, ?_⟩
          · rw [upd_ne (ne_of_none e hD2)]
            exact s4 _ _ e
          · rw [upd_same]
            rfl
        · rintro H4 ⟨s4, g4⟩
          refine ⟨_, rfl, ad, _, 2, _, rfl, rfl, SqT.of (s4 _ _ ga3), rfl, slz rfl, fun q hq => ?_⟩
          have s5 := same_new (o := .lst [v2]) hq
          refine ⟨D2, q, _, _, rfl, rfl, s5 _ _ g4, upd_same, Nat.le_of_lt (szl (by simp)), fun p hp => ?_⟩
          have s6 := same_new (o := .lst ([z1] ++ [v2])) hp
          have S := s1.trans (S13.trans (s4.trans (s5.trans s6)))
          exact k _ p _ S upd_same ((s1.trans (S13.trans (s4.trans s5))).free hp) (.cons dz1 (.cons d2 .nil))
abbrev s_parts_in_match : Stmt := topS 18
abbrev N_parts_in_match : List Str := ["value", "arm"]
theorem sc_parts_in_match : FnScope N_parts_in_match ["value"] (defScope s_parts_in_match) := ⟨rfl, rfl, rfl, by decide +kernel, rfl, by decide +kernel, by decide +kernel⟩
theorem ok_fmat {f : Addr} {fd : FuncData} (F : Fun K "parts_in_match" "parts_in_match" s_parts_in_match f fd) (B : Bl mg) (B9 : Bl9 mg) (D_is_name : Kn P w K mg base 2 "is_name" ["value"] spName) (D_are_rows : Kn P w K mg base 1 "are_rows" ["value", "length"] spRows) (D_are_different_names : Kn P w K mg base 3 "are_different_names" ["row"] spDif) : FnOk P w K mg base CX0 4 f fd ["value"] (spForm isMatT) := by
  refine F.ok sc_parts_in_match (fun vs H Q E h => ?_) (fun cdv A outer s H vs Q E hr h => ?_)
  · obtain ⟨t, v, m, rfl, _⟩ := h
    rfl
  · obtain ⟨t, v, m, rfl, hd, ho, hm, k⟩ := h
    have hu64 := hr.units
    have hr_is_name : Room 2 _ := hr.mono (by decide)
    have hr_are_rows : Room 1 _ := hr.mono (by decide)
    have hr_are_different_names : Room 3 _ := hr
    refine ⟨_, (pss_cons (ps_if (PW.pt (pw_or (pt_cmpR op_ne (pe_callB call_len (by rfl) B.len PySem.boot_len (pa_cons (pv 0) pa_nil)) pe_int (nomark _)) (pw_or1 (pt_not (pt_val (pe_kn D_are_rows hr_are_rows (pa_cons (pe_ix ix_tup (pv 0) pe_int (fun _ _ => rfl)) (pa_cons pe_int pa_nil))))))))
  (pss_one (ps_ret pe_non))
  pss_nil)
  (pss_cons (ps_for PassesOwn.never rfl (pi_tup (pe_ix ix_tup (pv 0) pe_int (fun _ _ => rfl))) (pg_name (i := 1) sc_parts_in_match.nd rfl (Or.inl rfl))
  (pss_one (ps_if (PW.pt (pw_or (pt_not (pt_val (pe_kn D_is_name hr_is_name (pa_cons (pe_ix ix_tup (pv 1) pe_int (fun _ _ => rfl)) pa_nil)))) (pw_or (pt_not (pt_val (pe_callB call_isi (by rfl) B9.isinstance PyProof.Rows.boot_isinstance (pa_cons (pe_ix ix_tup (pv 1) pe_int (fun _ _ => rfl)) (pa_cons (pe_bltn (v := .ty "tuple") (by rfl) B9.tuple (by decide +kernel) rfl) pa_nil))))) (pw_or1 (pt_not (pt_val (pe_kn D_are_different_names hr_are_different_names (pa_cons (pe_ix ix_tup (pv 1) pe_int (fun _ _ => rfl)) pa_nil))))))))
  (pss_one (ps_ret pe_non))
  pss_nil)))
  (pss_one (ps_ret (pe_op op_cat (pe_lst (pa_cons (pe_ix ix_tup (pv 0) pe_int (fun _ _ => rfl)) pa_nil)) (pe_lc (own := [("arm", 1)]) rfl sc_parts_in_match.nd (pi_tup (pe_ix ix_tup (pv 0) pe_int (fun _ _ => rfl))) (blkOk_by (N := N_parts_in_match) (sc := (defScope s_parts_in_match)) (own := [("arm", 1)]) (by decide +kernel)) (fun _ _ _ _ _ => (pg_name (i := 1) sc_parts_in_match.nd rfl (Or.inl rfl))) (fun _ _ _ _ _ => pts_nil) (fun _ _ _ _ _ => (pe_ix (show IxR _ (rIxT K) from ix_tup) (pv 1) pe_int (fun _ _ => rfl))))))))), ?_⟩
    cases m <;> first | cases hm | skip
    rename_i a b c
    cases id hd with
    | @tup ad xs _ ga da =>
      cases da with
      | @cons v0 _ _ _ d0 da =>
      cases da with
      | @cons v1 _ _ _ d1 da =>
      cases da with
      | @cons v2 _ _ _ d2 da =>
      cases da
      cases id d2 with
      | @tup a2 ys _ g2 d22 =>
      cases d22 with
      | @cons r0 _ _ _ dr0 d22 =>
      cases d22 with
      | @cons r1 _ _ _ dr1 d22 =>
      cases d22
      cases id dr0 with
      | @tup ar0 zs0 _ gr0 dz0 =>
      cases dz0 with
      | @cons x0 _ _ _ dx0 dz0 =>
      cases dz0 with
      | @cons x1 _ _ _ dx1 dz0 =>
      cases dz0 with
      | @cons x2 _ _ _ dx2 dz0 =>
      cases dz0
      cases id dr1 with
      | @tup ar1 zs1 _ gr1 dz1 =>
      cases dz1 with
      | @cons y0 _ _ _ dy0 dz1 =>
      cases dz1 with
      | @cons y1 _ _ _ dy1 dz1 =>
      cases dz1 with
      | @cons y2 _ _ _ dy2 dz1 =>
      cases dz1
      cases dx0
      cases dy0
      cases id dx1 with
      | @tup e0 _ _ ge0 de0 =>
      cases de0
      cases id dy1 with
      | @tup e1 _ _ ge1 de1 =>
      cases de1
      refine ⟨_, rfl, .ref ad, 3, rfl, .inr ⟨_, SqT.of ga, rfl⟩, ?_⟩
      refine ⟨rfl, _, rfl, iF rfl ?_⟩
      refine ⟨_, rfl, ad, _, 2, _, rfl, rfl, SqT.of ga, rfl, ?_⟩
      refine ⟨t, _, _, 3, rfl, d2, by simp, by simp, by decide, fun d hd => ?_, fun H1 s1 => ?_⟩
      · rcases List.mem_cons.mp hd with rfl | hd
        · exact ⟨_, rfl, rfl⟩
        · exact ⟨_, List.mem_singleton.mp hd, rfl⟩
      refine ⟨_, rfl, iF rfl ?_⟩
      have ga1 := s1 _ _ ga
      have g21 := s1 _ _ g2
      have arm : ∀ (i : Nat) (y : V), ([.ref ar0, .ref ar1] : List V)[i]? = some y → ∃ (ar e : Addr) (x : Str) (z : V), y = .ref ar ∧ H ar = some (.tup [.str x, .ref e, z]) ∧ H e = some (.tup []) ∧ isNameD (.str x) = true ∧ x.length ≤ 8 := fun i y ey => by
        match i, ey with
        | 0, ey => cases ey; exact ⟨ar0, e0, "no", x2, rfl, gr0, ge0, by decide +kernel, by decide⟩
        | 1, ey => cases ey; exact ⟨ar1, e1, "yes", y2, rfl, gr1, ge1, by decide +kernel, by decide⟩
        | _ + 2, ey => cases ey
      refine ⟨_, rfl, ad, _, 2, _, rfl, rfl, SqT.of ga1, rfl, a2, rfl, ⟨_, SqT.of g21⟩, for_it walk_tup (fun i σ H' => Same H1 H' ∧ ∃ v1, σ = [some (.ref ad), v1]) ⟨Same.refl _, _, rfl⟩ (fun i σ H' _ h => SqT.of (h.1 _ _ g21)) ?_ ?_⟩
      · rintro i y σ H2 H3 hi ⟨s2, v1', rfl⟩ ⟨rfl, ey⟩
        obtain ⟨ar, e, x, z, rfl, gar, ge, hx, hl⟩ := arm i y ey
        have S2 := s1.trans s2
        have gar2 := S2 _ _ gar
        have ge2 := S2 _ _ ge
        refine ⟨_, rfl, ar, _, 0, _, rfl, rfl, SqT.of gar2, rfl, t, .str x, .str x, rfl, .str x, (fun y e => by cases e; omega), ?_⟩
        rw [hx]
        refine ⟨_, rfl, iF rfl ?_⟩
        have de : Da t H3 (.ref e) (.tuple []) := .tup ge2 .nil
        refine ⟨_, rfl, ar, _, 1, _, rfl, rfl, SqT.of gar2, rfl, .ref e, .ty "tuple", .type (tyName (.tuple [])), .type "tuple", isTup (.tuple []), rfl, .ty "tuple", de.ty, kit_tup _, _, rfl, iF rfl ?_⟩
        refine ⟨_, rfl, ar, _, 1, _, rfl, rfl, SqT.of gar2, rfl, e, [], rfl, .inr ge2, by simp, by simp, fun H4 s4 => ?_⟩
        refine ⟨_, rfl, iF rfl ?_⟩
        exact ⟨s2.trans s4, _, rfl⟩
      · rintro σ H2 ⟨s2, v1', rfl⟩
        have S2 := s1.trans s2
        have ga2 := S2 _ _ ga
        refine ⟨_, rfl, ad, _, 1, _, rfl, rfl, SqT.of ga2, rfl, slz rfl, fun q hq => ?_⟩
        have s3 := same_new (o := .lst [v1]) hq
        have g23 := s3 _ _ (s2 _ _ g21)
        have ga3 := s3 _ _ ga2
        have gz : ∀ (i : Nat) (y : V), ([.ref ar0, .ref ar1] : List V)[i]? = some y → ∃ (ar : Addr) (u0 u1 : V), y = .ref ar ∧ H ar = some (.tup [u0, u1, ([x2, y2] : List V).getD i .non]) := fun i y ey => by
          match i, ey with
          | 0, ey => cases ey; exact ⟨ar0, _, _, rfl, gr0⟩
          | 1, ey => cases ey; exact ⟨ar1, _, _, rfl, gr1⟩
          | _ + 2, ey => cases ey
        refine ⟨_, rfl, ad, _, 2, _, rfl, rfl, SqT.of ga3, rfl, a2, rfl, ⟨_, SqT.of g23⟩, fun D hD => lc_it walk_tup (fun i H' => Same (upd H2 q (.lst [v1])) H' ∧ H' D = some (.lst (([x2, y2] : List V).take i))) ⟨same_new hD, upd_same⟩ (fun i H' _ h => SqT.of (h.1 _ _ g23)) ?_ ?_⟩
        · rintro i y H3 H4 hi ⟨s4, g4⟩ ⟨rfl, ey⟩
          have hi : i < 2 := hi
          obtain ⟨ar, u0, u1, rfl, gar⟩ := gz i y ey
          refine ⟨rfl, ?_⟩
          refine ⟨_, rfl, ar, _, 2, _, rfl, rfl, SqT.of (s4 _ _ (s3 _ _ (S2 _ _ gar))), rfl, _, g4, szl (by simp; omega), fun b o e => ?_, ?_⟩
          · rw [upd_ne (ne_of_none e hD)]
            exact s4 _ _ e
          · rw [upd_same]
            match i, hi with
            | 0, _ => rfl
            | 1, _ => rfl
            | _ + 2, h => exact absurd h (by omega)
        · rintro H3 ⟨s4, g4⟩
          refine ⟨q, D, _, _, rfl, rfl, s4 _ _ upd_same, g4, Nat.le_of_lt (szl (by simp)), fun p hp => ?_⟩
          have s6 := same_new (o := .lst ([v1] ++ [x2, y2])) hp
          have S := S2.trans (s3.trans (s4.trans s6))
          exact k _ p _ S upd_same ((S2.trans (s3.trans s4)).free hp) (.cons d1 (.cons dx2 (.cons dy2 .nil)))
end
end L3

namespace L3
open PySem L2
def formL : List Str := ["name", "whole", "text", "use", "given", "let", "match", "hole"]
def FW (P : Program) (w : World) (K : PySem.W.Frag) (mg : Str → Option Value) (base : Heap) (fA : Addr) (x : Str) (sp : Sp) : Prop := ∃ f, KDct K w fA x (.ref f) ∧ Does P w K mg base 4 f sp
structure Fm (P : Program) (w : World) (K : PySem.W.Frag) (mg : Str → Option Value) (base : Heap) (fA : Addr) (esF : Array DictEntry) (nbF : Nat) : Prop where
  FORMS : ∃ u, mg "FORMS" = some u ∧ RelV (.ref fA) u
  kf : KDict K w fA esF nbF
  has : ∀ z : Str, ∃ r, PySem.W.nsIn K fA z = some r ∧ r.isSome = decide (z ∈ formL)
  name : FW P w K mg base fA "name" (spForm isNameT)
  whole : FW P w K mg base fA "whole" (spForm isWholeT)
  text : FW P w K mg base fA "text" (spForm isTextT)
  use : FW P w K mg base fA "use" (spForm isUseT)
  giv : FW P w K mg base fA "given" (spForm isGivT)
  let_ : FW P w K mg base fA "let" (spForm isLetT)
  mat : FW P w K mg base fA "match" (spForm isMatT)
def wordT : Tm → Str
  | .name _ => "name" | .whole => "whole" | .text => "text" | .use _ _ => "use" | .giv _ _ => "given" | .lt _ _ _ => "let" | .mt _ _ _ => "match" | .hole => "hole"
def isT (m : Tm) : Tm → Bool := match m with
  | .name _ => isNameT | .whole => isWholeT | .text => isTextT | .use _ _ => isUseT | .giv _ _ => isGivT | .lt _ _ _ => isLetT | .mt _ _ _ => isMatT | .hole => fun _ => false
theorem isT_self (m : Tm) (h : m.ok = true) : isT m m = true := by
  cases m <;> first | rfl | cases h
/-- what stands in a term's tuple -/
theorem tm_tup {t : Addr} {H : Hp} {v : V} {m : Tm} (h : Da t H v m.d) : ∃ (a : Addr) (xs : List V), v = .ref a ∧ H a = some (.tup (.str (wordT m) :: xs)) := by
  cases m <;> (cases h with
    | @tup ad xs _ ga da =>
      cases da with
      | cons d0 da =>
        cases d0
        exact ⟨_, _, rfl, ga⟩)
def spParts : Sp := fun vs H Q _ => ∃ (t : Addr) (v : V) (m : Tm), vs = [v] ∧ Da t H v m.d ∧ m.ok = true ∧ ∀ H' l us, Same H H' → H' l = some (.lst us) → H l = none → DaAll t H us (dsP m) → Q (.ref l) H'
section
variable {P : Program} {w : World} {K : PySem.W.Frag} {mg : Str → Option Value} {base : Heap} {fA : Addr} {esF : Array DictEntry} {nbF : Nat}
theorem Fm.at (FM : Fm P w K mg base fA esF nbF) (m : Tm) (h : m.ok = true) : FW P w K mg base fA (wordT m) (spForm (isT m)) := by
  cases m with
  | name => exact FM.name
  | whole => exact FM.whole
  | text => exact FM.text
  | use => exact FM.use
  | giv => exact FM.giv
  | lt => exact FM.let_
  | mt => exact FM.mat
  | hole => cases h
abbrev s_parts_in : Stmt := topS 11
abbrev N_parts_in : List Str := ["value", "word", "form"]
theorem sc_parts_in : FnScope N_parts_in ["value"] (defScope s_parts_in) := ⟨rfl, rfl, rfl, by decide +kernel, rfl, by decide +kernel, by decide +kernel⟩
theorem ok_parts {f : Addr} {fd : FuncData} (F : Fun K "parts_in" "parts_in" s_parts_in f fd) (B : Bl mg) (B9 : Bl9 mg) (M : Fm P w K mg base fA esF nbF) : FnOk P w K mg base CX0 5 f fd ["value"] spParts := by
  refine F.ok sc_parts_in (fun vs H Q E h => ?_) (fun cdv A outer s H vs Q E hr h => ?_)
  · obtain ⟨t, v, m, rfl, _⟩ := h
    rfl
  · obtain ⟨t, v, m, rfl, hd, ho, k⟩ := h
    have hu64 := hr.units
    have hr_act : Room 4 _ := hr
    refine ⟨_, (pss_cons (ps_if (PW.pt (pw_or (pt_not (pt_val (pe_callB call_isi (by rfl) B9.isinstance PyProof.Rows.boot_isinstance (pa_cons (pv 0) (pa_cons (pe_bltn (v := .ty "tuple") (by rfl) B9.tuple (by decide +kernel) rfl) pa_nil))))) (pw_or1 (pt_cmpR op_eq (pe_callB call_len (by rfl) B.len PySem.boot_len (pa_cons (pv 0) pa_nil)) pe_int (nomark _)))))
  (pss_one (ps_ret pe_non))
  pss_nil)
  (pss_cons (ps_set (i := 1) sc_parts_in.nd rfl (Or.inl rfl) (pe_ix ix_tup (pv 0) pe_int (fun _ _ => rfl)))
  (pss_cons (ps_if (PW.pt (pw_or (pt_not (pt_val (pe_callB call_isi (by rfl) B9.isinstance PyProof.Rows.boot_isinstance (pa_cons (pv 1) (pa_cons (pe_bltn (v := .ty "str") (by rfl) B9.str_ (by decide +kernel) rfl) pa_nil))))) (pw_or1 (pt_cmpR (op_notIn_kd M.kf) (pv 1) (pe_gc (by rfl) M.FORMS) (by rfl)))))
  (pss_one (ps_ret pe_non))
  pss_nil)
  (pss_cons (ps_set (i := 2) sc_parts_in.nd rfl (Or.inl rfl) (pe_ix ix_kdict (pe_gc (by rfl) M.FORMS) (pv 1) (fun _ _ => rfl)))
  (pss_one (ps_ret (pe_callD (i := 2) hr_act (by rfl) (by first | exact Or.inl rfl | exact Or.inr (Or.inl rfl)) (pa_cons (pv 0) pa_nil)))))))), ?_⟩
    obtain ⟨ad, xs, rfl, ga⟩ := tm_tup hd
    obtain ⟨ds, ed⟩ : ∃ ds, m.d = .tuple ds := by cases m <;> exact ⟨_, rfl⟩
    have hd2 := hd
    rw [ed] at hd2
    refine ⟨_, rfl, .ref ad, .ty "tuple", .type (tyName (.tuple ds)), .type "tuple", isTup (.tuple ds), rfl, .ty "tuple", hd2.ty, kit_tup _, _, rfl, ?_⟩
    refine iF rfl ?_
    refine ⟨_, rfl, .ref ad, _, rfl, .inr ⟨_, SqT.of ga, rfl⟩, ?_⟩
    refine ⟨rfl, _, rfl, ?_⟩
    refine iF (decide_eq_false fun z => by injection z with z; simp at z; omega) ?_
    refine ⟨_, rfl, ad, _, 0, _, rfl, rfl, SqT.of ga, at_of (show (0 : Int) = ((0 : Nat) : Int) from rfl) rfl, ?_⟩
    refine ⟨_, rfl, .str (wordT m), .ty "str", .type "str", .type "str", true, rfl, .ty "str", .base (.str (wordT m)), kit_str (.str (wordT m)), _, rfl, ?_⟩
    refine iF rfl ?_
    obtain ⟨r, er, hr2⟩ := M.has (wordT m)
    have hw : wordT m ∈ formL := by
      cases m <;> first | exact (by decide : ("name" : Str) ∈ formL) | exact (by decide : ("whole" : Str) ∈ formL) | exact (by decide : ("text" : Str) ∈ formL) | exact (by decide : ("use" : Str) ∈ formL) | exact (by decide : ("given" : Str) ∈ formL) | exact (by decide : ("let" : Str) ∈ formL) | exact (by decide : ("match" : Str) ∈ formL) | exact (by decide : ("hole" : Str) ∈ formL)
    refine ⟨_, rfl, wordT m, r, rfl, rfl, er, ?_⟩
    rw [hr2, decide_eq_true hw]
    refine ⟨_, rfl, iF rfl ?_⟩
    obtain ⟨g, hk, hD⟩ := M.at m ho
    refine ⟨_, rfl, fA, wordT m, _, rfl, rfl, hk, ?_⟩
    exact ⟨g, _, rfl, hD, _, rfl, t, .ref ad, m, rfl, hd, ho, isT_self m ho, k⟩
end
end L3

/-! a known function called by keywords alone -/
namespace L3
open PySem L2
structure KnK (P : Program) (w : World) (K : PySem.W.Frag) (mg : Str → Option Value) (base : Heap) (k : Nat) (x : Str) (ps : List Str) (sp : Sp) : Prop where
  ex : ∃ (f : Addr) (fd : FuncData), FnOk P w K mg base CX0 k f fd ps sp ∧ mg x = some (.ref f) ∧ PySem.W.keepIn K (.ref f) = true ∧ KBinds K fd ps ps (fun us ws => us ++ ws) (fun vs zs => vs ++ zs)
section
variable {X : Cx} {x : Str} {k : Nat} {ps : List Str} {sp : Sp} {kws : List Keyword} {tk : TA} {p pos : Pos}
theorem pe_knK (D : KnK X.prog X.w X.K X.mg X.base k x ps sp) (hr : Room k X.A) (hkw : PK X kws tk) (hg : Gl X x := by rfl) (hdb : (x == ("__debug__" : Str)) = false := by decide)
    (hall : (backToKw pos (keywordEach kws X.env)).all (·.1.isSome) = true := by rfl) (hks : (backToKw pos (keywordEach kws X.env)).filterMap (·.1) = ps := by rfl)
    (hpl : ((backTo pos (starEach [] X.env)).any (·.1) || (backToKw pos (keywordEach kws X.env)).any (·.1.isNone)) = false := by rfl) :
    PE X (.Call (.Name x p) [] kws pos) (fun σ H Q => tk σ H fun zs H2 => sp zs H2 Q E0) := by
  obtain ⟨f, fd, F, hm, hk, hb⟩ := D.ex
  refine ⟨fun pins s σ H Q I h => wpAny_Call_Name_kw (ld_glob I hg hm ?_ hdb)⟩
  refine PySem.W.callWith_KW0 (h₀ := X.base) I.ok.mod.kin hk hall (thn (hkw.run pos pins s σ H _ I h) fun ws s2 ⟨zs, H2, I2, rz, q2⟩ => ⟨I2.kIn, ?_⟩) hpl
  rw [hks]
  exact run_fnk (us := []) (vs := []) F hr hb pass0 I2 .nil rz q2
/-- a function of one parameter -/
theorem kbinds1 {K : PySem.W.Frag} {fd : FuncData} {x : Str} (h : ∀ (s : Shared) (v : Value), BindsTo s fd ⟨[v], []⟩ [(x, v)]) (h2 : ∀ (s : Shared) (v : Value), BindsTo s fd ⟨[], [(x, v)]⟩ [(x, v)]) : KBinds K fd [x] [x] (fun us ws => us ++ ws) (fun vs zs => vs ++ zs) where
  to := fun s us ws _ hl => by
    match us, ws, hl with
    | [], [w], _ => exact h2 s w
    | [u], [], _ => exact h s u
  rel := fun r rz => by
    induction r with
    | nil => exact rz
    | cons a b ih => exact .cons a ih
end
end L3

/-! own exceptions as values, over any built-in one: stores within __init__ -/
namespace L3
open PySem PySem.Spec PyProof.Rows L2
/-- an own class over a built-in exception, as the written part has it -/
structure Xc (K : PySem.W.Frag) (C : Addr) (bmB : List Value) (nw : String) : Prop where
  ini : PySem.W.excInitIn K C bmB nw = true
  ov : PySem.W.excOver K C bmB = true
  sa : PySem.W.findIn K (.ref C) "__setattr__" = some (some (.builtin "object.__setattr__"))
  kC : PySem.W.keepIn K (.ref C) = true
  dct : PySem.W.hasDictIn K C = true
theorem Xc.cls {K : PySem.W.Frag} {C : Addr} {bmB : List Value} {nw : String} (T : Xc K C bmB nw) : ∃ cd, PySem.W.clsIn K C = some cd ∧ cd.hasDict = true := by
  obtain ⟨cd, h1, h2⟩ := PySem.W.any_some T.dct
  exact ⟨cd, h1, h2⟩
section
variable {X : Cx} {pins : List (Addr × Obj)} {σ : L2.St} {H : Hp} {s : Shared} {a C dx : Addr} {f : Str} {y : V} {u : Value} {fs : List (Str × V)} {bmB : List Value} {B nw : String} {Q : Unit → Shared → Prop} {E : Value → Shared → Prop} {A : Around}
open Builtin Builtin.ObjectAttr in
theorem set_first (SF : StoreFacts B bmB "object.__setattr__" "object") (T : Xc X.K C bmB nw) (I : Inv X pins σ H s) (e : H a = some (exo a C none)) (ht : PySem.W.takerIn X.K C f = some none) (ry : RelV y u)
    (h : ∀ dx s', H dx = none → dx ≠ a → Inv X pins σ (upd (upd H dx (exd dx [(f, y)])) a (exo a C (some dx))) s' → Q () s') : wpAny (model X.prog X.w) A (setAttr (.ref a) f u) Q E s := by
  obtain ⟨cd, hcl, hdd⟩ := T.cls
  obtain ⟨t1, ho⟩ := exo_at I.hok e
  have X0 := I.kIn
  obtain ⟨hp, g, d, t, os⟩ := s
  have J : PySem.W.InstAt hp a { cls := .ref C, dict := none, data := .fields #[.ref t1, .none, .none, .none, .bool false, .none] } C none := ⟨ho, rfl, rfl, trivial⟩
  refine PySem.W.set_plain X0 J T.sa ?_
  refine PySem.W.osa_openX SF X0 J T.ov ht fun b => ?_
  have Lc : PySem.W.Looks (model X.prog X.w) hp (classData C) cd := PySem.W.looks_clsIn X0 hcl
  obtain ⟨nm, bs, mro, ns, qn, hd, sn, sb, ab, col, dl⟩ := cd
  dsimp only at hdd
  subst hdd
  have nx : a ≠ hp.objs.size := Nat.ne_of_lt (Heap.lt_size ho)
  show wpAny _ _ (storeInOwnDict (.ref a) (.ref C) (.str f _) f u b) _ _ _
  unfold storeInOwnDict ownDictForStores
  repeat (first | with_reducible refine PySem.HandSPX.store_in_new ?_ ?_ | with_reducible refine wpAny_loadPart_at ho ?_ | with_reducible refine Lc.at ?_ | wp_step)
  · exact ⟨_, #[], _, (Heap.get?_update_ne _ _ _ _ nx.symm).trans (Heap.get?_push_at rfl rfl), rfl, fun q hq => absurd hq (by simp), fun _ => rfl⟩
  · intro h1 tk1 n1 sb1
    have gx : h1.get? a = some { cls := .ref C, dict := some hp.objs.size, data := .fields #[.ref t1, .none, .none, .none, .bool false, .none] } := (sb1.2 a nx).trans (Heap.get?_update_self _ (Heap.get?_push_of_some _ ho) rfl)
    have kp : ∀ b o, b ≠ a → hp.get? b = some o → h1.get? b = some o := fun b o nb q => (sb1.2 b (Nat.ne_of_lt (Heap.lt_size q))).trans ((Heap.get?_update_ne _ _ _ _ nb).trans (Heap.get?_push_of_some _ q))
    have fr : H hp.objs.size = none := I.hok.fresh (Nat.le_refl _)
    have lt : ∀ {b o}, hp.get? b = some o → b ≠ hp.objs.size := fun q => Nat.ne_of_lt (Heap.lt_size q)
    have no : ∀ {b}, H b = none → b ≠ a := fun n z => by rw [z, e] at n; cases n
    -- what stands at b is not the exception, nor new
    have past : ∀ {b o}, H b = some o → o ≠ exo a C none → (upd (upd H hp.objs.size (exd hp.objs.size [(f, y)])) a (exo a C (some hp.objs.size))) b = some o := fun {b o} q n => by
      rw [upd_ne (at_ne e q n.symm), upd_ne (ne_of_none q fr)]
      exact q
    have un : Un X.fs [] H (upd (upd H hp.objs.size (exd hp.objs.size [(f, y)])) a (exo a C (some hp.objs.size))) hp h1 :=
      ⟨fun b o q n _ _ => kp b o (no n) q, fun b o q n _ _ => ⟨o.slots, kp b o (no n) q⟩, fun b o q n _ => by rw [upd_ne (no n), upd_ne (lt q)]; exact n,
       fun b o q _ => (Classical.em (b = a)).elim (fun z => ⟨_, z ▸ gx⟩) fun z => ⟨o, kp b o z q⟩, fun b xs q => past q exo_tup.symm, fun b o v q => past q exo_frz.symm, fun b ps q => ⟨#[], by rw [past q exo_tbl.symm]; simp⟩⟩
    refine h _ _ fr nx.symm (I.un (t' := tk1) un fun b o q => ?_)
    by_cases za : b = a
    · cases za
      rw [upd_same] at q
      cases q
      exact exo_ok gx
    · rw [upd_ne za] at q
      by_cases zd : b = hp.objs.size
      · cases zd
        rw [upd_same] at q
        cases q
        exact exd_ok n1 (relO_put (fs := []) ry fun _ => trivial)
      · rw [upd_ne zd] at q
        refine (I.hok b o q).stay (fun c v hc z => kp c v ?_ z) (fun c hc => past hc exo_own.symm) (fun c xs hc => past hc exo_tup.symm)
        rcases hc with rfl | hc
        · exact za
        · exact at_ne e hc exo_own
open Builtin Builtin.ObjectAttr in
theorem set_more (SF : StoreFacts B bmB "object.__setattr__" "object") (T : Xc X.K C bmB nw) (I : Inv X pins σ H s) (e : H a = some (exo a C (some dx))) (ed : H dx = some (exd dx fs)) (hl : fs.length ≤ 900) (ht : PySem.W.takerIn X.K C f = some none) (ry : RelV y u)
    (h : ∀ s', Inv X pins σ (upd H dx (exd dx ((f, y) :: fs))) s' → Q () s') : wpAny (model X.prog X.w) A (setAttr (.ref a) f u) Q E s := by
  obtain ⟨cd, hcl, hdd⟩ := T.cls
  obtain ⟨t1, ho⟩ := exo_at I.hok e
  obtain ⟨m0, ns0, rel⟩ := exd_at I.hok ed
  have wi := within_of rel
  have X0 := I.kIn
  obtain ⟨hp, g, d, t, os⟩ := s
  obtain ⟨o2, _, _, ho2, _, _⟩ := ns0.count wi
  have J : PySem.W.InstAt hp a { cls := .ref C, dict := some dx, data := .fields #[.ref t1, .none, .none, .none, .bool false, .none] } C (some o2) := ⟨ho, rfl, rfl, ho2⟩
  refine PySem.W.set_plain X0 J T.sa ?_
  refine PySem.W.osa_openX SF X0 J T.ov ht fun b => ?_
  have Lc : PySem.W.Looks (model X.prog X.w) hp (classData C) cd := PySem.W.looks_clsIn X0 hcl
  obtain ⟨nm, bs, mro, ns, qn, hd, sn, sb, ab, col, dl⟩ := cd
  dsimp only at hdd
  subst hdd
  show wpAny _ _ (storeInOwnDict (.ref a) (.ref C) (.str f _) f u b) _ _ _
  unfold storeInOwnDict ownDictForStores
  repeat (first | with_reducible refine PySem.OEX.store_in_old ns0 wi (by rw [List.length_map]; omega) ?_ | with_reducible refine wpAny_loadPart_at ho ?_ | with_reducible refine Lc.at ?_ | wp_step)
  intro h1 tk1 n1 sb1
  refine h _ (I.write (t' := tk1) (x := dx) (e := dx) (o := exd dx ((f, y) :: fs)) (by rw [ed]; trivial) (.inl rfl) (fun b o nb q => (sb1.2 b nb).trans q) ?_ (exd_ok n1 (relO_put ry rel)))
  obtain ⟨o, _, _, q, _⟩ := n1
  exact ⟨o, q⟩
end
/-- self.f = e within __init__ -/
def tSetX (K : PySem.W.Frag) (bmB : List Value) (nw : String) (f : Str) (to te : TE) : TS := fun D σ H => te σ H fun y H1 => to σ H1 fun x H2 => ∃ a C : Addr, x = .ref a ∧ Xc K C bmB nw ∧ PySem.W.takerIn K C f = some none ∧
  ((H2 a = some (exo a C none) ∧ ∀ dx, H2 dx = none → dx ≠ a → D.nx σ (upd (upd H2 dx (exd dx [(f, y)])) a (exo a C (some dx)))) ∨
    ∃ (dx : Addr) (fs : List (Str × V)), H2 a = some (exo a C (some dx)) ∧ H2 dx = some (exd dx fs) ∧ fs.length ≤ 900 ∧ D.nx σ (upd H2 dx (exd dx ((f, y) :: fs))))
/-- C(..), C's own __init__ keeping sp: the exception itself -/
def tNewX (C : Addr) (sp : Sp) (ta : TA) : TE := fun σ H Q => ta σ H fun vs H1 => vs.length ≤ 1000 ∧ ∀ a, H1 a = none → sp (.ref a :: vs) (upd H1 a (exo a C none)) (fun v H2 => v = .non ∧ Q (.ref a) H2) E0
section
variable {X : Cx} {o e : Expr} {es : List Expr} {to te : TE} {ta : TA} {f : Str} {p p' pos : Pos} {bmB : List Value} {B nw ini : String} {C : Addr}
theorem ps_setX (SF : StoreFacts B bmB "object.__setattr__" "object") (ho : PE X o to) (he : PE X e te) (hs : swapsWith e (some (.Attribute o f p')) pos.line X.env = pure false := by rfl) : PS X (.Assign [.Attribute o f p'] e pos) (tSetX X.K bmB nw f to te) := by
  refine ⟨fun pins s σ H D I h => plainObj_wpAny_Assign_Attribute (thn (he.run pins s σ H _ I h) fun v s1 ⟨y, H1, I1, r1, q1⟩ => thn (ho.run pins s1 σ H1 _ I1 q1) fun u s2 ⟨x, H2, I2, r2, a, C, ex, T, ht, q⟩ => ?_) hs⟩
  subst ex
  obtain rfl : u = Value.ref a := r2
  rcases q with ⟨ea, q⟩ | ⟨dx, fs, ea, ed, hl, q⟩
  · exact set_first SF T I2 ea ht r1 fun dx s3 n ne J => ⟨σ, _, J, q dx n ne⟩
  · exact set_more SF T I2 ea ed hl ht r1 fun s3 J => ⟨σ, _, J, q⟩
/-- an own class with an own __init__ -/
structure Xi (P : Program) (w : World) (K : PySem.W.Frag) (mg : Str → Option Value) (base : Heap) (k : Nat) (C : Addr) (ps : List Str) (sp : Sp) : Prop where
  ex : ∃ (fI : Addr) (fd : FuncData), FnOk P w K mg base CX0 k fI fd ps sp ∧ PySem.W.findIn K (.ref C) "__init__" = some (some (.ref fI)) ∧ PySem.W.typeIn K (.ref fI) = some (.type "function") ∧ Binds K fd ps []
theorem pe_newX {x : Str} {k : Nat} {ps : List Str} {sp : Sp} (FB : ExcBaseFacts B nw ini bmB) (T : Xc X.K C bmB nw) (D : Xi X.prog X.w X.K X.mg X.base k C ps sp) (hr : Room (k + 1) X.A) (hm : X.mg x = some (.ref C)) (ha : PA X (e :: es) ta) (hg : Gl X x := by rfl)
    (hdb : (x == ("__debug__" : Str)) = false := by decide) (he : starEach (e :: es) X.env = (false, eval e X.env) :: starEach es X.env := by rfl) (hpl : (backTo pos (starEach es X.env)).any (·.1) = false := by rfl) :
    PE X (.Call (.Name x p) (e :: es) [] pos) (tNewX C sp ta) := by
  obtain ⟨fI, fd, F1, iC, tI, hb⟩ := D.ex
  refine ⟨fun pins s σ H Q I h => wpAny_Call_Name_kw (ld_glob I hg hm ?_ hdb)⟩
  refine PySem.W.callWith_K (h₀ := X.base) I.ok.mod.kin T.kC (thn (ha.run pos pins s σ H _ I h) fun us s1 ⟨vs, H1, I1, r1, hz, q1⟩ => ⟨I1.kIn, ?_⟩) he hpl
  show wpAny _ _ (call (.ref C) us) _ _ _
  obtain ⟨nm, N, qn, bs, bm, hd, sn, sb, ab, col, dd, k0, k1, k2, k3, k5, hC, hT⟩ := PySem.W.excInit_of I1.kIn T.ini
  obtain ⟨hp, g, dr, tk, os⟩ := s1
  have lz : us.length ≤ sizeLine := by rw [← r1.length, sizeLine_eq]; omega
  have fr : H1 (hp.objs.size + 1) = none := I1.hok.fresh (Nat.le_succ _)
  have J : Inv X pins σ (upd H1 (hp.objs.size + 1) (exo (hp.objs.size + 1) C none)) ⟨(hp.push (PySem.W.kdv_tup us)).push (PySem.HandSPX.excO C hp.objs.size), g, dr, tk, os⟩ :=
    I1.laid (t' := tk) (fun b o q => Heap.get?_push_of_some _ (Heap.get?_push_of_some _ q)) (Nat.le_succ _) (exo_ok (by heap_get))
  have q2 := q1 _ fr
  have rv : Vals (V.ref (hp.objs.size + 1) :: vs) (Value.ref (hp.objs.size + 1) :: us) := .cons rfl r1
  have ln : (Value.ref (hp.objs.size + 1) :: us ++ []).length = ps.length := by
    rw [List.append_nil, ← rv.length]
    exact F1.len _ _ _ _ q2
  have bi := hb ⟨(hp.push (PySem.W.kdv_tup us)).push (PySem.HandSPX.excO C hp.objs.size), g, dr, tk, os⟩ _ J.kIn ln
  rw [List.append_nil] at bi
  refine wpAny_call (PySem.HandSPX.call_own FB hT hC (PySem.W.looks_findIn I1.kIn iC) (fun self => PySem.W.bind_fn I1.kIn self tI) lz (codeAny_mono (F1.run _ X.stack _ _ ⟨Value.ref (hp.objs.size + 1) :: us, []⟩ (Value.ref (hp.objs.size + 1) :: us) _ _ E0 (hr.make C us []) (J.env0.make C us []) bi rv q2) fun r s' z => ?_))
  cases r with
  | error er => exact z.elim
  | ok fl =>
    cases fl with
    | ret u =>
      obtain ⟨v, H2, I2, r2, ev, q3⟩ := J.after z
      subst ev
      exact ⟨r2, .ref (hp.objs.size + 1), H2, I2, rfl, q3⟩
    | next => exact z.elim
    | brk => exact z.elim
    | cont => exact z.elim
/-- what the class must say so that its exceptions are read and asked -/
structure Xr (K : PySem.W.Frag) (C : Addr) : Prop where
  ga : PySem.W.findIn K (.ref C) "__getattribute__" = some (some (.builtin "BaseException.__getattribute__"))
  gg : PySem.W.findIn K (.ref C) "__getattr__" = some none
  sb : PySem.W.subIn K (.ref C) (.type "BaseException") = some true
  dct : PySem.W.hasDictIn K C = true
  cl : PySem.W.findIn K (.ref C) "__class__" = some (some (.builtin "object.__class__"))
  gs : PySem.W.specialIn K (.builtin "object.__class__") "__get__" = some (some (.builtin "getset_descriptor.__get__"))
  tk : PySem.W.takesIn K (.builtin "object.__class__") = some true
  ob : PySem.W.mroIn K C (.type "object") = some true
/-- e.f -/
def tFld (K : PySem.W.Frag) (f : Str) (te : TE) : TE := fun σ H Q => te σ H fun x H1 => ∃ (a C d : Addr) (fs : List (Str × V)) (v : V), x = .ref a ∧ Xr K C ∧ PySem.W.findIn K (.ref C) f = some none ∧ H1 a = some (exo a C (some d)) ∧ H1 d = some (exd d fs) ∧ fs.lookup f = some v ∧ Q v H1
theorem pe_fld (he : PE X e te) (hb : attributeBase e f X.env (eval e X.env) = eval e X.env := by rfl) : PE X (.Attribute e f pos) (tFld X.K f te) := by
  refine ⟨fun pins s σ H Q I h => attr_of hb (thn (he.run pins s σ H _ I h) fun u s1 ⟨x, H1, I1, rx, a, C, d, fs, v, ex, T, no, ea, ed, l, q⟩ => ?_)⟩
  subst ex
  obtain rfl : u = Value.ref a := rx
  obtain ⟨t1, ho⟩ := exo_at I1.hok ea
  obtain ⟨mA, ns, rl⟩ := exd_at I1.hok ed
  obtain ⟨od, hd, lk⟩ := lookIn_ns ns
  obtain ⟨z, hz, rz⟩ := RelO.some_of (v := v) (o := mA f) (by rw [← l]; exact rl f)
  have J : PySem.W.InstAt s1.heap a _ C (some od) := ⟨ho, rfl, rfl, hd⟩
  exact PySem.HandSPX.exc_get I1.kIn J T.ga T.gg T.sb (PySem.W.findObj_own T.dct no rfl (by rw [lk, hz])) (handed_of rz) ⟨v, H1, I1.tok _, rz, q⟩
/-- isinstance(e, c) -/
def rIsX (K : PySem.W.Frag) : List V → Hp → VK → Prop := fun xs H Q => ∃ (a C : Addr) (d : Option Addr) (c : V) (cv : Value) (b : Bool), xs = [.ref a, c] ∧ Xr K C ∧ H a = some (exo a C d) ∧ (∀ x, d = some x → ∃ fs, H x = some (exd x fs)) ∧ (∀ u, RelV c u → u = cv) ∧ PySem.W.kitOne K (.ref C) cv = some b ∧ Q (.bl b) H
theorem call_isX : CallR X (.builtin "isinstance") (rIsX X.K) := by
  intro pins s σ H xs us Q I r ⟨a, C, d, c, cv, b, exs, T, ea, hd, hc, e, q⟩
  subst exs
  cases r with
  | cons ra rr =>
    cases rr with
    | cons rc rr =>
      cases rr
      cases ra
      cases hc _ rc
      obtain ⟨t1, ho⟩ := exo_at I.hok ea
      obtain ⟨od, J⟩ : ∃ od, PySem.W.InstAt s.heap a { cls := .ref C, dict := d, data := .fields #[.ref t1, .none, .none, .none, .bool false, .none] } C od := by
        cases d with
        | none => exact ⟨none, ho, rfl, rfl, trivial⟩
        | some x =>
          obtain ⟨fs, hx⟩ := hd x rfl
          obtain ⟨mA, ns, _⟩ := exd_at I.hok hx
          obtain ⟨od, ho2, _⟩ := lookIn_ns ns
          exact ⟨some od, ho, rfl, rfl, ho2⟩
      have cl : (PySem.W.clsIn X.K C).isSome = true := by
        obtain ⟨cd, h1, _⟩ := PySem.W.any_some T.dct
        rw [h1]
        rfl
      exact PySem.W.kia_one (PySem.W.kitx_exc cl T.ga T.gg T.sb T.cl T.gs T.tk T.ob) I.kIn J e (fun z => nomatch z) fun tk => ⟨.bl b, H, I.kept (t' := tk) fun _ _ z => z, rfl, q⟩
end
end L3

/-! own exceptions made by keywords; those without an own __init__ -/
namespace L3
open PySem PySem.Spec PyProof.Rows L2 PySem.Calls
section
variable {prog : Program} {w : World} {A : Around} {E : Value → Shared → Prop} {R : Result → Shared → Prop} {h : Heap} {g : Array GenState} {d : Drawn} {t : Nat} {os : OsState} {kw : List (Str × Value)}
variable {nm q : Str} {C N fI : Addr} {bs bm bmB : List Value} {hdct : Bool} {sn : List Str} {sub : List Value} {ab : Bool} {col : Option Bool} {dd : Option Addr} {k0 k1 k2 k3 k5 : Option Value} {B nw ini : String}
theorem kw_new (F : ExcBaseFacts B nw ini bmB) (hT : ∀ X : String, bm.contains (.type X) = bmB.contains (.type X)) (hC : h.get? C = some (excClassObj nm q C N bs bm hdct sn sub ab col dd k0 k1 k2 k3 k5 nw))
    (k : R (.ok (.ret (.ref (h.objs.size + 1)))) ⟨(h.push (PySem.W.kdv_tup [])).push (PySem.HandSPX.excO C h.objs.size), g, d, t, os⟩) : codeAny (model prog w) A (.builtin nw ⟨[.ref C], kw⟩) R ⟨h, g, d, t, os⟩ := by
  have e0 := F.ends
  have e1 : (Value.ref C :: bm).contains (.type B) = true := by rw [List.contains_cons, hT B, F.hasB, Bool.or_true]
  have e2 : (Value.ref C :: bm).contains (.type "AttributeError") = false := by rw [List.contains_cons, hT "AttributeError", F.noAttr] <;> rfl
  have e3 : (Value.ref C :: bm).contains (.type "NameError") = false := by rw [List.contains_cons, hT "NameError", F.noName] <;> rfl
  refine codeAny_builtinAt F.entry ?_
  unfold Builtin.«BaseException.__new__»
  refine PySem.wpAt_bind ?_
  show PySem.wpAt _ _ _ (stack >>= _) _ _ _
  refine PySem.wpAt_bind (PySem.wpAt_stack fun p below => PySem.wpAt_of_wpAny ?_)
  wp_walk
  refine PySem.wpAt_of_wpAny ?_
  rw [F.owner]
  repeat (first
    | with_reducible refine wpAny_madeHere_exc F.canon hC ?_
    | with_reducible refine wpAny_loadPart_at hC ?_
    | (with_reducible refine wpAny_isSubtype_exc hC ?_; first | rw [e1] | rw [e2] | rw [e3])
    | wp_step)
  show R _ _
  rw [Heap.size_push]
  exact k
theorem kw_check (F : ExcBaseFacts B nw ini bmB) (hT : ∀ X : String, bm.contains (.type X) = bmB.contains (.type X)) {M : Model} {Q : Unit → Shared → Prop} (hC : h.get? C = some (excClassObj nm q C N bs bm hdct sn sub ab col dd k0 k1 k2 k3 k5 nw))
    (k : Q () ⟨h, g, d, t, os⟩) : wpAny M A (checkBuiltinCall nw ⟨[.ref C], kw⟩) Q E ⟨h, g, d, t, os⟩ := by
  have e1 : (Value.ref C :: bm).contains (.type B) = true := by rw [List.contains_cons, hT B, F.hasB, Bool.or_true]
  have e0 := F.noStar
  simp only [checkBuiltinCall, F.newSplit, F.newKind, F.newRow]
  repeat (first
    | refine wpAny_loadPart_at hC ?_
    | (refine wpAny_isSubtype_exc hC ?_; rw [e1])
    | refine wpAny_staticBase_exc hC ?_
    | refine wpAny_madeBy_exc hC ?_
    | simp only [bne_self_eq_false, Bool.false_eq_true, if_false]
    | wp_step)
  exact k
theorem kw_check2 {M : Model} {Q : Unit → Shared → Prop} (hC : h.get? C = some (excClassObj nm q C N bs bm hdct sn sub ab col dd k0 k1 k2 k3 k5 nw)) (k : Q () ⟨h, g, d, t, os⟩) : wpAny M A (checkBuiltinCall "type.__call__" ⟨[.ref C], kw⟩) Q E ⟨h, g, d, t, os⟩ := by
  have f3 := PySem.tc_sub
  have ty : (⟨h, g, d, t, os⟩ : Shared).TypeIs (.ref C) "type" := ⟨_, hC, rfl⟩
  simp only [checkBuiltinCall, PySem.tc_kind, PySem.tc_split]
  repeat (any_goals (first
    | assumption
    | with_reducible refine wpAny_loadPart_at hC ?_
    | with_reducible refine wpAny_onRaise ?_
    | with_reducible refine wpAny_map ?_
    | wp_step))
theorem kw_type (F : ExcBaseFacts B nw ini bmB) (hT : ∀ X : String, bm.contains (.type X) = bmB.contains (.type X)) {Q : Fin → Shared → Prop} (hC : h.get? C = some (excClassObj nm q C N bs bm hdct sn sub ab col dd k0 k1 k2 k3 k5 nw))
    (hi : PySem.W.Looks (model prog w) h (typeLookup (.ref C) "__init__") (some (.ref fI))) (hb : ∀ me, PySem.W.Looks (model prog w) h (bindSpecial (.ref fI) me) (.ref fI, [me]))
    (k : codeAny (model prog w) A (.call (.ref fI) ⟨[.ref (h.objs.size + 1)], kw⟩) (fun r s' => match r with | .ok (.ret v) => v = .none ∧ Q (.done (.ret (.ref (h.objs.size + 1)))) s' | .ok _ => False | .error e => E e s')
      ⟨(h.push (PySem.W.kdv_tup [])).push (PySem.HandSPX.excO C h.objs.size), g, d, t, os⟩) :
    wpAny (model prog w) A (Builtin.«type.__call__» ⟨[.ref C], kw⟩) Q E ⟨h, g, d, t, os⟩ := by
  repeat (first
    | with_reducible refine wpAny_loadPart_at hC ?_
    | with_reducible refine wpAny_madeBy_exc hC ?_
    | wp_step)
  refine codeAny_call_builtin_code (Code.quiet_builtin _ F.quiet) (kw_check F hT hC (kw_new F hT hC ?_))
  show wpAny _ _ _ _ _ _
  have kp : ∀ b o, h.get? b = some o → ((h.push (PySem.W.kdv_tup [])).push (PySem.HandSPX.excO C h.objs.size)).get? b = some o := fun b o z => Heap.get?_push_of_some _ (Heap.get?_push_of_some _ z)
  have gC := kp _ _ hC
  have ge : ((h.push (PySem.W.kdv_tup [])).push (PySem.HandSPX.excO C h.objs.size)).get? (h.objs.size + 1) = some (PySem.HandSPX.excO C h.objs.size) := by heap_get
  have e4 : (Value.ref C :: bm).contains (.ref C) = true := by simp
  unfold isInstance
  repeat (first
    | with_reducible refine wpAny_loadPart_at ge ?_
    | (with_reducible refine wpAny_isSubtype_exc gC ?_; rw [e4])
    | wp_step)
  show wpAny _ _ (typeLookup (.ref C) _) _ _ _
  refine (hi.keeps kp).at (wpAny_holding (wpAny_bind (((hb (.ref (h.objs.size + 1))).keeps kp).at (wpAny_bind (wpAny_call (codeAny_mono k fun r s' z => ?_))))))
  rcases r with e | (v | _ | _ | _) <;> first | exact z | exact z.elim | skip
  obtain ⟨rfl, z⟩ := z
  first
    | exact wpAny_pure (wpAny_pure z)
    | (wp_walk; exact z)
theorem kw_call (F : ExcBaseFacts B nw ini bmB) (hT : ∀ X : String, bm.contains (.type X) = bmB.contains (.type X)) (hC : h.get? C = some (excClassObj nm q C N bs bm hdct sn sub ab col dd k0 k1 k2 k3 k5 nw))
    (hi : PySem.W.Looks (model prog w) h (typeLookup (.ref C) "__init__") (some (.ref fI))) (hb : ∀ me, PySem.W.Looks (model prog w) h (bindSpecial (.ref fI) me) (.ref fI, [me]))
    (k : codeAny (model prog w) (A.under (.builtin "type.__call__" ⟨[.ref C], kw⟩)) (.call (.ref fI) ⟨[.ref (h.objs.size + 1)], kw⟩) (PySem.W.InitBack (h.objs.size + 1) R)
      ⟨(h.push (PySem.W.kdv_tup [])).push (PySem.HandSPX.excO C h.objs.size), g, d, t, os⟩) :
    codeAny (model prog w) A (.call (.ref C) ⟨[], kw⟩) R ⟨h, g, d, t, os⟩ := by
  have f1 := PySem.tc_lookup
  have f2 := PySem.tc_bind (.ref C)
  have ty : (⟨h, g, d, t, os⟩ : Shared).TypeIs (.ref C) "type" := ⟨_, hC, rfl⟩
  refine codeAny_of_tree ?_
  show wpAny _ _ (callAny (.ref C) _) _ _ _
  repeat (any_goals (first
    | assumption
    | with_reducible refine wpAny_loadPart_at hC ?_
    | wp_step))
  refine ⟨rfl, codeAny_call_builtin_at (Code.quiet_builtin _ (by decide +kernel)) entry_typeCall (kw_check2 hC (kw_type F hT hC hi hb (codeAny_mono k fun r s' z => ?_)))⟩
  rcases r with e | (v | _ | _ | _) <;> exact z
end
end L3

/-! rules: C(x=..), C() without an own __init__ -/
namespace L3
open PySem PySem.Spec PyProof.Rows L2
/-- an own class whose own __init__ is given keywords -/
structure Xk (P : Program) (w : World) (K : PySem.W.Frag) (mg : Str → Option Value) (base : Heap) (k : Nat) (C : Addr) (ps ks : List Str) (sp : Sp) (g : List Value → List Value → List Value) (gV : List V → List V → List V) : Prop where
  ex : ∃ (fI : Addr) (fd : FuncData), FnOk P w K mg base CX0 k fI fd ps sp ∧ PySem.W.findIn K (.ref C) "__init__" = some (some (.ref fI)) ∧ PySem.W.typeIn K (.ref fI) = some (.type "function") ∧ KBinds K fd ps ks g gV
/-- C(x=..): the exception itself -/
def tNewK (C : Addr) (sp : Sp) (gV : List V → List V → List V) (tk : TA) : TE := fun σ H Q => tk σ H fun zs H1 => ∀ a, H1 a = none → sp (gV [.ref a] zs) (upd H1 a (exo a C none)) (fun v H2 => v = .non ∧ Q (.ref a) H2) E0
section
variable {X : Cx} {e : Expr} {tk : TA} {kws : List Keyword} {p pos : Pos} {bmB : List Value} {B nw ini : String} {C : Addr}
theorem pe_newK {x : Str} {k : Nat} {ps ks : List Str} {sp : Sp} {g : List Value → List Value → List Value} {gV : List V → List V → List V} (FB : ExcBaseFacts B nw ini bmB) (T : Xc X.K C bmB nw) (D : Xk X.prog X.w X.K X.mg X.base k C ps ks sp g gV) (hr : Room (k + 1) X.A) (hm : X.mg x = some (.ref C)) (hkw : PK X kws tk) (hg : Gl X x := by rfl)
    (hdb : (x == ("__debug__" : Str)) = false := by decide) (hall : (backToKw pos (keywordEach kws X.env)).all (·.1.isSome) = true := by rfl) (hks : (backToKw pos (keywordEach kws X.env)).filterMap (·.1) = ks := by rfl)
    (hpl : ((backTo pos (starEach [] X.env)).any (·.1) || (backToKw pos (keywordEach kws X.env)).any (·.1.isNone)) = false := by rfl) : PE X (.Call (.Name x p) [] kws pos) (tNewK C sp gV tk) := by
  obtain ⟨fI, fd, F1, iC, tI, hb⟩ := D.ex
  refine ⟨fun pins s σ H Q I h => wpAny_Call_Name_kw (ld_glob I hg hm ?_ hdb)⟩
  refine PySem.W.callWith_KW0 (h₀ := X.base) I.ok.mod.kin T.kC hall (thn (hkw.run pos pins s σ H _ I h) fun ws s1 ⟨zs, H1, I1, rz, q1⟩ => ⟨I1.kIn, ?_⟩) hpl
  rw [hks]
  show wpAny _ _ (call (.ref C) [] (ks.zip ws)) _ _ _
  obtain ⟨nm, N, qn, bs, bm, hd, sn, sb, ab, col, dd, k0, k1, k2, k3, k5, hC, hT⟩ := PySem.W.excInit_of I1.kIn T.ini
  obtain ⟨hp, gg, dr, t, os⟩ := s1
  have fr : H1 (hp.objs.size + 1) = none := I1.hok.fresh (Nat.le_succ _)
  have J : Inv X pins σ (upd H1 (hp.objs.size + 1) (exo (hp.objs.size + 1) C none)) ⟨(hp.push (PySem.W.kdv_tup [])).push (PySem.HandSPX.excO C hp.objs.size), gg, dr, t, os⟩ :=
    I1.laid (t' := t) (fun b o q => Heap.get?_push_of_some _ (Heap.get?_push_of_some _ q)) (Nat.le_succ _) (exo_ok (by heap_get))
  have q2 := q1 _ fr
  have rv : Vals (gV [V.ref (hp.objs.size + 1)] zs) (g [Value.ref (hp.objs.size + 1)] ws) := hb.rel (.cons rfl .nil) rz
  have ln : (g [Value.ref (hp.objs.size + 1)] ws).length = ps.length := by
    rw [← rv.length]
    exact F1.len _ _ _ _ q2
  have bi := hb.to ⟨(hp.push (PySem.W.kdv_tup [])).push (PySem.HandSPX.excO C hp.objs.size), gg, dr, t, os⟩ [Value.ref (hp.objs.size + 1)] ws J.kIn ln
  refine wpAny_call (kw_call FB hT hC (PySem.W.looks_findIn I1.kIn iC) (fun me => PySem.W.bind_fn I1.kIn me tI) (codeAny_mono (F1.run _ X.stack _ _ ⟨[Value.ref (hp.objs.size + 1)], ks.zip ws⟩ _ _ _ E0 (hr.make C [] (ks.zip ws)) (J.env0.make C [] (ks.zip ws)) bi rv q2) fun r s' z => ?_))
  cases r with
  | error er => exact z.elim
  | ok fl =>
    cases fl with
    | ret u =>
      obtain ⟨v, H2, I2, r2, ev, q3⟩ := J.after z
      subst ev
      exact ⟨r2, .ref (hp.objs.size + 1), H2, I2, rfl, q3⟩
    | next => exact z.elim
    | brk => exact z.elim
    | cont => exact z.elim
theorem pe_new0 {x : Str} (FB : ExcBaseFacts B nw ini bmB) (q : PySem.W.excIn X.K C bmB nw = true) (hm : X.mg x = some (.ref C)) (kC : PySem.W.keepIn X.K (.ref C) = true) (hg : Gl X x := by rfl) (hdb : (x == ("__debug__" : Str)) = false := by decide) :
    PE X (.Call (.Name x p) [] [] pos) (fun _ H Q => ∀ a, H a = none → Q (.ref a) (upd H a (exo a C none))) := by
  refine ⟨fun pins s σ H Q I h => wpAny_Call_Name_kw (ld_glob I hg hm ?_ hdb)⟩
  refine PySem.W.callWith_KW0 (h₀ := X.base) (kws := []) I.ok.mod.kin kC rfl ?_ rfl
  show wpAny _ _ (evalAll []) _ _ _
  refine wpAny_pure ⟨I.kIn, ?_⟩
  show wpAny _ _ (call (.ref C) []) _ _ _
  obtain ⟨bm, N, nm, qn, bs, hd, sn, sb, ab, col, dd, k0, k1, k2, k3, k5, mN, hC, hN, hni, T⟩ := exc_obj I.kIn q
  refine wpAny_call_exc_subT FB T hC hN hni (fun h' a hm2 => ?_) (Nat.zero_le _)
  have fr : H a = none := I.hok.gone hm2.new
  obtain ⟨t, ht, _, _⟩ := hm2.there
  exact ⟨.ref a, _, I.laidN (o := exo a C none) hm2.keeps hm2.new fr (exo_ok ht), rfl, h a fr⟩
end
end L3

/-! raise C(..), C an own class over any built-in class of errors, its __init__ a def -/
namespace L3
open PySem L2
/-- what is flying: an exception of C with the fields fs -/
def tMkX (C : Addr) (sp : Sp) (ta : TA) : L2.St → Hp → XK → Prop := fun σ H Q => ta σ H fun vs H1 => vs.length ≤ 1000 ∧ ∀ a, H1 a = none →
  sp (.ref a :: vs) (upd H1 a (exo a C none)) (fun v H2 => v = .non ∧ ∃ (d : Addr) (fs : List (Str × V)), H2 a = some (exo a C (some d)) ∧ H2 d = some (exd d fs) ∧ H1 d = none ∧ Q (.ref C) (some d) (upd (del H2 a) d (.xd fs))) E0
section
variable {X : Cx} {e : Expr} {es : List Expr} {ta : TA} {p pos : Pos} {bmB : List Value} {B nw ini : String} {C : Addr}
theorem pmk_newX {x : Str} {k : Nat} {ps : List Str} {sp : Sp} (FB : ExcBaseFacts B nw ini bmB) (T : Xc X.K C bmB nw) (sb : PySem.W.subIn X.K (.ref C) (.type "BaseException") = some true) (ty : PySem.W.typeIn X.K (.ref C) = some (.type "type")) (D : Xi X.prog X.w X.K X.mg X.base k C ps sp) (hr : Room (k + 1) X.A) (hm : X.mg x = some (.ref C)) (ha : PA X (e :: es) ta) (hg : Gl X x := by rfl)
    (hdb : (x == ("__debug__" : Str)) = false := by decide) (he : starEach (e :: es) X.env = (false, eval e X.env) :: starEach es X.env := by rfl) (hpl : (backTo pos (starEach es X.env)).any (·.1) = false := by rfl) :
    PMk X (.Call (.Name x p) (e :: es) [] pos) (tMkX C sp ta) := by
  obtain ⟨fI, fd, F1, iC, tI, hb⟩ := D.ex
  intro pins s σ H Q I h
  refine wpAny_Call_Name_kw (ld_glob I hg hm ?_ hdb)
  refine PySem.W.callWith_K (h₀ := X.base) I.ok.mod.kin T.kC (thn (ha.run pos pins s σ H _ I h) fun us s1 ⟨vs, H1, I1, r1, hz, q1⟩ => ⟨I1.kIn, ?_⟩) he hpl
  show wpAny _ _ (call (.ref C) us) _ _ _
  obtain ⟨nm, N, qn, bs, bm, hd, sn, sbb, ab, col, dd, k0, k1, k2, k3, k5, hC, hT⟩ := PySem.W.excInit_of I1.kIn T.ini
  obtain ⟨hp, g, dr, tk, os⟩ := s1
  have lz : us.length ≤ sizeLine := by rw [← r1.length, sizeLine_eq]; omega
  have hsz : hp.objs.size ≤ hp.objs.size + 1 := Nat.le_succ _
  have fr : H1 (hp.objs.size + 1) = none := I1.hok.fresh hsz
  have kk : ∀ b o, hp.get? b = some o → ((hp.push (PySem.W.kdv_tup us)).push (PySem.HandSPX.excO C hp.objs.size)).get? b = some o := fun b o q => Heap.get?_push_of_some _ (Heap.get?_push_of_some _ q)
  have J : Inv X pins σ (upd H1 (hp.objs.size + 1) (exo (hp.objs.size + 1) C none)) ⟨(hp.push (PySem.W.kdv_tup us)).push (PySem.HandSPX.excO C hp.objs.size), g, dr, tk, os⟩ :=
    I1.laid (t' := tk) kk hsz (exo_ok (by heap_get))
  have q2 := q1 _ fr
  have rv : Vals (V.ref (hp.objs.size + 1) :: vs) (Value.ref (hp.objs.size + 1) :: us) := .cons rfl r1
  have ln : (Value.ref (hp.objs.size + 1) :: us ++ []).length = ps.length := by
    rw [List.append_nil, ← rv.length]
    exact F1.len _ _ _ _ q2
  have bi := hb ⟨(hp.push (PySem.W.kdv_tup us)).push (PySem.HandSPX.excO C hp.objs.size), g, dr, tk, os⟩ _ J.kIn ln
  rw [List.append_nil] at bi
  refine wpAny_call (PySem.HandSPX.call_own FB hT hC (PySem.W.looks_findIn I1.kIn iC) (fun self => PySem.W.bind_fn I1.kIn self tI) lz (codeAny_mono (F1.run _ X.stack _ _ ⟨Value.ref (hp.objs.size + 1) :: us, []⟩ (Value.ref (hp.objs.size + 1) :: us) _ _ E0 (hr.make C us []) (J.env0.make C us []) bi rv q2) fun r s' z => ?_))
  cases r with
  | error er => exact z.elim
  | ok fl =>
    cases fl with
    | ret u =>
      obtain ⟨v, H2, os2, bare2, un2, hok2, rvv, ⟨ev, d, fs, ea, ed, hd1, q3⟩⟩ := z
      subst ev
      obtain ⟨h2, g2, d2, t2, os'⟩ := s'
      exact ⟨rvv, mk_end (raises_own sb ty) I1 hsz kk un2 hok2 os2 bare2 ea ed hd1 q3⟩
    | next => exact z.elim
    | brk => exact z.elim
    | cont => exact z.elim
end
end L3

namespace L3
open PySem L2
def inS (s : Stmt) (j : Nat) : Stmt := match s with
  | .ClassDef _ _ _ body _ _ _ _ _ _ _ => body.getD j (.Pass ⟨0, 0, 0, 0⟩)
  | s => s
/-! the error classes -/
abbrev mroV : List Value := [.type "ValueError", .type "Exception", .type "BaseException", .type "object"]
abbrev mroL : List Value := [.type "LookupError", .type "Exception", .type "BaseException", .type "object"]
abbrev mroR : List Value := [.type "RuntimeError", .type "Exception", .type "BaseException", .type "object"]
def spI1 (K : PySem.W.Frag) (bm : List Value) (nw : String) (f : Str) : Sp := fun vs H Q _ => ∃ (a C : Addr) (v : V), vs = [.ref a, v] ∧ Xc K C bm nw ∧ PySem.W.takerIn K C f = some none ∧ H a = some (exo a C none) ∧ ∀ d, H d = none → d ≠ a → Q .non (upd (upd H d (exd d [(f, v)])) a (exo a C (some d)))
def spI2 (K : PySem.W.Frag) (bm : List Value) (nw : String) (f g : Str) : Sp := fun vs H Q _ => ∃ (a C : Addr) (v u : V), vs = [.ref a, v, u] ∧ Xc K C bm nw ∧ PySem.W.takerIn K C f = some none ∧ PySem.W.takerIn K C g = some none ∧ H a = some (exo a C none) ∧
  ∀ d, H d = none → d ≠ a → Q .non (upd (upd (upd H d (exd d [(f, v)])) a (exo a C (some d))) d (exd d [(g, u), (f, v)]))
/-! how their arguments stand when they are given by keywords -/
def g1 : List Value → List Value → List Value
  | [s], [x] => [s, x]
  | _, _ => []
def gV1 : List V → List V → List V
  | [s], [x] => [s, x]
  | _, _ => []
def g2 : List Value → List Value → List Value
  | [s], [x, y] => [s, y, x]
  | _, _ => []
def gV2 : List V → List V → List V
  | [s], [x, y] => [s, y, x]
  | _, _ => []
theorem kb1 {K : PySem.W.Frag} {fd : FuncData} {f : Str} (h : ∀ (s : Shared) (a b : Value), BindsTo s fd ⟨[a], [(f, b)]⟩ [("self", a), (f, b)]) : KBinds K fd ["self", f] [f] g1 gV1 where
  to := fun s us ws _ hl => by
    match us, ws, hl with
    | [a], [b], _ => exact h s a b
    | [], _, hl => cases hl
    | [_], [], hl => cases hl
    | [_], _ :: _ :: _, hl => cases hl
    | _ :: _ :: _, _, hl => cases hl
  rel := fun r rz => by
    cases r with
    | nil => exact .nil
    | cons a r =>
      cases r with
      | nil =>
        cases rz with
        | nil => exact .nil
        | cons b rz =>
          cases rz with
          | nil => exact .cons a (.cons b .nil)
          | cons => exact .nil
      | cons => exact .nil
theorem kb2 {K : PySem.W.Frag} {fd : FuncData} {f g : Str} (h : ∀ (s : Shared) (a b d : Value), BindsTo s fd ⟨[a], [(g, b), (f, d)]⟩ [("self", a), (f, d), (g, b)]) : KBinds K fd ["self", f, g] [g, f] g2 gV2 where
  to := fun s us ws _ hl => by
    match us, ws, hl with
    | [a], [b, d], _ => exact h s a b d
    | [], _, hl => cases hl
    | [_], [], hl => cases hl
    | [_], [_], hl => cases hl
    | [_], _ :: _ :: _ :: _, hl => cases hl
    | _ :: _ :: _, _, hl => cases hl
  rel := fun r rz => by
    cases r with
    | nil => exact .nil
    | cons a r =>
      cases r with
      | nil =>
        cases rz with
        | nil => exact .nil
        | cons b rz =>
          cases rz with
          | nil => exact .nil
          | cons d rz =>
            cases rz with
            | nil => exact .cons a (.cons d (.cons b .nil))
            | cons => exact .nil
      | cons => exact .nil
/-- a class of one field -/
structure E1 (P : Program) (w : World) (K : PySem.W.Frag) (mg : Str → Option Value) (base : Heap) (x f : Str) (bm : List Value) (nw : String) (C : Addr) : Prop where
  hm : mg x = some (.ref C)
  T : Xc K C bm nw
  R : Xr K C
  tk : PySem.W.takerIn K C f = some none
  no : PySem.W.findIn K (.ref C) f = some none
  I : Xi P w K mg base 1 C ["self", f] (spI1 K bm nw f)
  J : Xk P w K mg base 1 C ["self", f] [f] (spI1 K bm nw f) g1 gV1
  cd : ∃ cd, PySem.W.clsIn K C = some cd ∧ cd.mro = .ref C :: bm
  ty : PySem.W.typeIn K (.ref C) = some (.type "type")
/-- a class of two fields -/
structure E2 (P : Program) (w : World) (K : PySem.W.Frag) (mg : Str → Option Value) (base : Heap) (x f g : Str) (bm : List Value) (nw : String) (C : Addr) : Prop where
  hm : mg x = some (.ref C)
  T : Xc K C bm nw
  R : Xr K C
  tk : PySem.W.takerIn K C f = some none
  tk2 : PySem.W.takerIn K C g = some none
  no : PySem.W.findIn K (.ref C) f = some none
  no2 : PySem.W.findIn K (.ref C) g = some none
  I : Xi P w K mg base 1 C ["self", f, g] (spI2 K bm nw f g)
  J : Xk P w K mg base 1 C ["self", f, g] [g, f] (spI2 K bm nw f g) g2 gV2
  cd : ∃ cd, PySem.W.clsIn K C = some cd ∧ cd.mro = .ref C :: bm
  ty : PySem.W.typeIn K (.ref C) = some (.type "type")
/-- the class without fields -/
structure E0c (K : PySem.W.Frag) (mg : Str → Option Value) (x : Str) (bm : List Value) (nw : String) (C : Addr) : Prop where
  hm : mg x = some (.ref C)
  q : PySem.W.excIn K C bm nw = true
  kC : PySem.W.keepIn K (.ref C) = true
  R : Xr K C
  cd : ∃ cd, PySem.W.clsIn K C = some cd ∧ cd.mro = .ref C :: bm
  ty : PySem.W.typeIn K (.ref C) = some (.type "type")
end L3

namespace L3
open PySem L2
section
variable {P : Program} {w : World} {K : PySem.W.Frag} {mg : Str → Option Value} {base : Heap}
abbrev s_OutOfTerm___init__ : Stmt := inS (topS 1) 0
abbrev N_OutOfTerm___init__ : List Str := ["self", "place"]
theorem sc_OutOfTerm___init__ : FnScope N_OutOfTerm___init__ ["self", "place"] (defScope s_OutOfTerm___init__) := ⟨rfl, rfl, rfl, by decide +kernel, rfl, by decide +kernel, by decide +kernel⟩
theorem i_OutOfTerm {f : Addr} {fd : FuncData} (F : Fun K "__init__" "OutOfTerm.__init__" s_OutOfTerm___init__ f fd) : FnOk P w K mg base CX0 1 f fd ["self", "place"] (spI1 K mroL "LookupError.__new__" "place") := by
  refine F.ok sc_OutOfTerm___init__ (fun vs H Q E h => ?_) (fun cdv A outer s H vs Q E hr h => ?_)
  · obtain ⟨a, C, v, rfl, _⟩ := h
    rfl
  · obtain ⟨a, C, v, rfl, T, ht, ha, k⟩ := h
    exact ⟨_, (pss_one (ps_setX (nw := "LookupError.__new__") PySem.F.store_LookupError (pv 0) (pv 1))), _, rfl, _, rfl, a, C, rfl, T, ht, .inl ⟨ha, k⟩⟩
/-- the part at a place, if it is one -/
def stepT (m : Tm) : PyData → Option Tm
  | .int i => if 0 ≤ i ∧ i < m.parts.length then m.parts[i.toNat]? else none
  | _ => none
def walkT (m : Tm) : List PyData → Option Tm
  | [] => some m
  | d :: ds => (stepT m d).bind fun m' => walkT m' ds
def atT (m : Tm) : PyData → Option Tm
  | .tuple ds => walkT m ds
  | _ => none
theorem walkT_take {m : Tm} : ∀ {ds : List PyData} {i : Nat} {d : PyData}, ds[i]? = some d → walkT m (ds.take (i + 1)) = (walkT m (ds.take i)).bind fun m' => stepT m' d := by
  intro ds
  induction ds generalizing m with
  | nil => intro i d h; cases h
  | cons e ds ih =>
    intro i d h
    cases i with
    | zero =>
      cases h
      show (stepT m e).bind (fun m' => some m') = some m >>= fun m' => stepT m' e
      show (stepT m e).bind (fun m' => some m') = stepT m e
      cases stepT m e <;> rfl
    | succ i =>
      have h' : ds[i]? = some d := h
      show (stepT m e).bind (fun m' => walkT m' (ds.take (i + 1))) = ((stepT m e).bind fun m' => walkT m' (ds.take i)).bind fun m' => stepT m' d
      cases q : stepT m e with
      | none => rfl
      | some m1 => exact ih h'
theorem walkT_none {m : Tm} : ∀ {ds : List PyData} {i : Nat}, walkT m (ds.take i) = none → walkT m ds = none := by
  intro ds
  induction ds generalizing m with
  | nil => intro i h; simpa using h
  | cons e ds ih =>
    intro i h
    cases i with
    | zero => cases h
    | succ i =>
      have h' : (stepT m e).bind (fun m' => walkT m' (ds.take i)) = none := h
      show (stepT m e).bind (fun m' => walkT m' ds) = none
      cases q : stepT m e with
      | none => rfl
      | some m1 =>
        rw [q] at h'
        exact ih h'
theorem parts_ok {m m' : Tm} (h : m.ok = true) (h' : m' ∈ m.parts) : m'.ok = true := by
  cases m <;> simp only [Tm.parts, List.mem_cons, List.not_mem_nil, or_false] at h' <;> simp only [Tm.ok, Bool.and_eq_true] at h
  · rcases h' with rfl | rfl
    · exact h.1
    · exact h.2
  · subst h'
    exact h.2
  · rcases h' with rfl | rfl
    · exact h.1.2
    · exact h.2
  · rcases h' with rfl | rfl | rfl
    · exact h.1.1
    · exact h.1.2
    · exact h.2
abbrev s_part_at : Stmt := topS 25
abbrev N_part_at : List Str := ["term", "place", "part", "k", "parts"]
theorem sc_part_at : FnScope N_part_at ["term", "place"] (defScope s_part_at) := ⟨rfl, rfl, rfl, by decide +kernel, rfl, by decide +kernel, by decide +kernel⟩
/-- C is OutOfTerm's class -/
def spAt (C : Addr) : Sp := fun vs H Q E => ∃ (t : Addr) (v u : V) (m : Tm) (d : PyData), vs = [v, u] ∧ Da t H v m.d ∧ m.ok = true ∧ Da t H u d ∧ (∀ H' r m', Same H H' → atT m d = some m' → Da t H' r m'.d → Q r H') ∧
  (atT m d = none → ∀ H' dx, Same H H' → H' dx = some (.xd [("place", u)]) → E (.ref C) (some dx) H')
theorem ok_at {C : Addr} {f : Addr} {fd : FuncData} (F : Fun K "part_at" "part_at" s_part_at f fd) (B : Bl mg) (B9 : Bl9 mg) (X_OutOfTerm : E1 P w K mg base "OutOfTerm" "place" mroL "LookupError.__new__" C) (D_parts_in : Kn P w K mg base 5 "parts_in" ["value"] spParts) (D_is_integer : Kn P w K mg base 1 "is_integer" ["value"] spInt) : FnOk P w K mg base (L2.CX P w) 6 f fd ["term", "place"] (spAt C) := by
  refine F.okX sc_part_at (fun vs H Q E h => ?_) (fun cdv A outer s H vs Q E hr h => ?_)
  · obtain ⟨t, v, u, m, d, rfl, _⟩ := h
    rfl
  · obtain ⟨t, v, u, m, d, rfl, hd, ho, hu, k, kE⟩ := h
    have hu64 := hr.units
    have hr_parts_in : Room 5 _ := hr
    have hr_is_integer : Room 1 _ := hr.mono (by decide)
    have hr2 : Room 2 _ := hr.mono (by decide)
    refine ⟨_, (pss_cons (ps_if (pt_not (pt_val (pe_callB call_isi (by rfl) B9.isinstance PyProof.Rows.boot_isinstance (pa_cons (pv 1) (pa_cons (pe_bltn (v := .ty "tuple") (by rfl) B9.tuple (by decide +kernel) rfl) pa_nil)))))
  (pss_one (ps_raise rfl (takes_of rfl rfl rfl rfl) (pmk_newX PySem.F.excBase_LookupError X_OutOfTerm.T X_OutOfTerm.R.sb X_OutOfTerm.ty X_OutOfTerm.I hr2 X_OutOfTerm.hm (pa_cons (pv 1) pa_nil))))
  pss_nil)
  (pss_cons (ps_set (i := 2) sc_part_at.nd rfl (Or.inl rfl) (pv 0))
  (pss_cons (ps_for (passes_of rfl) rfl (pi_tup (pv 1)) (pg_name (i := 3) sc_part_at.nd rfl (Or.inl rfl))
  (pss_cons (ps_set (i := 4) sc_part_at.nd rfl (Or.inl rfl) (pe_kn D_parts_in hr_parts_in (pa_cons (pv 2) pa_nil)))
  (pss_cons (ps_if (PW.pt (pw_or (pt_not (pt_val (pe_kn D_is_integer hr_is_integer (pa_cons (pv 3) pa_nil)))) (pw_or1 (pt_not (pt_chain op_le op_lt pe_int (pv 3) (pe_callB call_len (by rfl) B.len PySem.boot_len (pa_cons (pv 4) pa_nil)))))))
  (pss_one (ps_raise rfl (takes_of rfl rfl rfl rfl) (pmk_newX PySem.F.excBase_LookupError X_OutOfTerm.T X_OutOfTerm.R.sb X_OutOfTerm.ty X_OutOfTerm.I hr2 X_OutOfTerm.hm (pa_cons (pv 1) pa_nil))))
  pss_nil)
  (pss_one (ps_set (i := 2) sc_part_at.nd rfl (Or.inl rfl) (pe_ix ix_list (pv 4) (pv 3) (fun _ _ => rfl)))))))
  (pss_one (ps_ret (pv 2)))))), ?_⟩
    have raise : ∀ (σ : L2.St) (H1 : Hp), Same H H1 → σ[1]? = some (some u) → atT m d = none → tMkX C (spI1 K mroL "LookupError.__new__" "place") (tCons (tVar 1) tNil) σ H1 (fun cls d H' => E cls d H') := fun σ H1 s1 hσ hn => by
      refine ⟨u, hσ, by simp, fun a ha => ⟨a, C, u, rfl, X_OutOfTerm.T, X_OutOfTerm.tk, upd_same, fun dx hdx nd => ⟨rfl, dx, [("place", u)], upd_same, by rw [upd_ne nd, upd_same], by rw [upd_ne nd] at hdx; exact hdx, kE hn _ dx (s1.trans fun b o q => ?_) upd_same⟩⟩⟩
      rw [upd_ne nd] at hdx
      have nb : b ≠ dx := fun z => by rw [z, hdx] at q; cases q
      have na : b ≠ a := fun z => by rw [z, ha] at q; cases q
      rw [upd_ne nb, del_ne na, upd_ne na, upd_ne nb, upd_ne na]
      exact q
    refine ⟨_, rfl, u, .ty "tuple", .type (tyName d), .type "tuple", isTup d, rfl, .ty "tuple", hu.ty, kit_tup d, _, rfl, ?_⟩
    cases ht : isTup d with
    | false =>
      refine iT rfl ?_
      exact raise _ H (Same.refl H) rfl (by cases d <;> first | rfl | cases ht)
    | true =>
      obtain ⟨ds, rfl⟩ : ∃ ds, d = .tuple ds := by
        cases d with
        | tuple ds => exact ⟨ds, rfl⟩
        | _ => cases ht
      refine iF rfl ?_
      cases id hu with
      | @tup au us _ gu du =>
        have lu := du.len
        refine ⟨_, rfl, ?_⟩
        refine ⟨_, rfl, au, rfl, ⟨_, SqT.of gu⟩, for_it walk_tup (fun i σ H' => Same H H' ∧ ∃ (p : V) (m' : Tm) (v3 v4 : Option V), σ = [some v, some (.ref au), some p, v3, v4] ∧ walkT m (ds.take i) = some m' ∧ m'.ok = true ∧ Da t H' p m'.d) ⟨Same.refl _, v, m, none, none, rfl, rfl, ho, hd⟩ (fun i σ H' _ h => SqT.of (h.1 _ _ gu)) ?_ ?_⟩
        · rintro i y σ H1 H2 hi ⟨s1, p, m', v3, v4, rfl, hw, hok, hp⟩ ⟨rfl, ey⟩
          obtain ⟨e, ee, de⟩ := da_at du ey
          have wt := walkT_take (m := m) ee
          rw [hw] at wt
          have wt : walkT m (ds.take (i + 1)) = stepT m' e := wt
          refine ⟨_, rfl, t, p, m', rfl, hp, hok, fun H3 l ws s3 gl _ dl => ?_⟩
          have S3 := s1.trans s3
          unfold gName
          dsimp only
          have bad : stepT m' e = none → atT m (.tuple ds) = none := fun z => walkT_none (by rw [wt, z])
          refine ⟨_, rfl, t, y, e, rfl, de.kp (kp_same S3), ?_⟩
          refine ⟨_, rfl, ?_⟩
          cases hi2 : isIntD e with
          | false =>
            refine iT rfl ?_
            exact raise _ H3 S3 rfl (bad (by cases e <;> first | rfl | cases hi2))
          | true =>
            obtain ⟨n, rfl⟩ : ∃ n, e = .int n := by
              cases e with
              | int n => exact ⟨n, rfl⟩
              | _ => cases hi2
            cases de
            refine iF rfl ?_
            have ln : ws.length = m'.parts.length := by
              have := dl.len
              unfold dsP at this
              rw [List.length_map] at this
              omega
            refine ⟨_, rfl, _, _, rfl, rfl, _, rfl, ?_⟩
            by_cases h1 : (0 : Int) ≤ n
            · refine iT (decide_eq_true h1) ?_
              refine ⟨_, rfl, .ref l, ws.length, rfl, .inl ⟨_, SqL.of gl, rfl⟩, _, _, rfl, rfl, _, rfl, ?_⟩
              by_cases h2 : n < (ws.length : Int)
              · refine iF (by rw [decide_eq_true h2]; rfl) ?_
                have hn : n.toNat < m'.parts.length := by omega
                have es : stepT m' (.int n) = some m'.parts[n.toNat] := by
                  show (if 0 ≤ n ∧ n < (m'.parts.length : Int) then m'.parts[n.toNat]? else none) = _
                  rw [if_pos ⟨h1, by omega⟩, List.getElem?_eq_getElem hn]
                obtain ⟨dd, ed, dw⟩ := da_at dl (List.getElem?_eq_getElem (show n.toNat < ws.length by omega))
                have edd : dd = m'.parts[n.toNat].d := by
                  unfold dsP at ed
                  rw [List.getElem?_map, List.getElem?_eq_getElem hn] at ed
                  exact (Option.some.inj ed).symm
                rw [edd] at dw
                have dw := dw.kp (kp_same s3)
                refine ⟨_, rfl, _, rfl, l, ws, n, _, rfl, rfl, SqL.of gl, at_of (show n = ((n.toNat : Nat) : Int) by omega) (List.getElem?_eq_getElem (show n.toNat < ws.length by omega)), ?_⟩
                exact ⟨S3, _, _, _, _, rfl, by rw [wt, es], parts_ok hok (List.getElem_mem hn), dw⟩
              · refine iT (by rw [decide_eq_false h2]; rfl) ?_
                refine raise _ H3 S3 rfl (bad ?_)
                show (if 0 ≤ n ∧ n < (m'.parts.length : Int) then m'.parts[n.toNat]? else none) = none
                rw [if_neg (by omega)]
            · refine iF (decide_eq_false h1) ?_
              refine ⟨_, rfl, iT rfl ?_⟩
              refine raise _ H3 S3 rfl (bad ?_)
              show (if 0 ≤ n ∧ n < (m'.parts.length : Int) then m'.parts[n.toNat]? else none) = none
              rw [if_neg (fun z => h1 z.1)]
        · rintro σ H1 ⟨s1, p, m', v3, v4, rfl, hw, hok, hp⟩
          rw [List.take_of_length_le (by omega)] at hw
          exact ⟨_, rfl, k _ p m' s1 hw hp⟩
end
end L3

/-! zip(t, l), t a tuple, l a list -/
namespace L3
open PySem PySem.Spec PyProof.Rows L2
/-- the pairs (t[i], l[i]), each new -/
def Izm (K : PySem.W.Frag) (a b : Addr) : It :=
  ⟨fun i H => ∃ (xs ys : List V) (x y : V), SqT K H a xs ∧ SqL K H b ys ∧ xs[i]? = some x ∧ ys[i]? = some y,
   fun i H v H' => ∃ T x y, v = .ref T ∧ H T = none ∧ H' = upd H T (.tup [x, y]) ∧ (∀ xs, SqT K H a xs → xs[i]? = some x) ∧ (∀ ys, SqL K H b ys → ys[i]? = some y),
   fun i H => ∃ xs ys : List V, SqT K H a xs ∧ SqL K H b ys ∧ i ≤ xs.length ∧ i ≤ ys.length ∧ (i = xs.length ∨ i = ys.length)⟩
theorem turn_zipM {P : Program} {w : World} {K : PySem.W.Frag} {elts : List Expr} {kk : Nat} {tpos : Pos} {a b z TI TO i1 i2 : Addr} (S : ZipSep2 z TI TO i1 i2 [i1, a] [i2, b]) (na : a ≠ i1) (nb : b ≠ i2) :
    Turn P w K (.Tuple elts kk tpos) (Izm K a b) [z, TI, TO, i1, i2] z (fun i h => IsZip h z TI TO .none ∧ IsTupOf2 h TI (.ref i1) (.ref i2) ∧ (∃ p q, IsTupOf2 h TO p q) ∧ h.IsTupleIter i1 a i ∧ h.IsListIter i2 b i) where
  mem := List.mem_cons_self ..
  obj := by
    rintro i h ⟨hz, hTI, ⟨p, q, hTO⟩, ⟨o1, e1, _, d1⟩, ⟨o2, e2, _, d2⟩⟩ c hc
    have hc : c = z ∨ c = TI ∨ c = TO ∨ c = i1 ∨ c = i2 := by simpa using hc
    rcases hc with rfl | rfl | rfl | rfl | rfl
    · exact ⟨_, hz, fun v r => nomatch r⟩
    · exact ⟨_, hTI, fun v r => nomatch r⟩
    · exact ⟨_, hTO, fun v r => nomatch r⟩
    · exact ⟨o1, e1, fun v r => by rw [d1] at r; cases r⟩
    · exact ⟨o2, e2, fun v r => by rw [d2] at r; cases r⟩
  keep := by
    rintro i h h' ⟨hz, hTI, ⟨p, q, hTO⟩, h1, h2⟩ k
    exact ⟨k z (by simp) _ hz, k TI (by simp) _ hTI, ⟨p, q, k TO (by simp) _ hTO⟩, h1.at fun o r => k i1 (by simp) o r, h2.at fun o r => k i2 (by simp) o r⟩
  item := by
    intro X hP hw hK hc i pins s σ H E I hf st hg
    subst hP hw hK
    obtain ⟨hz, hTI, ⟨p0, q0, hTO⟩, h1, h2⟩ := st
    obtain ⟨xs, ys, x, y, hqx, hqy, hx, hy⟩ := hg
    obtain ⟨it1, rv1, pl1, _⟩ := I.tuple hqx
    obtain ⟨it2, rv2, pl2, _⟩ := I.list hqy
    obtain ⟨u, hu, ru⟩ := rv1.get hx
    obtain ⟨u2, hu2, ru2⟩ := rv2.get hy
    have lt1 : i < it1.toArray.size := by
      obtain ⟨r, _⟩ := List.getElem?_eq_some_iff.mp hu
      simpa using r
    have lt2 : i < it2.toArray.size := by
      obtain ⟨r, _⟩ := List.getElem?_eq_some_iff.mp hu2
      simpa using r
    have hh : X.A.in1.handled = none := I.ok.hd hc
    have lz : z < s.heap.objs.size := Heap.lt_size hz
    have lI : TI < s.heap.objs.size := Heap.lt_size hTI
    have lO : TO < s.heap.objs.size := Heap.lt_size hTO
    have l1 : i1 < s.heap.objs.size := by obtain ⟨_, r, _⟩ := h1; exact Heap.lt_size r
    have l2 : i2 < s.heap.objs.size := by obtain ⟨_, r, _⟩ := h2; exact Heap.lt_size r
    refine wpAny_pyNext_zipD2_item S (Draws.tuple hh i1 a na it1.toArray) (Draws.list hh i2 b nb it2.toArray) hz hTI hTO ⟨h1, pl1⟩ ⟨h2, pl2.isList⟩ lt1 lt2 fun y1 y2 h' tk hy1 hy2 hz' hTO' st1' st2' hT hsz hk => ?_
    have e1 : y1 = u := by
      have r : it1[i]? = some y1 := by simpa using hy1
      rw [hu] at r
      exact (Option.some.inj r).symm
    have e2 : y2 = u2 := by
      have r : it2[i]? = some y2 := by simpa using hy2
      rw [hu2] at r
      exact (Option.some.inj r).symm
    subst e1 e2
    refine ⟨_, rfl, wpAny_letOwnedTupleGo_zip (s := { s with heap := h', toks := tk }) hz' fun h'' hz2 sb => ?_⟩
    have at2 : h''.get? s.heap.objs.size = some { cls := .type "tuple", data := .seq #[y1, y2] } := (sb.2 _ (Nat.ne_of_gt lz)).trans hT
    have new : ObjOk X.prog X.w (upd H s.heap.objs.size (.tup [x, y])) h'' s.heap.objs.size (.tup [x, y]) :=
      ⟨by show 2 ≤ sizeLine; decide, [y1, y2], .cons ru (.cons ru2 .nil), ⟨_, at2, rfl, _, rfl⟩⟩
    have J : Inv X pins σ (upd H s.heap.objs.size (.tup [x, y])) { s with heap := h'', toks := tk } :=
      I.turnedNew (t' := tk) (ch := [z, TI, TO, i1, i2]) (fun c o hb r => (sb.2 c (fun e => hb (by simp [e]))).trans (hk c o (fun e => hb (by simp [e])) (fun e => hb (by simp [e])) (fun e => hb (by simp [e])) (fun e => hb (by simp [e])) r)) hf (Nat.le_refl _) new
    refine ⟨.ref s.heap.objs.size, _, J, rfl, ⟨_, x, y, rfl, I.hok.fresh (Nat.le_refl _), rfl, fun l hl => by rw [I.tuple_inj hl hqx]; exact hx, fun l hl => by rw [I.list_inj hl hqy]; exact hy⟩, ⟨hz2, ?_, ⟨y1, y2, ?_⟩, st1'.1.at fun o r => (sb.2 _ (Ne.symm S.zi1)).trans r, st2'.1.at fun o r => (sb.2 _ (Ne.symm S.zi2)).trans r⟩, fun c hcm => ?_⟩
    · exact (sb.2 _ S.TIz).trans (hk _ _ S.TIz S.TITO S.TIi1 S.TIi2 hTI)
    · exact (sb.2 _ S.TOz).trans hTO'
    · have lc : c < s.heap.objs.size := by
        have hcm : c = z ∨ c = TI ∨ c = TO ∨ c = i1 ∨ c = i2 := by simpa using hcm
        rcases hcm with rfl | rfl | rfl | rfl | rfl <;> assumption
      rw [upd_ne (Nat.ne_of_lt lc)]
      exact (hf c hcm).1
  done := by
    intro X hP hw hK hc i pins s σ H E I hf st hg
    subst hP hw hK
    obtain ⟨hz, hTI, ⟨p0, q0, hTO⟩, h1, h2⟩ := st
    obtain ⟨xs, ys, hqx, hqy, le1, le2, he⟩ := hg
    obtain ⟨it1, rv1, pl1, _⟩ := I.tuple hqx
    obtain ⟨it2, rv2, pl2, _⟩ := I.list hqy
    have n1 : it1.toArray.size = xs.length := by rw [List.size_toArray, ← rv1.length]
    have n2 : it2.toArray.size = ys.length := by rw [List.size_toArray, ← rv2.length]
    have hh : X.A.in1.handled = none := I.ok.hd hc
    refine wpAny_pyNext_zipD2_end S (Draws.tuple hh i1 a na it1.toArray) (Draws.list hh i2 b nb it2.toArray) hz hTI hTO ⟨h1, pl1⟩ ⟨h2, pl2.isList⟩ (by omega) (by omega) (by omega) fun h' tk hk => ?_
    exact ⟨rfl, I.turnedL (t' := tk) (ch := [z, TI, TO, i1, i2]) (fun c o hb r => hk c o (fun e => hb (by simp [e])) (fun e => hb (by simp [e])) (fun e => hb (by simp [e])) (fun e => hb (by simp [e])) r) hf⟩
  self := fun A i s Q E st h => wpAny_pyIter_zip st.1 h
def iZipM (K : PySem.W.Frag) (ta : TA) : TI := fun σ H R => ta σ H fun vs H1 => ∃ a b xs ys, vs = [.ref a, .ref b] ∧ SqT K H1 a xs ∧ SqL K H1 b ys ∧ R (Izm K a b) H1
theorem pi_zipM {X : Cx} {e e2 : Expr} {ta : TA} {p pos tpos : Pos} {elts : List Expr} {kk : Nat} (hg : Gl X "zip") (hm : X.mg "zip" = none) (ha : PA X [e, e2] ta)
    (hs : starEach [e, e2] X.env = (false, eval e X.env) :: starEach [e2] X.env := by rfl) (hpl : (backTo pos (starEach [e2] X.env)).any (·.1) = false := by rfl) :
    PI X (.Tuple elts kk tpos) (.Call (.Name "zip" p) [e, e2] [] pos) (iZipM X.K ta) := by
  refine ⟨fun pins s σ H R I h => ?_⟩
  refine Call_ (ld_blt I hg hm PyProof.Rows.boot_zip (PyProof.Rows.callWith_type1 (thn (ha.run pos pins s σ H _ I h) fun us s1 ⟨vs, H1, I1, r1, a, b, xs, ys, ev, hqx, hqy, q⟩ => ?_) hs hpl))
  subst ev
  cases r1 with
  | cons r rr =>
    cases rr with
    | cons r2 rr =>
      cases rr
      cases r
      cases r2
      obtain ⟨it1, rv1, pl1, _⟩ := I1.tuple hqx
      obtain ⟨it2, rv2, pl2, _⟩ := I1.list hqy
      have la : a < s1.heap.objs.size := by
        obtain ⟨_, r, _⟩ := id pl1
        exact Heap.lt_size r
      have lb : b < s1.heap.objs.size := pl2.lt
      refine zip_begins2 (begins_tuple a it1.toArray) (begins_list b it2.toArray) pl1 pl2.isList fun h' hz hTI hTO g1 g2 hsz hk => wpAny_pyIter_zip hz ?_
      have J : Inv X pins σ H1 { s1 with heap := h' } := I1.kept (t' := s1.toks) hk
      have S : ZipSep2 (s1.heap.objs.size + 4) (s1.heap.objs.size + 2) (s1.heap.objs.size + 3) s1.heap.objs.size (s1.heap.objs.size + 1) [s1.heap.objs.size, a] [s1.heap.objs.size + 1, b] := by
        generalize s1.heap.objs.size = m at la lb
        have ma : ∀ k, m + k ≠ a := fun k => Nat.ne_of_gt (Nat.lt_of_lt_of_le la (Nat.le_add_right m k))
        have mb : ∀ k, m + k ≠ b := fun k => Nat.ne_of_gt (Nat.lt_of_lt_of_le lb (Nat.le_add_right m k))
        have m0 : m ≠ b := mb 0
        have mm : ∀ {k l : Nat}, k ≠ l → m + k ≠ m + l := fun h e => h (Nat.add_left_cancel e)
        have m1 : ∀ {k : Nat}, k ≠ 0 → m + k ≠ m := fun h e => h (Nat.add_left_cancel (k := 0) e)
        exact ⟨mm (by decide), mm (by decide), mm (by decide), m1 (by decide), by simp, fun h => by
            rcases List.mem_cons.mp h with h | h
            · exact m1 (by decide) h
            · exact ma 4 (List.mem_singleton.mp h), fun h => by
            rcases List.mem_cons.mp h with h | h
            · exact m1 (by decide) h
            · exact ma 3 (List.mem_singleton.mp h), mm (by decide), by simp, fun h => by
            rcases List.mem_cons.mp h with h | h
            · exact mm (by decide) h
            · exact mb 4 (List.mem_singleton.mp h), fun h => by
            rcases List.mem_cons.mp h with h | h
            · exact mm (by decide) h
            · exact mb 3 (List.mem_singleton.mp h), fun h => by
            rcases List.mem_cons.mp h with h | h
            · exact m1 (k := 1) (by decide) h.symm
            · exact m0 (List.mem_singleton.mp h), fun h => by
            rcases List.mem_cons.mp h with h | h
            · exact m1 (k := 1) (by decide) h
            · exact ma 1 (List.mem_singleton.mp h)⟩
      refine ⟨s1.heap.objs.size + 4, [s1.heap.objs.size + 4, s1.heap.objs.size + 2, s1.heap.objs.size + 3, s1.heap.objs.size, s1.heap.objs.size + 1], _, _, H1, rfl, J, turn_zipM S (Nat.ne_of_lt la) (Nat.ne_of_lt (Nat.lt_succ_of_lt lb)), ⟨hz, hTI, ⟨_, _, hTO⟩, ⟨_, g1, rfl, rfl⟩, ⟨_, g2, rfl, rfl⟩⟩, fun c hcm => ?_, q⟩
      have lc : s1.heap.objs.size ≤ c := by
        have hcm : c = s1.heap.objs.size + 4 ∨ c = s1.heap.objs.size + 2 ∨ c = s1.heap.objs.size + 3 ∨ c = s1.heap.objs.size ∨ c = s1.heap.objs.size + 1 := by simpa using hcm
        rcases hcm with rfl | rfl | rfl | rfl | rfl <;> first | exact Nat.le_refl _ | exact Nat.le_add_right _ _
      exact I1.fpOk lc (I1.hok.fresh lc)
theorem walk_zipM {K : PySem.W.Frag} {a b : Addr} {xs ys : List V} {n : Nat} (hn : n = min xs.length ys.length) : Walk (Izm K a b) n (fun H => SqT K H a xs ∧ SqL K H b ys) (YPair (fun i => xs[i]?) (fun i => ys[i]?)) := by
  subst hn
  refine ⟨fun i _ hi r => ⟨xs, ys, xs[i]'(by omega), ys[i]'(by omega), r.1, r.2, List.getElem?_eq_getElem (by omega), List.getElem?_eq_getElem (by omega)⟩, fun _ r => ⟨xs, ys, r.1, r.2, by omega, by omega, by omega⟩, fun i H v H' _ r y => ?_⟩
  obtain ⟨T, x, z, e1, e2, e3, e4, e5⟩ := y
  exact ⟨T, x, z, e1, e2, e3, e4 xs r.1, e5 ys r.2⟩
end L3

/-! places: tuples of numbers; x in l, x in t for data -/
namespace L3
open PySem L2
theorem Same.seqT {K : PySem.W.Frag} {H H' : Hp} {a : Addr} {xs : List V} (e : Same H H') (h : SqT K H a xs) : SqT K H' a xs := by
  rcases h with h | h
  · rcases h with h | ⟨o, h⟩
    · exact .inl (.inl (e _ _ h))
    · exact .inl (.inr ⟨o, e _ _ h⟩)
  · exact .inr h
mutual
theorem Dp.same {K : PySem.W.Frag} {H H' : Hp} (e : Same H H') {v : V} : ∀ {d : PyData}, Dp K H v d → Dp K H' v d
  | _, .non => .non
  | _, .bl b => .bl b
  | _, .int i => .int i
  | _, .str x => .str x
  | _, .lst h hs => .lst (e.seq h) (DpAll.same e hs)
  | _, .tup h hs => .tup (Same.seqT e h) (DpAll.same e hs)
theorem DpAll.same {K : PySem.W.Frag} {H H' : Hp} (e : Same H H') : ∀ {vs : List V} {ds : List PyData}, DpAll K H vs ds → DpAll K H' vs ds
  | _, _, .nil => .nil
  | _, _, .cons a b => .cons (Dp.same e a) (DpAll.same e b)
end
mutual
theorem Da.dp {K : PySem.W.Frag} {t : Addr} {H : Hp} {v : V} : ∀ {d : PyData}, Da t H v d → d.hasDict = false → Dp K H v d
  | _, .non, _ => .non
  | _, .bl b, _ => .bl b
  | _, .int i, _ => .int i
  | _, .str x, _ => .str x
  | _, .lst h _ hs, n => .lst (SqL.of h) (DaAll.dp hs (by simpa only [PyData.hasDict] using n))
  | _, .tup h hs, n => .tup (SqT.of h) (DaAll.dp hs (by simpa only [PyData.hasDict] using n))
  | _, .dct _ _ _, n => by simp [PyData.hasDict] at n
theorem DaAll.dp {K : PySem.W.Frag} {t : Addr} {H : Hp} : ∀ {vs : List V} {ds : List PyData}, DaAll t H vs ds → PyData.hasDictAll ds = false → DpAll K H vs ds
  | _, _, .nil, _ => .nil
  | _, _, .cons a b, n => by
    simp only [PyData.hasDictAll, Bool.or_eq_false_iff] at n
    exact .cons (Da.dp a n.1) (DaAll.dp b n.2)
end
mutual
def noList : PyData → Bool
  | .list _ => false
  | .tuple ds => noListA ds
  | _ => true
def noListA : List PyData → Bool
  | [] => true
  | d :: ds => noList d && noListA ds
end
mutual
/-- data without lists stays where the tuples stay -/
theorem Dp.tups {K : PySem.W.Frag} {H H' : Hp} (k : ∀ a xs, SqT K H a xs → SqT K H' a xs) {v : V} : ∀ {d : PyData}, Dp K H v d → noList d = true → Dp K H' v d
  | _, .non, _ => .non
  | _, .bl b, _ => .bl b
  | _, .int i, _ => .int i
  | _, .str x, _ => .str x
  | _, .lst _ _, n => by simp [noList] at n
  | _, .tup h hs, n => .tup (k _ _ h) (DpAll.tups k hs (by simpa only [noList] using n))
theorem DpAll.tups {K : PySem.W.Frag} {H H' : Hp} (k : ∀ a xs, SqT K H a xs → SqT K H' a xs) : ∀ {vs : List V} {ds : List PyData}, DpAll K H vs ds → noListA ds = true → DpAll K H' vs ds
  | _, _, .nil, _ => .nil
  | _, _, .cons a b, n => by
    simp only [noListA, Bool.and_eq_true] at n
    exact .cons (Dp.tups k a n.1) (DpAll.tups k b n.2)
end
mutual
theorem Da.tups {t : Addr} {H H' : Hp} (k : ∀ a xs, H a = some (.tup xs) → H' a = some (.tup xs)) {v : V} : ∀ {d : PyData}, Da t H v d → noList d = true → d.hasDict = false → Da t H' v d
  | _, .non, _, _ => .non
  | _, .bl b, _, _ => .bl b
  | _, .int i, _, _ => .int i
  | _, .str x, _, _ => .str x
  | _, .lst _ _ _, n, _ => by simp [noList] at n
  | _, .tup h hs, n, m => .tup (k _ _ h) (DaAll.tups k hs (by simpa only [noList] using n) (by simpa only [PyData.hasDict] using m))
  | _, .dct _ _ _, _, m => by simp [PyData.hasDict] at m
theorem DaAll.tups {t : Addr} {H H' : Hp} (k : ∀ a xs, H a = some (.tup xs) → H' a = some (.tup xs)) : ∀ {vs : List V} {ds : List PyData}, DaAll t H vs ds → noListA ds = true → PyData.hasDictAll ds = false → DaAll t H' vs ds
  | _, _, .nil, _, _ => .nil
  | _, _, .cons a b, n, m => by
    simp only [noListA, Bool.and_eq_true] at n
    simp only [PyData.hasDictAll, Bool.or_eq_false_iff] at m
    exact .cons (Da.tups k a n.1 m.1) (DaAll.tups k b n.2 m.2)
end
/-- tuples stay when a list is changed -/
theorem tups_upd {K : PySem.W.Frag} {H : Hp} {l : Addr} {xs ys : List V} (h : H l = some (.lst xs)) : ∀ a zs, SqT K H a zs → SqT K (upd H l (.lst ys)) a zs := fun a zs q => by
  rcases q with q | q
  · have ne : a ≠ l := fun z => by
      rw [z] at q
      rcases q with q | ⟨o, q⟩
      · rw [h] at q
        cases q
      · rw [h] at q
        cases q
    rcases q with q | ⟨o, q⟩
    · exact .inl (.inl (by rw [upd_ne ne]; exact q))
    · exact .inl (.inr ⟨o, by rw [upd_ne ne]; exact q⟩)
  · exact .inr q
def rInDA (K : PySem.W.Frag) : R2 := fun x y H Q => ∃ d ds, Dp K H x d ∧ ((Dp K H y (.list ds) ∧ SeqAt.shaped (.list ds) = true) ∨ (Dp K H y (.tuple ds) ∧ SeqAt.shaped (.tuple ds) = true)) ∧ SeqAt.shaped d = true ∧ Q (.bl (ds.any fun z => PyData.eqv z d)) H
theorem op_inDA {X : Cx} (hu : X.A.units + 65 < cLine) : OpR X (compareOp .In) (rInDA X.K) := by
  intro pins s σ H x y v u Q I rx ry h
  obtain ⟨d, ds, hd, he, sd, q⟩ := h
  obtain ⟨as, r1⟩ := Dp.reads I d x v hd rx
  rcases he with ⟨he, se⟩ | ⟨he, se⟩
  · obtain ⟨bs, r2⟩ := Dp.reads I (.list ds) y u he ry
    exact SeqAt.in_list_reads r2 r1 (SeqAt.canLay_of_shaped se) (SeqAt.canLay_of_shaped sd) (PyProof.Rows.room_in_shaped sd hu) ⟨.bl _, H, I, rfl, q⟩
  · obtain ⟨bs, r2⟩ := Dp.reads I (.tuple ds) y u he ry
    exact SeqAt.in_tuple_reads r2 r1 (SeqAt.canLay_of_shaped se) (SeqAt.canLay_of_shaped sd) (PyProof.Rows.room_in_shaped sd hu) ⟨.bl _, H, I, rfl, q⟩
/-- a place -/
def plD (ns : List Nat) : PyData := .tuple (ns.map fun n : Nat => .int (n : Int))
def plV (ns : List Nat) : List V := ns.map fun n : Nat => .int (n : Int)
def PlAt (H : Hp) (v : V) (ns : List Nat) : Prop := ∃ a, v = .ref a ∧ H a = some (.tup (plV ns))
theorem PlAt.same {H H' : Hp} {v : V} {ns : List Nat} (h : PlAt H v ns) (s : Same H H') : PlAt H' v ns := by
  obtain ⟨a, rfl, g⟩ := h
  exact ⟨a, rfl, s _ _ g⟩
theorem dp_ints {K : PySem.W.Frag} {H : Hp} : ∀ ns : List Nat, DpAll K H (plV ns) (ns.map fun n : Nat => PyData.int (n : Int))
  | [] => .nil
  | n :: ns => .cons (.int _) (dp_ints ns)
theorem PlAt.dp {K : PySem.W.Frag} {H : Hp} {v : V} {ns : List Nat} (h : PlAt H v ns) : Dp K H v (plD ns) := by
  obtain ⟨a, rfl, g⟩ := h
  exact .tup (SqT.of g) (dp_ints ns)
theorem eqv_ints : ∀ a b : List Nat, PyData.eqvAll (a.map fun n : Nat => PyData.int (n : Int)) (b.map fun n : Nat => PyData.int (n : Int)) = decide (a = b)
  | [], [] => by simp [PyData.eqvAll]
  | [], _ :: _ => by simp [PyData.eqvAll]
  | _ :: _, [] => by simp [PyData.eqvAll]
  | m :: a, n :: b => by
    simp only [List.map_cons, PyData.eqvAll, PyData.eqv, eqv_ints a b]
    by_cases h : m = n
    · subst h
      simp
    · have : ¬ ((m : Int) = (n : Int)) := fun z => h (by omega)
      simp [h, this]
theorem eqv_pl (a b : List Nat) : PyData.eqv (plD a) (plD b) = decide (a = b) := by
  unfold plD
  simp only [PyData.eqv, eqv_ints]
/-- enumerate(l) -/
theorem walk_enumL {K : PySem.W.Frag} {a : Addr} {xs : List V} : Walk (Ite K a) xs.length (fun H => SqL K H a xs) (YPair (fun i => some (.int (i : Nat))) (fun i => xs[i]?)) := by
  refine ⟨fun i _ hi q => ⟨xs, xs[i], q, by simp [hi]⟩, fun _ q => ⟨xs, q, Nat.le_refl _⟩, fun i H v H' _ q y => ?_⟩
  obtain ⟨T, x, h1, h2, h3, h4⟩ := y
  exact ⟨T, .int (i : Nat), x, h1, h2, h3, rfl, h4 xs q⟩
theorem canLay_ints : ∀ ns : List Nat, PyData.canLayAll0 (ns.map fun n : Nat => PyData.int (n : Int)) = true
  | [] => by simp [PyData.canLayAll0]
  | n :: ns => by simp [PyData.canLayAll0, PyData.canLay0, canLay_ints ns]
theorem depth_ints : ∀ ns : List Nat, PyData.depthAll (ns.map fun n : Nat => PyData.int (n : Int)) ≤ 1
  | [] => by simp [PyData.depthAll]
  | n :: ns => by
    have := depth_ints ns
    simp only [List.map_cons, PyData.depthAll, PyData.depth]
    omega
theorem shaped_pl (ns : List Nat) : SeqAt.shaped (plD ns) = true := by
  unfold SeqAt.shaped plD
  have := depth_ints ns
  rw [Bool.and_eq_true]
  refine ⟨?_, decide_eq_true ?_⟩
  · simp only [PyData.canLay0]
    exact canLay_ints ns
  · simp only [PyData.depth]
    omega
theorem cut_take (xs : List V) (n : Nat) : cutV xs none (some (n : Int)) = xs.take n := by
  unfold cutV
  rw [HT.sIx_none, HT.sIx_nat, List.drop_zero, Nat.sub_zero]
  by_cases h : n ≤ xs.length
  · rw [Nat.min_eq_left h]
  · rw [Nat.min_eq_right (by omega), List.take_of_length_le (Nat.le_refl _), List.take_of_length_le (by omega)]
theorem cut_tail (xs : List V) : cutV xs (some 1) none = xs.tail := by
  unfold cutV
  rw [show (1 : Int) = ((1 : Nat) : Int) from rfl, HT.sIx_none, HT.sIx_nat]
  cases xs with
  | nil => rfl
  | cons x xs =>
    rw [List.length_cons, Nat.min_eq_left (by omega)]
    show xs.take _ = xs
    rw [List.take_of_length_le (by omega)]
/-- a slice of a tuple -/
theorem slA {K : PySem.W.Frag} {H : Hp} {Q : VK} {a : Addr} {xs : List V} {lo hi : Option Int} (ha : H a = some (.tup xs)) (k : ∀ H' q, Same H H' → H' q = some (.tup (cutV xs lo hi)) → Q (.ref q) H') : rSlA K (.ref a) lo hi H Q := by
  refine ⟨a, xs, rfl, SqT.of ha, fun e => k H a (Same.refl H) ?_, fun _ p hp => k _ p (same_new hp) upd_same⟩
  have z : cutV xs lo hi = xs := by
    unfold cutV
    rw [e.1, e.2, List.drop_zero, Nat.sub_zero, List.take_length]
  rw [z]
  exact ha
end L3

namespace L3
open PySem L2
def Tm.with : Tm → List Tm → Tm
  | .use _ _, [a, b] => .use a b
  | .giv x _, [a] => .giv x a
  | .lt x _ _, [a, b] => .lt x a b
  | .mt _ _ _, [a, b, c] => .mt a b c
  | m, _ => m
theorem sne {x y : Str} (h : (x == y) = false) : decide (V.str x = V.str y) = false := decide_eq_false fun z => by
  injection z with z
  rw [z, beq_self_eq_true] at h
  cases h
theorem sye (x : Str) : decide (V.str x = V.str x) = true := decide_eq_true rfl
mutual
theorem Tm.noDict : ∀ m : Tm, m.d.hasDict = false
  | .name _ | .whole | .text | .hole => by simp [Tm.d, PyData.hasDict, PyData.hasDictAll]
  | .use a b => by simp [Tm.d, PyData.hasDict, PyData.hasDictAll, Tm.noDict a, Tm.noDict b]
  | .giv _ a => by simp [Tm.d, PyData.hasDict, PyData.hasDictAll, Tm.noDict a]
  | .lt _ a b => by simp [Tm.d, PyData.hasDict, PyData.hasDictAll, Tm.noDict a, Tm.noDict b]
  | .mt a b c => by simp [Tm.d, PyData.hasDict, PyData.hasDictAll, Tm.noDict a, Tm.noDict b, Tm.noDict c]
end
section
variable {P : Program} {w : World} {K : PySem.W.Frag} {mg : Str → Option Value} {base : Heap}
abbrev s_with_parts : Stmt := topS 28
abbrev N_with_parts : List Str := ["term", "parts", "rows", "arms", "row", "part", "arm"]
theorem sc_with_parts : FnScope N_with_parts ["term", "parts"] (defScope s_with_parts) := ⟨rfl, rfl, rfl, by decide +kernel, rfl, by decide +kernel, by decide +kernel⟩
def spWith (K : PySem.W.Frag) : Sp := fun vs H Q _ => ∃ (t : Addr) (v : V) (l : Addr) (us : List V) (m : Tm) (ms : List Tm), vs = [v, .ref l] ∧ Da t H v m.d ∧ m.ok = true ∧ H l = some (.lst us) ∧ DpAll K H us (ms.map Tm.d) ∧ ms.length = m.parts.length ∧
  ∀ H' r, Same H H' → Dp K H' r (m.with ms).d → Q r H'
theorem ok_with {f : Addr} {fd : FuncData} (F : Fun K "with_parts" "with_parts" s_with_parts f fd) (B : Bl mg) : FnOk P w K mg base CX0 1 f fd ["term", "parts"] (spWith K) := by
  refine F.ok sc_with_parts (fun vs H Q E h => ?_) (fun cdv A outer s H vs Q E hr h => ?_)
  · obtain ⟨t, v, l, us, m, ms, rfl, _⟩ := h
    rfl
  · obtain ⟨t, v, l, us, m, ms, rfl, hd, ho, gl, du, hl, k⟩ := h
    have hu64 := hr.units
    refine ⟨_, (pss_cons (ps_if (pt_cmpR op_eq (pe_ix ix_tup (pv 0) pe_int (fun _ _ => rfl)) pe_str (nomark _))
  (pss_one (ps_ret (pe_tup (pa_cons pe_str (pa_cons (pe_ix ix_list (pv 1) pe_int (fun _ _ => rfl)) (pa_cons (pe_ix ix_list (pv 1) pe_int (fun _ _ => rfl)) pa_nil))))))
  pss_nil)
  (pss_cons (ps_if (pt_cmpR op_eq (pe_ix ix_tup (pv 0) pe_int (fun _ _ => rfl)) pe_str (nomark _))
  (pss_one (ps_ret (pe_tup (pa_cons pe_str (pa_cons (pe_ix ix_tup (pv 0) pe_int (fun _ _ => rfl)) (pa_cons (pe_ix ix_list (pv 1) pe_int (fun _ _ => rfl)) pa_nil))))))
  pss_nil)
  (pss_cons (ps_if (pt_cmpR op_eq (pe_ix ix_tup (pv 0) pe_int (fun _ _ => rfl)) pe_str (nomark _))
  (pss_cons (ps_setLc (i := 2) (own := [("row", 4), ("part", 5)]) (g := gTup K 2 (gCons (gName 4) (gCons (gName 5) gNil))) rfl sc_with_parts.nd rfl rfl (sw_true rfl rfl rfl (by decide +kernel)) (pi_zipM (by rfl) B.zip (pa_cons (pe_ix ix_tup (pv 0) pe_int (fun _ _ => rfl)) (pa_cons (pv 1) pa_nil))) (blkOk_by (N := N_with_parts) (sc := (defScope s_with_parts)) (own := [("row", 4), ("part", 5)]) (by decide +kernel)) (fun _ _ _ _ _ => (pg_tup (by rfl) (pgs_cons (pg_name (i := 4) sc_with_parts.nd rfl (Or.inl rfl)) (pgs_cons (pg_name (i := 5) sc_with_parts.nd rfl (Or.inl rfl)) pgs_nil)))) (fun _ _ _ _ _ => pts_nil) (fun _ _ _ _ _ => (pe_tup (pa_cons (pe_ix (show IxR _ (rIxT K) from ix_tup) (pv 4) pe_int (fun _ _ => rfl)) (pa_cons (pv 5) pa_nil)))))
  (pss_one (ps_ret (pe_tup (pa_cons pe_str (pa_cons (pe_callTy call_tuple_of (by rfl) B.tuple (by decide +kernel) (pa_cons (pv 2) pa_nil)) (pa_cons (pe_ix ix_list (pv 1) (pe_un un_neg pe_int) (fun _ _ => rfl)) pa_nil)))))))
  pss_nil)
  (pss_cons (ps_if (pt_cmpR op_eq (pe_ix ix_tup (pv 0) pe_int (fun _ _ => rfl)) pe_str (nomark _))
  (pss_cons (ps_setLc (i := 3) (own := [("arm", 6), ("part", 5)]) (g := gTup K 2 (gCons (gName 6) (gCons (gName 5) gNil))) rfl sc_with_parts.nd rfl rfl (sw_true rfl rfl rfl (by decide +kernel)) (pi_zipM (by rfl) B.zip (pa_cons (pe_ix ix_tup (pv 0) pe_int (fun _ _ => rfl)) (pa_cons (pe_slice sl_list (pv 1) (po_some pe_int) po_none) pa_nil))) (blkOk_by (N := N_with_parts) (sc := (defScope s_with_parts)) (own := [("arm", 6), ("part", 5)]) (by decide +kernel)) (fun _ _ _ _ _ => (pg_tup (by rfl) (pgs_cons (pg_name (i := 6) sc_with_parts.nd rfl (Or.inl rfl)) (pgs_cons (pg_name (i := 5) sc_with_parts.nd rfl (Or.inl rfl)) pgs_nil)))) (fun _ _ _ _ _ => pts_nil) (fun _ _ _ _ _ => (pe_tup (pa_cons (pe_ix (show IxR _ (rIxT K) from ix_tup) (pv 6) pe_int (fun _ _ => rfl)) (pa_cons (pe_ix (show IxR _ (rIxT K) from ix_tup) (pv 6) pe_int (fun _ _ => rfl)) (pa_cons (pv 5) pa_nil))))))
  (pss_one (ps_ret (pe_tup (pa_cons pe_str (pa_cons (pe_ix ix_list (pv 1) pe_int (fun _ _ => rfl)) (pa_cons (pe_callTy call_tuple_of (by rfl) B.tuple (by decide +kernel) (pa_cons (pv 3) pa_nil)) pa_nil)))))))
  pss_nil)
  (pss_one (ps_ret (pv 0))))))), ?_⟩
    obtain ⟨ad, xs, rfl, ga⟩ := tm_tup hd
    have i0 : atI (V.str (wordT m) :: xs) 0 = some (.str (wordT m)) := at_of (show (0 : Int) = ((0 : Nat) : Int) from rfl) rfl
    refine ⟨_, rfl, ad, _, 0, _, rfl, rfl, SqT.of ga, i0, rfl, _, rfl, ?_⟩
    cases m with
    | hole => cases ho
    | name x =>
      refine iF (sne (by rfl)) ?_
      refine ⟨_, rfl, ad, _, 0, _, rfl, rfl, SqT.of ga, i0, rfl, _, rfl, ?_⟩
      refine iF (sne (by rfl)) ?_
      refine ⟨_, rfl, ad, _, 0, _, rfl, rfl, SqT.of ga, i0, rfl, _, rfl, ?_⟩
      refine iF (sne (by rfl)) ?_
      refine ⟨_, rfl, ad, _, 0, _, rfl, rfl, SqT.of ga, i0, rfl, _, rfl, ?_⟩
      refine iF (sne (by rfl)) ?_
      exact ⟨_, rfl, k H _ (Same.refl H) (hd.dp (Tm.noDict _))⟩
    | whole =>
      refine iF (sne (by rfl)) ?_
      refine ⟨_, rfl, ad, _, 0, _, rfl, rfl, SqT.of ga, i0, rfl, _, rfl, ?_⟩
      refine iF (sne (by rfl)) ?_
      refine ⟨_, rfl, ad, _, 0, _, rfl, rfl, SqT.of ga, i0, rfl, _, rfl, ?_⟩
      refine iF (sne (by rfl)) ?_
      refine ⟨_, rfl, ad, _, 0, _, rfl, rfl, SqT.of ga, i0, rfl, _, rfl, ?_⟩
      refine iF (sne (by rfl)) ?_
      exact ⟨_, rfl, k H _ (Same.refl H) (hd.dp (Tm.noDict _))⟩
    | text =>
      refine iF (sne (by rfl)) ?_
      refine ⟨_, rfl, ad, _, 0, _, rfl, rfl, SqT.of ga, i0, rfl, _, rfl, ?_⟩
      refine iF (sne (by rfl)) ?_
      refine ⟨_, rfl, ad, _, 0, _, rfl, rfl, SqT.of ga, i0, rfl, _, rfl, ?_⟩
      refine iF (sne (by rfl)) ?_
      refine ⟨_, rfl, ad, _, 0, _, rfl, rfl, SqT.of ga, i0, rfl, _, rfl, ?_⟩
      refine iF (sne (by rfl)) ?_
      exact ⟨_, rfl, k H _ (Same.refl H) (hd.dp (Tm.noDict _))⟩
    | use a b =>
      match ms, hl, du, k with
      | [p, q], _, du, k =>
        cases du with
        | @cons u0 _ _ _ e0 du =>
        cases du with
        | @cons u1 _ _ _ e1 du =>
        cases du
        refine iT (sye _) ?_
        refine ⟨_, rfl, l, _, 0, _, rfl, rfl, SqL.of gl, rfl, _, rfl, l, _, 1, _, rfl, rfl, SqL.of gl, rfl, slz rfl, fun r hr2 => ?_⟩
        have s1 := same_new (o := .tup [.str "use", u0, u1]) hr2
        exact k _ _ s1 (.tup (SqT.of upd_same) (.cons (.str _) (.cons (L3.Dp.same s1 e0) (.cons (L3.Dp.same s1 e1) .nil))))
    | giv x a =>
      refine iF (sne (by rfl)) ?_
      refine ⟨_, rfl, ad, _, 0, _, rfl, rfl, SqT.of ga, i0, rfl, _, rfl, ?_⟩
      refine iT (sye _) ?_
      match ms, hl, du, k with
      | [p], _, du, k =>
        cases du with
        | @cons u0 _ _ _ e0 du =>
        cases du
        cases id hd with
        | tup ga2 da =>
          have := ga.symm.trans ga2
          cases this
          cases da with
          | cons _ da =>
          cases da with
          | @cons v1 _ _ _ d1 da =>
          cases da with
          | @cons v2 _ _ _ d2 da =>
          cases da
          refine ⟨_, rfl, ad, _, 1, _, rfl, rfl, SqT.of ga, rfl, _, rfl, l, _, 0, _, rfl, rfl, SqL.of gl, rfl, slz rfl, fun r hr2 => ?_⟩
          have s1 := same_new (o := .tup [.str "given", v1, u0]) hr2
          cases d1
          exact k _ _ s1 (.tup (SqT.of upd_same) (.cons (.str _) (.cons (.str _) (.cons (L3.Dp.same s1 e0) .nil))))
    | lt x a b =>
      refine iF (sne (by rfl)) ?_
      refine ⟨_, rfl, ad, _, 0, _, rfl, rfl, SqT.of ga, i0, rfl, _, rfl, ?_⟩
      refine iF (sne (by rfl)) ?_
      refine ⟨_, rfl, ad, _, 0, _, rfl, rfl, SqT.of ga, i0, rfl, _, rfl, ?_⟩
      refine iT (sye _) ?_
      match ms, hl, du, k with
      | [p, q], _, du, k =>
        cases du with
        | @cons u0 _ _ _ e0 du =>
        cases du with
        | @cons u1 _ _ _ e1 du =>
        cases du
        cases id hd with
        | tup ga2 da =>
          have := ga.symm.trans ga2
          cases this
          cases da with
          | cons _ da =>
          cases da with
          | @cons v1 _ _ _ d1 da =>
          cases da with
          | @cons v2 _ _ _ d2 da =>
          cases da
          cases id d1 with
          | @tup a1 ys _ g1 d11 =>
          cases d11 with
          | @cons r _ _ _ dr d11 =>
          cases d11
          cases id dr with
          | @tup ar zs _ gr dz =>
          cases dz with
          | @cons z0 _ _ _ dz0 dz =>
          cases dz with
          | @cons z1 _ _ _ dz1 dz =>
          cases dz
          cases dz0
          refine ⟨_, rfl, ad, _, 1, _, rfl, rfl, SqT.of ga, rfl, _, rfl, a1, l, [.ref ar], [u0, u1], rfl, SqT.of g1, SqL.of gl, fun D hD => lc_it (walk_zipM (n := 1) rfl) (fun i H' => Same H H' ∧ ((i = 0 ∧ H' D = some (.lst [])) ∨ (i = 1 ∧ ∃ r, H' D = some (.lst [.ref r]) ∧ H' r = some (.tup [.str x, u0])))) ⟨same_new hD, .inl ⟨rfl, upd_same⟩⟩ (fun i H' _ h => ⟨SqT.of (h.1 _ _ g1), SqL.of (h.1 _ _ gl)⟩) ?_ ?_⟩
          · rintro i y H2 H3 hi ⟨s3, inv⟩ ⟨T, y1, y2, rfl, hT, rfl, ex, ez⟩
            have hi : i < 1 := hi
            obtain rfl : i = 0 := by omega
            have g3 : H2 D = some (.lst []) := by
              rcases inv with ⟨_, g⟩ | ⟨h, _⟩
              · exact g
              · cases h
            cases ex
            cases ez
            have s4 := same_new (o := .tup [.ref ar, u0]) hT
            refine ⟨T, _, rfl, SqT.of upd_same, rfl, _, _, rfl, _, _, rfl, rfl, rfl, ?_⟩
            refine ⟨_, rfl, ar, _, 0, _, rfl, rfl, SqT.of (s4 _ _ (s3 _ _ gr)), rfl, _, rfl, slz rfl, fun r2 hr3 => ?_⟩
            have s5 := same_new (o := .tup [.str x, u0]) hr3
            have gD := s5 _ _ (s4 _ _ g3)
            have ne : r2 ≠ D := fun z => by rw [z] at hr3; rw [s4 _ _ g3] at hr3; cases hr3
            refine ⟨_, gD, szl (by simp), fun b2 o q2 => ?_, .inr ⟨rfl, r2, by rw [upd_same]; rfl, by rw [upd_ne ne, upd_same]⟩⟩
            rw [upd_ne (ne_of_none q2 hD)]
            exact s5 _ _ (s4 _ _ (s3 _ _ q2))
          · rintro H2 ⟨s3, inv⟩
            obtain ⟨r, g3, gr3⟩ : ∃ r, H2 D = some (.lst [.ref r]) ∧ H2 r = some (.tup [.str x, u0]) := by
              rcases inv with ⟨h, _⟩ | ⟨_, h⟩
              · cases h
              · exact h
            refine ⟨_, rfl, D, _, rfl, .inl ⟨SqL.of g3, fun q2 hq2 => ?_⟩⟩
            have s4 := same_new (o := .tup [.ref r]) hq2
            refine ⟨_, rfl, _, rfl, l, _, -1, _, rfl, rfl, SqL.of (s4 _ _ (s3 _ _ gl)), rfl, slz rfl, fun q3 hq3 => ?_⟩
            have s5 := same_new (o := .tup [.str "let", .ref q2, u1]) hq3
            have S := s3.trans (s4.trans s5)
            exact k _ _ S (.tup (SqT.of upd_same) (.cons (.str _) (.cons (.tup (SqT.of (s5 _ _ upd_same)) (.cons (.tup (SqT.of (s5 _ _ (s4 _ _ gr3))) (.cons (.str _) (.cons (L3.Dp.same S e0) .nil))) .nil)) (.cons (L3.Dp.same S e1) .nil))))
    | mt a b c =>
      refine iF (sne (by rfl)) ?_
      refine ⟨_, rfl, ad, _, 0, _, rfl, rfl, SqT.of ga, i0, rfl, _, rfl, ?_⟩
      refine iF (sne (by rfl)) ?_
      refine ⟨_, rfl, ad, _, 0, _, rfl, rfl, SqT.of ga, i0, rfl, _, rfl, ?_⟩
      refine iF (sne (by rfl)) ?_
      refine ⟨_, rfl, ad, _, 0, _, rfl, rfl, SqT.of ga, i0, rfl, _, rfl, ?_⟩
      refine iT (sye _) ?_
      match ms, hl, du, k with
      | [p, q, r], _, du, k =>
        cases du with
        | @cons u0 _ _ _ e0 du =>
        cases du with
        | @cons u1 _ _ _ e1 du =>
        cases du with
        | @cons u2 _ _ _ e2 du =>
        cases du
        cases id hd with
        | tup ga2 da =>
          have := ga.symm.trans ga2
          cases this
          cases da with
          | cons _ da =>
          cases da with
          | @cons v1 _ _ _ d1 da =>
          cases da with
          | @cons v2 _ _ _ d2 da =>
          cases da
          cases id d2 with
          | @tup a2 ys _ g2 d22 =>
          cases d22 with
          | @cons r0 _ _ _ dr0 d22 =>
          cases d22 with
          | @cons r1 _ _ _ dr1 d22 =>
          cases d22
          cases id dr0 with
          | @tup ar0 zs0 _ gr0 dz0 =>
          cases dz0 with
          | @cons x0 _ _ _ dx0 dz0 =>
          cases dz0 with
          | @cons x1 _ _ _ dx1 dz0 =>
          cases dz0 with
          | @cons x2 _ _ _ dx2 dz0 =>
          cases dz0
          cases id dr1 with
          | @tup ar1 zs1 _ gr1 dz1 =>
          cases dz1 with
          | @cons y0 _ _ _ dy0 dz1 =>
          cases dz1 with
          | @cons y1 _ _ _ dy1 dz1 =>
          cases dz1 with
          | @cons y2 _ _ _ dy2 dz1 =>
          cases dz1
          refine ⟨_, rfl, ad, _, 2, _, rfl, rfl, SqT.of ga, rfl, _, rfl, ?_⟩
          refine ⟨_, rfl, ?_⟩
          unfold tNoPart
          refine ⟨l, _, rfl, SqL.of gl, fun l2 hl2 => ?_⟩
          rw [show cutV [u0, u1, u2] (some 1) none = [u1, u2] from rfl]
          have s2 := same_new (o := .lst [u1, u2]) hl2
          have gl2 : (upd H l2 (.lst [u1, u2])) l2 = some (.lst [u1, u2]) := upd_same
          generalize upd H l2 (.lst [u1, u2]) = H1 at s2 gl2 ⊢
          have arm : ∀ (i : Nat) (y1 y2 : V), ([.ref ar0, .ref ar1] : List V)[i]? = some y1 → ([u1, u2] : List V)[i]? = some y2 → (i = 0 ∧ y1 = .ref ar0 ∧ y2 = u1) ∨ (i = 1 ∧ y1 = .ref ar1 ∧ y2 = u2) := fun i y1 y2 h1 h2 => by
            match i, h1, h2 with
            | 0, h1, h2 => cases h1; cases h2; exact .inl ⟨rfl, rfl, rfl⟩
            | 1, h1, h2 => cases h1; cases h2; exact .inr ⟨rfl, rfl, rfl⟩
            | _ + 2, h1, _ => cases h1
          refine ⟨a2, l2, [.ref ar0, .ref ar1], [u1, u2], rfl, SqT.of (s2 _ _ g2), SqL.of gl2, fun D hD => lc_it (walk_zipM (n := 2) rfl) (fun i H' => Same H1 H' ∧ ((i = 0 ∧ H' D = some (.lst [])) ∨ (i = 1 ∧ ∃ r, H' D = some (.lst [.ref r]) ∧ H' r = some (.tup [x0, x1, u1])) ∨ (i = 2 ∧ ∃ r r', H' D = some (.lst [.ref r, .ref r']) ∧ H' r = some (.tup [x0, x1, u1]) ∧ H' r' = some (.tup [y0, y1, u2])))) ⟨same_new hD, .inl ⟨rfl, upd_same⟩⟩ (fun i H' _ h => ⟨SqT.of (h.1 _ _ (s2 _ _ g2)), SqL.of (h.1 _ _ gl2)⟩) ?_ ?_⟩
          · rintro i y H2 H3 hi ⟨s3, inv⟩ ⟨T, z1, z2, rfl, hT, rfl, ex, ez⟩
            have s4 := same_new (o := .tup [z1, z2]) hT
            refine ⟨T, _, rfl, SqT.of upd_same, rfl, _, _, rfl, _, _, rfl, rfl, rfl, ?_⟩
            rcases arm i z1 z2 ex ez with ⟨rfl, rfl, rfl⟩ | ⟨rfl, rfl, rfl⟩
            · have g3 : H2 D = some (.lst []) := by
                rcases inv with ⟨_, g⟩ | ⟨h, _⟩ | ⟨h, _⟩
                · exact g
                · cases h
                · cases h
              have ga0 := s4 _ _ (s3 _ _ (s2 _ _ gr0))
              refine ⟨_, rfl, ar0, _, 0, _, rfl, rfl, SqT.of ga0, rfl, _, rfl, ar0, _, 1, _, rfl, rfl, SqT.of ga0, rfl, _, rfl, slz rfl, fun r2 hr3 => ?_⟩
              have s5 := same_new (o := .tup [x0, x1, z2]) hr3
              have gD := s5 _ _ (s4 _ _ g3)
              have ne : r2 ≠ D := fun z => by rw [z] at hr3; rw [s4 _ _ g3] at hr3; cases hr3
              refine ⟨_, gD, szl (by simp), fun b2 o q2 => ?_, .inr (.inl ⟨rfl, r2, by rw [upd_same]; rfl, by rw [upd_ne ne, upd_same]⟩)⟩
              rw [upd_ne (ne_of_none q2 hD)]
              exact s5 _ _ (s4 _ _ (s3 _ _ q2))
            · obtain ⟨r3, g3, gr3⟩ : ∃ r, H2 D = some (.lst [.ref r]) ∧ H2 r = some (.tup [x0, x1, u1]) := by
                rcases inv with ⟨h, _⟩ | ⟨_, h⟩ | ⟨h, _⟩
                · cases h
                · exact h
                · cases h
              have ga1 := s4 _ _ (s3 _ _ (s2 _ _ gr1))
              refine ⟨_, rfl, ar1, _, 0, _, rfl, rfl, SqT.of ga1, rfl, _, rfl, ar1, _, 1, _, rfl, rfl, SqT.of ga1, rfl, _, rfl, slz rfl, fun r2 hr3 => ?_⟩
              have s5 := same_new (o := .tup [y0, y1, z2]) hr3
              have gD := s5 _ _ (s4 _ _ g3)
              have gR := s5 _ _ (s4 _ _ gr3)
              have ne : r2 ≠ D := fun z => by rw [z] at hr3; rw [s4 _ _ g3] at hr3; cases hr3
              have n3 : r3 ≠ D := fun z => by rw [z, g3] at gr3; cases gr3
              refine ⟨_, gD, szl (by simp), fun b2 o q2 => ?_, .inr (.inr ⟨rfl, r3, r2, by rw [upd_same]; rfl, by rw [upd_ne n3]; exact gR, by rw [upd_ne ne, upd_same]⟩)⟩
              rw [upd_ne (ne_of_none q2 hD)]
              exact s5 _ _ (s4 _ _ (s3 _ _ q2))
          · rintro H2 ⟨s3, inv⟩
            obtain ⟨r3, r4, g3, gr3, gr4⟩ : ∃ r r', H2 D = some (.lst [.ref r, .ref r']) ∧ H2 r = some (.tup [x0, x1, u1]) ∧ H2 r' = some (.tup [y0, y1, u2]) := by
              rcases inv with ⟨h, _⟩ | ⟨h, _⟩ | ⟨_, h⟩
              · cases h
              · cases h
              · exact h
            have S2 := s2.trans s3
            refine ⟨_, rfl, l, _, 0, _, rfl, rfl, SqL.of (S2 _ _ gl), rfl, ?_⟩
            refine ⟨_, rfl, D, _, rfl, .inl ⟨SqL.of g3, fun q2 hq2 => ?_⟩⟩
            have s4 := same_new (o := .tup [.ref r3, .ref r4]) hq2
            refine ⟨slz rfl, fun q3 hq3 => ?_⟩
            have s5 := same_new (o := .tup [.str "match", u0, .ref q2]) hq3
            have S := S2.trans (s4.trans s5)
            have nd : ∀ x : Str, (PyData.str x).hasDict = false := fun x => by simp [PyData.hasDict]
            have nt : (PyData.tuple []).hasDict = false := by simp [PyData.hasDict, PyData.hasDictAll]
            exact k _ _ S (.tup (SqT.of upd_same) (.cons (.str _) (.cons (L3.Dp.same S e0) (.cons (.tup (SqT.of (s5 _ _ upd_same)) (.cons (.tup (SqT.of (s5 _ _ (s4 _ _ gr3))) (.cons (L3.Dp.same S (dx0.dp (nd _))) (.cons (L3.Dp.same S (dx1.dp nt)) (.cons (L3.Dp.same S e1) .nil)))) (.cons (.tup (SqT.of (s5 _ _ (s4 _ _ gr4))) (.cons (L3.Dp.same S (dy0.dp (nd _))) (.cons (L3.Dp.same S (dy1.dp nt)) (.cons (L3.Dp.same S e2) .nil)))) .nil))) .nil))))
end
end L3

namespace L3
open PySem L2
section
variable {P : Program} {w : World} {K : PySem.W.Frag} {mg : Str → Option Value} {base : Heap}
abbrev s_is_around : Stmt := topS 30
abbrev N_is_around : List Str := ["place", "other"]
theorem sc_is_around : FnScope N_is_around ["place", "other"] (defScope s_is_around) := ⟨rfl, rfl, rfl, by decide +kernel, rfl, by decide +kernel, by decide +kernel⟩
def spAround : Sp := fun vs H Q _ => ∃ (u v : V) (a b : List Nat), vs = [u, v] ∧ PlAt H u a ∧ PlAt H v b ∧ a.length ≤ 60 ∧ b.length ≤ 60 ∧ ∀ H', Same H H' → Q (.bl (decide (b.take a.length = a))) H'
theorem ok_around {f : Addr} {fd : FuncData} (F : Fun K "is_around" "is_around" s_is_around f fd) (B : Bl mg) : FnOk P w K mg base CX0 1 f fd ["place", "other"] spAround := by
  refine F.ok sc_is_around (fun vs H Q E h => ?_) (fun cdv A outer s H vs Q E hr h => ?_)
  · obtain ⟨u, v, a, b, rfl, _⟩ := h
    rfl
  · obtain ⟨u, v, a, b, rfl, hu, hv, la, lb, k⟩ := h
    have hu64 := hr.units
    refine ⟨_, (pss_one (ps_ret (pe_cmpR (op_eqD hu64) (pe_slice sl_tupA (pv 1) po_none (po_some (pe_callB call_len (by rfl) B.len PySem.boot_len (pa_cons (pv 0) pa_nil)))) (pv 0) (nomark _)))), ?_⟩
    obtain ⟨au, rfl, gu⟩ := id hu
    obtain ⟨av, rfl, gv⟩ := id hv
    refine ⟨_, rfl, _, rfl, .ref au, _, rfl, .inr ⟨_, SqT.of gu, rfl⟩, ?_⟩
    refine ⟨_, rfl, slA gv fun H1 q s1 gq => ?_⟩
    rw [cut_take] at gq
    have e : (plV b).take (plV a).length = plV (b.take a.length) := by
      unfold plV
      rw [List.length_map, List.map_take]
    rw [e] at gq
    refine ⟨_, rfl, plD (b.take a.length), plD a, PlAt.dp ⟨q, rfl, gq⟩, PlAt.dp ⟨au, rfl, s1 _ _ gu⟩, shaped_pl _, shaped_pl _, ?_⟩
    rw [eqv_pl]
    exact k H1 s1
end
end L3

namespace L3
open PySem L2
/-- the places below the k-th part -/
def subP (k : Nat) (ps : List (List Nat)) : List (List Nat) := (ps.filter fun p => decide (p.head? = some k)).map List.tail
/-- a term with holes at the places -/
def Tm.holes : Tm → List (List Nat) → Tm
  | .use a b, ps => if [] ∈ ps then .hole else .use (a.holes (subP 0 ps)) (b.holes (subP 1 ps))
  | .giv x a, ps => if [] ∈ ps then .hole else .giv x (a.holes (subP 0 ps))
  | .lt x a b, ps => if [] ∈ ps then .hole else .lt x (a.holes (subP 0 ps)) (b.holes (subP 1 ps))
  | .mt a b c, ps => if [] ∈ ps then .hole else .mt (a.holes (subP 0 ps)) (b.holes (subP 1 ps)) (c.holes (subP 2 ps))
  | m, ps => if [] ∈ ps then .hole else m
theorem subP_nil (k : Nat) : subP k [] = [] := rfl
theorem holes_nil : ∀ m : Tm, m.holes [] = m
  | .name _ | .whole | .text | .hole => rfl
  | .use a b => by
    show Tm.use (a.holes []) (b.holes []) = _
    rw [holes_nil a, holes_nil b]
  | .giv x a => by
    show Tm.giv x (a.holes []) = _
    rw [holes_nil a]
  | .lt x a b => by
    show Tm.lt x (a.holes []) (b.holes []) = _
    rw [holes_nil a, holes_nil b]
  | .mt a b c => by
    show Tm.mt (a.holes []) (b.holes []) (c.holes []) = _
    rw [holes_nil a, holes_nil b, holes_nil c]
/-- the parts, each with its own holes -/
def holesL (ps : List (List Nat)) : Nat → List Tm → List Tm
  | _, [] => []
  | k, m :: ms => m.holes (subP k ps) :: holesL ps (k + 1) ms
theorem holesL_at {ps : List (List Nat)} : ∀ {k i : Nat} {ms : List Tm} {m : Tm}, ms[i]? = some m → (holesL ps k ms)[i]? = some (m.holes (subP (k + i) ps))
  | _, _, [], _, h => by cases h
  | k, 0, m :: ms, _, h => by cases h; rfl
  | k, i + 1, m :: ms, _, h => by
    have := holesL_at (ps := ps) (k := k + 1) (i := i) (ms := ms) h
    rw [show k + 1 + i = k + (i + 1) by omega] at this
    exact this
theorem dpl {K : PySem.W.Frag} {H : Hp} : ∀ {vs : List V} {ds : List PyData}, DpAll K H vs ds → vs.length = ds.length
  | _, _, .nil => rfl
  | _, _, .cons _ r => by rw [List.length_cons, List.length_cons, dpl r]
theorem dp_snoc {K : PySem.W.Frag} {H : Hp} {x : V} {d : PyData} (hx : Dp K H x d) : ∀ {vs : List V} {ds : List PyData}, DpAll K H vs ds → DpAll K H (vs ++ [x]) (ds ++ [d])
  | _, _, .nil => .cons hx .nil
  | _, _, .cons a r => .cons a (dp_snoc hx r)
theorem holes_with {m : Tm} {ps : List (List Nat)} (h : ¬ [] ∈ ps) : m.holes ps = m.with (holesL ps 0 m.parts) := by
  cases m <;> simp only [Tm.holes, if_neg h] <;> rfl
def Tm.deep : Tm → Nat
  | .use a b => max a.deep b.deep + 1
  | .giv _ a => a.deep + 1
  | .lt _ a b => max a.deep b.deep + 1
  | .mt a b c => max a.deep (max b.deep c.deep) + 1
  | _ => 0
theorem deep_part {m m' : Tm} (h : m' ∈ m.parts) : m'.deep < m.deep := by
  cases m <;> simp only [Tm.parts, List.mem_cons, List.not_mem_nil, or_false] at h <;> simp only [Tm.deep]
  · rcases h with rfl | rfl <;> omega
  · subst h
    omega
  · rcases h with rfl | rfl <;> omega
  · rcases h with rfl | rfl | rfl <;> omega
theorem dp_places {K : PySem.W.Frag} {H : Hp} : ∀ {us : List V} {ps : List (List Nat)}, Paired (PlAt H) us ps → DpAll K H us (ps.map plD)
  | _, _, .nil => .nil
  | _, _, .cons a r => .cons a.dp (dp_places r)
theorem any_nil : ∀ ps : List (List Nat), ((ps.map plD).any fun z => PyData.eqv z (plD [])) = decide ([] ∈ ps)
  | [] => by simp
  | p :: ps => by
    rw [List.map_cons, List.any_cons, any_nil ps, eqv_pl]
    by_cases h : p = []
    · subst h
      simp
    · have h2 : ¬ [] = p := fun z => h z.symm
      simp [h, h2]
theorem lay_places : ∀ ps : List (List Nat), PyData.canLayAll0 (ps.map plD) = true ∧ PyData.depthAll (ps.map plD) ≤ 3
  | [] => by simp [PyData.canLayAll0, PyData.depthAll]
  | p :: ps => by
    obtain ⟨h1, h2⟩ := lay_places ps
    have h3 := Bool.and_eq_true_iff.mp (shaped_pl p)
    have h4 : (plD p).depth ≤ 3 := by
      have := depth_ints p
      unfold plD
      simp only [PyData.depth]
      omega
    refine ⟨by simp only [List.map_cons, PyData.canLayAll0, h1, h3.1]; rfl, ?_⟩
    simp only [List.map_cons, PyData.depthAll]
    omega
theorem shaped_places (ps : List (List Nat)) : SeqAt.shaped (.list (ps.map plD)) = true ∧ SeqAt.shaped (.tuple (ps.map plD)) = true := by
  obtain ⟨h1, h2⟩ := lay_places ps
  constructor <;>
    (unfold SeqAt.shaped
     rw [Bool.and_eq_true]
     refine ⟨?_, decide_eq_true ?_⟩
     · simp only [PyData.canLay0]
       exact h1
     · simp only [PyData.depth]
       omega)
theorem paired_same {H H' : Hp} (s : Same H H') : ∀ {us : List V} {ps : List (List Nat)}, Paired (PlAt H) us ps → Paired (PlAt H') us ps
  | _, _, .nil => .nil
  | _, _, .cons a r => .cons (a.same s) (paired_same s r)
theorem pl_upd {H : Hp} {D : Addr} {xs ys : List V} (h : H D = some (.lst xs)) {v : V} {p : List Nat} (q : PlAt H v p) : PlAt (upd H D (.lst ys)) v p := by
  obtain ⟨a, rfl, g⟩ := q
  have ne : a ≠ D := fun z => by
    rw [z, h] at g
    cases g
  exact ⟨a, rfl, by rw [upd_ne ne]; exact g⟩
theorem pls_snoc {H : Hp} {D : Addr} {xs ys : List V} (h : H D = some (.lst xs)) {x : V} {p : List Nat} (hx : PlAt H x p) : ∀ {zs : List V} {qs : List (List Nat)}, Paired (PlAt H) zs qs → Paired (PlAt (upd H D (.lst ys))) (zs ++ [x]) (qs ++ [p])
  | _, _, .nil => .cons (pl_upd h hx) .nil
  | _, _, .cons a r => .cons (pl_upd h a) (pls_snoc h hx r)
mutual
theorem Tm.noL : ∀ m : Tm, noList m.d = true
  | .name _ | .whole | .text | .hole => by simp [Tm.d, noList, noListA]
  | .use a b => by simp [Tm.d, noList, noListA, Tm.noL a, Tm.noL b]
  | .giv _ a => by simp [Tm.d, noList, noListA, Tm.noL a]
  | .lt _ a b => by simp [Tm.d, noList, noListA, Tm.noL a, Tm.noL b]
  | .mt a b c => by simp [Tm.d, noList, noListA, Tm.noL a, Tm.noL b, Tm.noL c]
end
theorem noL_all : ∀ ms : List Tm, noListA (ms.map Tm.d) = true
  | [] => rfl
  | m :: ms => by simp [noListA, Tm.noL m, noL_all ms]
structure Hm (K : PySem.W.Frag) (mg : Str → Option Value) (hA : Addr) : Prop where
  HOLE : ∃ u, mg "HOLE" = some u ∧ RelV (.ref hA) u
  tup : ∀ H, SqT K H hA [.str "hole"]
  enum : mg "enumerate" = none
section
variable {P : Program} {w : World} {K : PySem.W.Frag} {mg : Str → Option Value} {base : Heap} {hA : Addr}
abbrev s_with_holes : Stmt := topS 29
abbrev N_with_holes : List Str := ["term", "row", "parts", "k", "part", "place"]
theorem sc_with_holes : FnScope N_with_holes ["term", "row"] (defScope s_with_holes) := ⟨rfl, rfl, rfl, by decide +kernel, rfl, by decide +kernel, by decide +kernel⟩
def spHoles (K : PySem.W.Frag) (n : Nat) : Sp := fun vs H Q _ => ∃ (t : Addr) (v : V) (m : Tm) (r : Addr) (us : List V) (ps : List (List Nat)), vs = [v, .ref r] ∧ Da t H v m.d ∧ m.ok = true ∧ m.deep < n ∧ (H r = some (.lst us) ∨ H r = some (.tup us)) ∧
  Paired (PlAt H) us ps ∧ ps.length ≤ 60 ∧ (∀ p ∈ ps, p.length ≤ 60) ∧ ∀ H' x, Same H H' → Dp K H' x (m.holes ps).d → Q x H'
theorem ok_holes {n k : Nat} (hk : 6 ≤ k) {f : Addr} {fd : FuncData} (F : Fun K "with_holes" "with_holes" s_with_holes f fd) (B : Bl mg) (M : Hm K mg hA) (D_parts_in : Kn P w K mg base 5 "parts_in" ["value"] spParts) (D_with_parts : Kn P w K mg base 1 "with_parts" ["term", "parts"] (spWith K))
    (D_with_holes : Kn P w K mg base k "with_holes" ["term", "row"] (spHoles K n)) : FnOk P w K mg base CX0 (k + 1) f fd ["term", "row"] (spHoles K (n + 1)) := by
  refine F.ok sc_with_holes (fun vs H Q E h => ?_) (fun cdv A outer s H vs Q E hr h => ?_)
  · obtain ⟨t, v, m, r, us, ps, rfl, _⟩ := h
    rfl
  · obtain ⟨t, v, m, r, us, ps, rfl, hd, ho, hn, hr0, pu, lp, lq, kk⟩ := h
    have hu64 := hr.units
    have hu65 : (A.deeper (PyProof.Rows.envOfC "with_holes" (defScope s_with_holes) s.heap.objs.size f cdv)).units + 65 < cLine := by have := hr.un; omega
    have hr_parts_in : Room 5 _ := hr.mono (by omega)
    have hr_with_parts : Room 1 _ := hr.mono (by omega)
    have hr_with_holes : Room k _ := hr
    refine ⟨_, (pss_cons (ps_if (pt_cmpR (op_inDA hu65) (pe_tup pa_nil) (pv 1) (by rfl))
  (pss_one (ps_ret (pe_gc (by rfl) M.HOLE)))
  pss_nil)
  (pss_cons (ps_if (pt_cmpR op_eq (pe_callB call_len (by rfl) B.len PySem.boot_len (pa_cons (pv 1) pa_nil)) pe_int (nomark _))
  (pss_one (ps_ret (pv 0)))
  pss_nil)
  (pss_cons (ps_set (i := 2) sc_with_holes.nd rfl (Or.inl rfl) (pe_lst pa_nil))
  (pss_cons (ps_for PassesOwn.never rfl (pi_enum (by rfl) M.enum (pa_cons (pe_kn D_parts_in hr_parts_in (pa_cons (pv 0) pa_nil)) pa_nil)) (pg_tup (by rfl) (pgs_cons (pg_name (i := 3) sc_with_holes.nd rfl (Or.inr rfl)) (pgs_cons (pg_name (i := 4) sc_with_holes.nd rfl (Or.inl rfl)) pgs_nil)))
  (pss_one (ps_expr (pe_bm PySem.F.plainAttrs_list PySem.F.slot_list_append PySem.F.type_list_append mt_append (pv 2) (pa_cons (pe_kn D_with_holes hr_with_holes (pa_cons (pv 4) (pa_cons (pe_lc (own := [("place", 5)]) rfl sc_with_holes.nd (pi_any (pv 1)) (blkOk_by (N := N_with_holes) (sc := (defScope s_with_holes)) (own := [("place", 5)]) (by decide +kernel)) (fun _ _ _ _ _ => (pg_name (i := 5) sc_with_holes.nd rfl (Or.inl rfl))) (fun _ _ _ _ _ => (pts_one (pt_cmpR op_eq (pe_ix (show IxR _ (rIxT K) from ix_tup) (pv 5) pe_int (fun _ _ => rfl)) (pv 3) (nomark _)))) (fun _ _ _ _ _ => (pe_slice (show SlR _ (rSlA K) from sl_tupA) (pv 5) (po_some pe_int) po_none))) pa_nil))) pa_nil)))))
  (pss_one (ps_ret (pe_kn D_with_parts hr_with_parts (pa_cons (pv 0) (pa_cons (pv 2) pa_nil))))))))), ?_⟩
    refine ⟨slz rfl, fun q hq => ?_⟩
    have s1 := same_new (o := .tup []) hq
    have gq : (upd H q (.tup [])) q = some (.tup []) := upd_same
    generalize upd H q (.tup []) = H1 at s1 gq ⊢
    have dr : ∀ {H2 : Hp}, Same H H2 → (Dp K H2 (.ref r) (.list (ps.map plD)) ∧ SeqAt.shaped (.list (ps.map plD)) = true) ∨ (Dp K H2 (.ref r) (.tuple (ps.map plD)) ∧ SeqAt.shaped (.tuple (ps.map plD)) = true) := fun s2 => by
      rcases hr0 with g | g
      · exact .inl ⟨.lst (SqL.of (s2 _ _ g)) (dp_places (paired_same s2 pu)), (shaped_places ps).1⟩
      · exact .inr ⟨.tup (SqT.of (s2 _ _ g)) (dp_places (paired_same s2 pu)), (shaped_places ps).2⟩
    refine ⟨_, rfl, plD [], ps.map plD, PlAt.dp ⟨q, rfl, gq⟩, dr s1, shaped_pl [], _, rfl, ?_⟩
    rw [any_nil]
    by_cases h0 : [] ∈ ps
    · refine iT (decide_eq_true h0) ?_
      have e : m.holes ps = .hole := by cases m <;> simp only [Tm.holes, if_pos h0]
      refine kk H1 _ s1 ?_
      rw [e]
      exact .tup (M.tup H1) (.cons (.str _) .nil)
    · refine iF (decide_eq_false h0) ?_
      have lu : us.length = ps.length := Paired.length pu
      have lenr : ∀ {H2 : Hp}, Same H H2 → LenV K (.ref r) H2 us.length := fun s2 => by
        rcases hr0 with g | g
        · exact .inl ⟨_, SqL.of (s2 _ _ g), rfl⟩
        · exact .inr ⟨_, SqT.of (s2 _ _ g), rfl⟩
      refine ⟨_, rfl, .ref r, us.length, rfl, lenr s1, rfl, _, rfl, ?_⟩
      by_cases h1 : us.length = 0
      · refine iT (decide_eq_true (by rw [h1]; rfl)) ?_
        have ep : ps = [] := List.length_eq_zero_iff.mp (by omega)
        subst ep
        refine ⟨_, rfl, kk H1 _ s1 ?_⟩
        rw [holes_nil]
        exact L3.Dp.same s1 (hd.dp (Tm.noDict m))
      · refine iF (decide_eq_false fun z => h1 (by injection z with z; omega)) ?_
        refine ⟨slz rfl, fun l hl => ?_⟩
        have s3 := s1.trans (same_new (o := .lst []) hl)
        have gl : (upd H1 l (.lst [])) l = some (.lst []) := upd_same
        have nl : H l = none := s1.free hl
        generalize upd H1 l (.lst []) = H3 at s3 gl ⊢
        unfold gName
        dsimp only
        refine ⟨_, rfl, t, v, m, rfl, hd.kp (kp_same s3), ho, fun H2 lp ws s2 glp flp dlp => ?_⟩
        have S2 := s3.trans s2
        have gl2 := s2 _ _ gl
        have nlp : lp ≠ l := fun z => by
          rw [z, gl] at flp
          cases flp
        refine ⟨lp, ws, rfl, SqL.of glp, for_it walk_enumL (fun i σ H' => (∀ b o, b ≠ l → H2 b = some o → H' b = some o) ∧ (∃ v3 v4 v5, σ = [some v, some (.ref r), some (.ref l), v3, v4, v5]) ∧ ∃ acc, H' l = some (.lst acc) ∧ DpAll K H' acc (((holesL ps 0 m.parts).take i).map Tm.d)) ⟨fun _ _ _ q => q, ⟨_, _, _, rfl⟩, [], gl2, .nil⟩ (fun i σ H' _ h => SqL.of (h.1 _ _ nlp glp)) ?_ ?_⟩
        · rintro i y σ H4 H5 hi ⟨kp, ⟨v3, v4, v5, rfl⟩, acc, ga, dac⟩ ⟨T, y1, y2, rfl, hT, rfl, ey, ez⟩
          have ey : y1 = .int (i : Int) := (Option.some.inj ey).symm
          subst ey
          obtain ⟨dd, ed, dy⟩ := da_at dlp ez
          have kd := kp
          have hi2 : i < m.parts.length := by
            have := dlp.len
            unfold dsP at this
            rw [List.length_map] at this
            omega
          have edd : dd = m.parts[i].d := by
            unfold dsP at ed
            rw [List.getElem?_map, List.getElem?_eq_getElem hi2] at ed
            exact (Option.some.inj ed).symm
          subst edd
          refine ⟨T, _, rfl, SqT.of upd_same, rfl, _, _, rfl, _, _, rfl, rfl, ?_⟩
          have s5 := same_new (o := .tup [.int (i : Int), y2]) hT
          have gl5 := s5 _ _ ga
          have S5 : Same H (upd H4 T (.tup [.int (i : Int), y2])) := fun b o q => s5 _ _ (kp b o (fun z => by rw [z, nl] at q; cases q) (S2 _ _ q))
          have lenD : ∀ j : Nat, (subP i (ps.take j)).length ≤ 60 := fun j => by
            unfold subP
            rw [List.length_map]
            exact Nat.le_trans (List.length_filter_le _ _) (by rw [List.length_take]; omega)
          refine ⟨_, rfl, .inl ⟨rfl, _, SqL.of gl5⟩, _, rfl, _, rfl, r, rfl, ?_⟩
          generalize upd H4 T (.tup [.int (i : Int), y2]) = H6 at s5 gl5 S5 ⊢
          have start : ∀ D, H6 D = none → Same H6 (upd H6 D (.lst [])) ∧ ∃ zs, (upd H6 D (.lst [])) D = some (.lst zs) ∧ Paired (PlAt (upd H6 D (.lst []))) zs (subP i (ps.take 0)) := fun D hD => ⟨same_new hD, [], upd_same, .nil⟩
          dsimp only [tNil]
          rcases hr0 with g | g
          · refine .inl ⟨⟨_, SqL.of (S5 _ _ g)⟩, fun D hD => ?_⟩
            refine lc_it (J := Itl K r) (g := gName 5) walk_list (fun j H' => Same H6 H' ∧ ∃ zs, H' D = some (.lst zs) ∧ Paired (PlAt H') zs (subP i (ps.take j))) (start D hD) (fun j H' _ h => SqL.of (h.1 _ _ (S5 _ _ g))) ?_ ?_
            · rintro j y H7 H8 hj ⟨s7, zs, gD, pz⟩ ⟨rfl, ey⟩
              refine ⟨rfl, ?_⟩
              obtain ⟨p, ep, hp⟩ := L3.paired_get pu ey
              have hp8 := hp.same (S5.trans s7)
              have st : subP i (ps.take (j + 1)) = subP i (ps.take j) ++ (if p.head? = some i then [p.tail] else []) := by
                rw [List.take_add_one, ep]
                unfold subP
                rw [List.filter_append, List.map_append]
                congr 1
                by_cases z : p.head? = some i <;> simp [z]
              cases p with
              | nil => exact absurd (List.mem_of_getElem? ep) h0
              | cons a0 tl =>
                obtain ⟨ay, rfl, gy⟩ := hp8
                have i0 : atI (plV (a0 :: tl)) 0 = some (.int (a0 : Int)) := at_of (show (0 : Int) = ((0 : Nat) : Int) from rfl) rfl
                refine ⟨_, rfl, ay, _, 0, _, rfl, rfl, SqT.of gy, i0, _, rfl, rfl, _, rfl, ?_⟩
                by_cases e : a0 = i
                · subst e
                  rw [if_pos (show (a0 :: tl).head? = some a0 from rfl)] at st
                  refine iT (decide_eq_true rfl) ?_
                  refine ⟨_, rfl, _, rfl, ?_⟩
                  unfold tNoPart
                  refine slA gy fun H9 q9 s9 g9 => ?_
                  rw [cut_tail] at g9
                  have gD9 := s9 _ _ gD
                  have lz : zs.length ≤ 60 := by
                    rw [Paired.length pz]
                    exact lenD j
                  refine ⟨zs, gD9, szl (by omega), fun b o q => ?_, zs ++ [.ref q9], upd_same, ?_⟩
                  · rw [upd_ne (ne_of_none q (by assumption))]
                    exact s9 _ _ (s7 _ _ q)
                  · rw [st]
                    exact pls_snoc gD9 ⟨q9, rfl, g9⟩ (paired_same s9 pz)
                · rw [if_neg (show ¬ (a0 :: tl).head? = some i from fun z => e (Option.some.inj z))] at st
                  rw [List.append_nil] at st
                  refine iF (decide_eq_false fun z => e (by injection z with z; omega)) ?_
                  rw [st]
                  exact ⟨s7, zs, gD, pz⟩
            · rintro H7 ⟨s7, zs, gD, pz⟩
              rw [List.take_of_length_le (by omega)] at pz
              have l6 := lenD ps.length
              rw [List.take_of_length_le (Nat.le_refl _)] at l6
              have k7 : ∀ b o, b ≠ l → H3 b = some o → H7 b = some o := fun b o nb q => s7 _ _ (s5 _ _ (kp b o nb (s2 _ _ q)))
              have dy7 : Da t H7 y2 m.parts[i].d := dy.tups (fun b xs q => k7 b _ (fun z => by rw [z, gl] at q; cases q) q) (Tm.noL _) (Tm.noDict _)
              have lq2 : ∀ p ∈ subP i ps, p.length ≤ 60 := fun p hp => by
                unfold subP at hp
                obtain ⟨p0, h1, h2⟩ := List.mem_map.mp hp
                have h3 := lq p0 (List.mem_filter.mp h1).1
                rw [← h2, List.length_tail]
                omega
              have dlt := deep_part (List.getElem_mem hi2)
              refine ⟨t, y2, m.parts[i], D, zs, subP i ps, rfl, dy7, parts_ok ho (List.getElem_mem hi2), by omega, .inl gD, pz, l6, lq2, fun H9 x s9 dx => ?_⟩
              have g9 := s9 _ _ (s7 _ _ gl5)
              have S49 : Same H4 H9 := s5.trans (s7.trans s9)
              have la : acc.length ≤ 60 := by
                have p3 : m.parts.length ≤ 3 := by cases m <;> simp [Tm.parts]
                rw [dpl dac, List.length_map, List.length_take]
                omega
              have hi3 : m.parts[i]? = some m.parts[i] := List.getElem?_eq_getElem hi2
              have et := holesL_at (ps := ps) (k := 0) hi3
              rw [Nat.zero_add] at et
              refine ⟨l, acc, x, rfl, rfl, g9, szl (by omega), fun b o nb q => by rw [upd_ne nb]; exact S49 _ _ (kp b o nb q), ⟨_, _, _, rfl⟩, acc ++ [x], upd_same, ?_⟩
              rw [List.take_add_one, et]
              show DpAll K _ _ (((holesL ps 0 m.parts).take i ++ [m.parts[i].holes (subP i ps)]).map Tm.d)
              rw [List.map_append]
              exact dp_snoc (L3.Dp.tups (tups_upd g9) dx (Tm.noL _)) (L3.DpAll.tups (fun a zs q => tups_upd g9 a zs (Same.seqT S49 q)) dac (noL_all _))
          · refine .inr ⟨⟨_, SqT.of (S5 _ _ g)⟩, fun D hD => ?_⟩
            refine lc_it (J := Itt K r) (g := gName 5) walk_tup (fun j H' => Same H6 H' ∧ ∃ zs, H' D = some (.lst zs) ∧ Paired (PlAt H') zs (subP i (ps.take j))) (start D hD) (fun j H' _ h => SqT.of (h.1 _ _ (S5 _ _ g))) ?_ ?_
            · rintro j y H7 H8 hj ⟨s7, zs, gD, pz⟩ ⟨rfl, ey⟩
              refine ⟨rfl, ?_⟩
              obtain ⟨p, ep, hp⟩ := L3.paired_get pu ey
              have hp8 := hp.same (S5.trans s7)
              have st : subP i (ps.take (j + 1)) = subP i (ps.take j) ++ (if p.head? = some i then [p.tail] else []) := by
                rw [List.take_add_one, ep]
                unfold subP
                rw [List.filter_append, List.map_append]
                congr 1
                by_cases z : p.head? = some i <;> simp [z]
              cases p with
              | nil => exact absurd (List.mem_of_getElem? ep) h0
              | cons a0 tl =>
                obtain ⟨ay, rfl, gy⟩ := hp8
                have i0 : atI (plV (a0 :: tl)) 0 = some (.int (a0 : Int)) := at_of (show (0 : Int) = ((0 : Nat) : Int) from rfl) rfl
                refine ⟨_, rfl, ay, _, 0, _, rfl, rfl, SqT.of gy, i0, _, rfl, rfl, _, rfl, ?_⟩
                by_cases e : a0 = i
                · subst e
                  rw [if_pos (show (a0 :: tl).head? = some a0 from rfl)] at st
                  refine iT (decide_eq_true rfl) ?_
                  refine ⟨_, rfl, _, rfl, ?_⟩
                  unfold tNoPart
                  refine slA gy fun H9 q9 s9 g9 => ?_
                  rw [cut_tail] at g9
                  have gD9 := s9 _ _ gD
                  have lz : zs.length ≤ 60 := by
                    rw [Paired.length pz]
                    exact lenD j
                  refine ⟨zs, gD9, szl (by omega), fun b o q => ?_, zs ++ [.ref q9], upd_same, ?_⟩
                  · rw [upd_ne (ne_of_none q (by assumption))]
                    exact s9 _ _ (s7 _ _ q)
                  · rw [st]
                    exact pls_snoc gD9 ⟨q9, rfl, g9⟩ (paired_same s9 pz)
                · rw [if_neg (show ¬ (a0 :: tl).head? = some i from fun z => e (Option.some.inj z))] at st
                  rw [List.append_nil] at st
                  refine iF (decide_eq_false fun z => e (by injection z with z; omega)) ?_
                  rw [st]
                  exact ⟨s7, zs, gD, pz⟩
            · rintro H7 ⟨s7, zs, gD, pz⟩
              rw [List.take_of_length_le (by omega)] at pz
              have l6 := lenD ps.length
              rw [List.take_of_length_le (Nat.le_refl _)] at l6
              have k7 : ∀ b o, b ≠ l → H3 b = some o → H7 b = some o := fun b o nb q => s7 _ _ (s5 _ _ (kp b o nb (s2 _ _ q)))
              have dy7 : Da t H7 y2 m.parts[i].d := dy.tups (fun b xs q => k7 b _ (fun z => by rw [z, gl] at q; cases q) q) (Tm.noL _) (Tm.noDict _)
              have lq2 : ∀ p ∈ subP i ps, p.length ≤ 60 := fun p hp => by
                unfold subP at hp
                obtain ⟨p0, h1, h2⟩ := List.mem_map.mp hp
                have h3 := lq p0 (List.mem_filter.mp h1).1
                rw [← h2, List.length_tail]
                omega
              have dlt := deep_part (List.getElem_mem hi2)
              refine ⟨t, y2, m.parts[i], D, zs, subP i ps, rfl, dy7, parts_ok ho (List.getElem_mem hi2), by omega, .inl gD, pz, l6, lq2, fun H9 x s9 dx => ?_⟩
              have g9 := s9 _ _ (s7 _ _ gl5)
              have S49 : Same H4 H9 := s5.trans (s7.trans s9)
              have la : acc.length ≤ 60 := by
                have p3 : m.parts.length ≤ 3 := by cases m <;> simp [Tm.parts]
                rw [dpl dac, List.length_map, List.length_take]
                omega
              have hi3 : m.parts[i]? = some m.parts[i] := List.getElem?_eq_getElem hi2
              have et := holesL_at (ps := ps) (k := 0) hi3
              rw [Nat.zero_add] at et
              refine ⟨l, acc, x, rfl, rfl, g9, szl (by omega), fun b o nb q => by rw [upd_ne nb]; exact S49 _ _ (kp b o nb q), ⟨_, _, _, rfl⟩, acc ++ [x], upd_same, ?_⟩
              rw [List.take_add_one, et]
              show DpAll K _ _ (((holesL ps 0 m.parts).take i ++ [m.parts[i].holes (subP i ps)]).map Tm.d)
              rw [List.map_append]
              exact dp_snoc (L3.Dp.tups (tups_upd g9) dx (Tm.noL _)) (L3.DpAll.tups (fun a zs q => tups_upd g9 a zs (Same.seqT S49 q)) dac (noL_all _))
        · rintro σ H4 ⟨kp, ⟨v3, v4, v5, rfl⟩, acc, ga, dac⟩
          have S4 : Same H H4 := fun b o q => kp b o (fun z => by rw [z, nl] at q; cases q) (S2 _ _ q)
          have lw : ws.length = m.parts.length := by
            have := dlp.len
            unfold dsP at this
            rw [List.length_map] at this
            omega
          have lh : ∀ (k : Nat) (ms : List Tm), (holesL ps k ms).length = ms.length := fun k ms => by
            induction ms generalizing k with
            | nil => rfl
            | cons x xs ih => simp only [holesL, List.length_cons, ih]
          rw [List.take_of_length_le (by rw [lh]; omega)] at dac
          refine ⟨_, rfl, _, rfl, t, v, l, acc, m, _, rfl, hd.kp (kp_same S4), ho, ga, dac, lh _ _, fun H6 x s6 dx => ?_⟩
          refine kk H6 x (S4.trans s6) ?_
          rw [holes_with h0]
          exact dx
end
end L3

/-! defs that may raise, known by their names, with or without a star parameter -/
namespace L3
open PySem PySem.Spec PyProof.Rows L2 StX
structure KnX (P : Program) (w : World) (K : PySem.W.Frag) (mg : Str → Option Value) (base : Heap) (k : Nat) (x : Str) (ps : List Str) (sp : Sp) : Prop where
  ex : ∃ (f : Addr) (fd : FuncData), FnOk P w K mg base (L2.CX P w) k f fd ps sp ∧ mg x = some (.ref f) ∧ PySem.W.keepIn K (.ref f) = true ∧ Binds K fd ps []
structure KnSX (P : Program) (w : World) (K : PySem.W.Frag) (mg : Str → Option Value) (base : Heap) (k : Nat) (x : Str) (sp : Sp) : Prop where
  ex : ∃ (f : Addr), FnR P w K mg base (L2.CX P w) k f sp ∧ mg x = some (.ref f) ∧ PySem.W.keepIn K (.ref f) = true
theorem Fun.knX {K : PySem.W.Frag} {P : Program} {w : World} {mg : Str → Option Value} {base : Heap} {x : Str} {st : Stmt} {f : Addr} {fd : FuncData} {k : Nat} {ps : List Str} {sp : Sp} (F : Fun K x x st f fd) (hm : mg x = some (.ref f)) (h : FnOk P w K mg base (L2.CX P w) k f fd ps sp)
    (b : ∀ (kV doc pm : Value) (an : Option Addr) (cdv ct : Value) (us : List Value), us.length = ps.length → bindArgs (PySem.W.fnOf x x (defArgs st) (defBody st) (defScope st) .none kV doc pm an cdv ct) ⟨us, []⟩ = pure (ps.zip us)) : KnX P w K mg base k x ps sp :=
  ⟨f, fd, h, hm, F.kp, F.binds b⟩
section
variable {X : Cx} {x : Str} {k : Nat} {ps : List Str} {sp : Sp} {e : Expr} {es : List Expr} {t : TA} {p pos : Pos} {E : XK}
theorem pe_knX (D : KnX X.prog X.w X.K X.mg X.base k x ps sp) (hr : Room k X.A) (tk : Takes X (fun cls d _ H => E cls d H)) (ha : PA X (e :: es) t) (hg : Gl X x := by rfl) (hdb : (x == ("__debug__" : Str)) = false := by decide)
    (he : starEach (e :: es) X.env = (false, eval e X.env) :: starEach es X.env := by rfl) (hpl : (backTo pos (starEach es X.env)).any (·.1) = false := by rfl) :
    PE X (.Call (.Name x p) (e :: es) [] pos) (tCall sp [] E t) := by
  obtain ⟨f, fd, F, hm, hk, hb⟩ := D.ex
  exact pe_call F hr hg hm hk hb .nil (passes_call tk fun _ _ _ _ h => h) ha hdb he hpl
def tCallRX (sp : Sp) (E : XK) (t : TA) : TE := fun σ H Q => t σ H fun vs H1 => sp vs H1 Q E
theorem pe_ksX (D : KnSX X.prog X.w X.K X.mg X.base k x sp) (hr : Room k X.A) (tk : Takes X (fun cls d _ H => E cls d H)) (ha : PA X (e :: es) t) (hg : Gl X x := by rfl) (hdb : (x == ("__debug__" : Str)) = false := by decide)
    (he : starEach (e :: es) X.env = (false, eval e X.env) :: starEach es X.env := by rfl) (hpl : (backTo pos (starEach es X.env)).any (·.1) = false := by rfl) :
    PE X (.Call (.Name x p) (e :: es) [] pos) (tCallRX sp E t) := by
  obtain ⟨f, F, hm, hk⟩ := D.ex
  refine ⟨fun pins s σ H Q I h => ?_⟩
  refine wpAny_Call_Name_kw (ld_glob I hg hm ?_ hdb)
  refine PySem.W.callWith_K (h₀ := X.base) I.ok.mod.kin hk (thn (ha.run pos pins s σ H _ I h) fun us s1 ⟨vs, H1, I1, r, q⟩ => ⟨I1.kIn, ?_⟩) he hpl
  exact wpAny_call (run_fnR F hr (passes_call tk fun _ _ _ _ h => h) I1 r q)
end
section
variable {P : Program} {w : World} {K : PySem.W.Frag} {mg : Str → Option Value} {base : Heap}
theorem fn_starX {x qual pv : Str} {st : Stmt} {f : Addr} {fd : FuncData} {N ps : List Str} {k : Nat} {sp : Sp} (F : Fun K x qual st f fd) (S : FnScope N (ps ++ [pv]) (defScope st))
    (hb : ∀ (kV doc pm : Value) (an : Option Addr) (cdv ct : Value) (us rest : List Value), us.length = ps.length → bindArgs (PySem.W.fnOf x qual (defArgs st) (defBody st) (defScope st) .none kV doc pm an cdv ct) ⟨us ++ rest, []⟩ = (newTuple rest >>= fun t => pure (ps.zip us ++ [(pv, t)])))
    (hbody : ∀ (cdv : Value) (A : Around) (outer : List Env) (s : Shared) (H : Hp) (vs : List V) (Q : VK) (E : XK), Room k (A.deeper (envOfC qual (defScope st) s.heap.objs.size f cdv)) → sp vs H Q E →
      ∃ t, PSs (cxOf (L2.CX P w) P w K mg base N qual (defScope st) f cdv A outer s H E) (defBody st) t ∧ t { nx := fun _ H' => Q .non H', rt := Q } (start N vs) H) : FnR P w K mg base (L2.CX P w) (k + 1) f (spStar ps.length sp) := by
  obtain ⟨oc, od, kV, doc, pm, an, cdv, ct, osl, rfl, lk, hcd⟩ := F.ex
  exact fn_star lk hcd S cxUp (hb kV doc pm an cdv ct) fun A outer s H vs Q E hr h => hbody cdv A outer s H vs Q E hr h
end
end L3

namespace L3
open PySem L2 StX
def num1 : PyData → Nat
  | .int i => i.toNat
  | _ => 0
def nums : PyData → List Nat
  | .tuple ds => ds.map num1
  | _ => []
/-- one of them lies in the other -/
def meets (q p : List Nat) : Bool := decide (p.take q.length = q) || decide (q.take p.length = p)
/-- what cut refuses first, of the places pre before -/
def refused (m : Tm) : List (List Nat) → List PyData → Option PyData
  | _, [] => none
  | pre, d :: ds => match atT m d with
    | none => some d
    | some _ => if pre.any (fun q => meets q (nums d)) then some d else refused m (pre ++ [nums d]) ds
theorem ref_some {m m' : Tm} {pre : List (List Nat)} {d : PyData} {ds : List PyData} (h : atT m d = some m') : refused m pre (d :: ds) = if pre.any (fun q => meets q (nums d)) then some d else refused m (pre ++ [nums d]) ds := by
  show (match atT m d with | none => some d | some _ => if pre.any (fun q => meets q (nums d)) then some d else refused m (pre ++ [nums d]) ds) = _
  rw [h]
theorem ref_none {m : Tm} {pre : List (List Nat)} {d : PyData} {ds : List PyData} (h : atT m d = none) : refused m pre (d :: ds) = some d := by
  show (match atT m d with | none => some d | some _ => if pre.any (fun q => meets q (nums d)) then some d else refused m (pre ++ [nums d]) ds) = _
  rw [h]
theorem step_num {m m' : Tm} {d : PyData} (h : stepT m d = some m') : ∃ n : Nat, d = .int (n : Int) ∧ n < 3 ∧ m.parts[n]? = some m' := by
  cases d with
  | int i =>
    have h : (if 0 ≤ i ∧ i < m.parts.length then m.parts[i.toNat]? else none) = some m' := h
    by_cases c : 0 ≤ i ∧ i < (m.parts.length : Int)
    · rw [if_pos c] at h
      have p3 : m.parts.length ≤ 3 := by cases m <;> simp [Tm.parts]
      exact ⟨i.toNat, by rw [Int.toNat_of_nonneg c.1], by omega, h⟩
    · rw [if_neg c] at h
      cases h
  | _ => cases h
theorem walk_num : ∀ {ds : List PyData} {m m' : Tm}, walkT m ds = some m' → ds = (ds.map num1).map (fun n : Nat => PyData.int (n : Int)) ∧ ds.length + m'.deep ≤ m.deep ∧ ∀ n ∈ ds.map num1, n < 3
  | [], m, m', h => by
    cases h
    exact ⟨rfl, by simp, fun n hn => by cases hn⟩
  | d :: ds, m, m', h => by
    have h : (stepT m d).bind (fun m' => walkT m' ds) = some m' := h
    cases q : stepT m d with
    | none =>
      rw [q] at h
      cases h
    | some m1 =>
      rw [q] at h
      have hw : walkT m1 ds = some m' := h
      obtain ⟨n, rfl, n3, hp⟩ := step_num q
      obtain ⟨h1, h2, h3⟩ := walk_num (ds := ds) hw
      have h4 := deep_part (List.mem_of_getElem? hp)
      have e : num1 (.int (n : Int)) = n := Int.toNat_natCast n
      refine ⟨?_, by rw [List.length_cons]; omega, fun k hk => ?_⟩
      · rw [List.map_cons, List.map_cons, e, ← h1]
      · rw [List.map_cons, e] at hk
        rcases List.mem_cons.mp hk with rfl | hk
        · exact n3
        · exact h3 k hk
theorem at_num {m m' : Tm} {d : PyData} (h : atT m d = some m') : d = plD (nums d) ∧ (nums d).length ≤ m.deep ∧ ∀ n ∈ nums d, n < 3 := by
  cases d with
  | tuple ds =>
    obtain ⟨h1, h2, h3⟩ := walk_num (show walkT m ds = some m' from h)
    refine ⟨?_, ?_, h3⟩
    · show PyData.tuple ds = .tuple ((ds.map num1).map fun n : Nat => PyData.int (n : Int))
      rw [← h1]
    · show (ds.map num1).length ≤ m.deep
      rw [List.length_map]
      omega
  | _ => cases h
theorem pl_of {t : Addr} {H : Hp} {v : V} {ns : List Nat} (h : Da t H v (plD ns)) : PlAt H v ns := by
  unfold plD at h
  cases h with
  | @tup a xs _ g ds =>
    refine ⟨a, rfl, ?_⟩
    have : xs = plV ns := by
      clear g
      induction ns generalizing xs with
      | nil => cases ds; rfl
      | cons n ns ih =>
        cases ds with
        | cons d1 d2 =>
          cases d1
          rw [ih d2]
          rfl
    rw [← this]
    exact g
theorem pls_of {t : Addr} {H : Hp} : ∀ {us : List V} {ps : List (List Nat)}, DaAll t H us (ps.map plD) → Paired (PlAt H) us ps
  | _, [], h => by cases h; exact .nil
  | _, p :: ps, h => by
    cases h with
    | cons a b => exact .cons (pl_of a) (pls_of b)
structure Hn (mg : Str → Option Value) : Prop where
  enum : mg "enumerate" = none
  any_ : mg "any" = none
section
variable {P : Program} {w : World} {K : PySem.W.Frag} {mg : Str → Option Value} {base : Heap}
abbrev s_cut : Stmt := topS 32
abbrev N_cut : List Str := ["term", "places", "k", "place", "other"]
theorem sc_cut : FnScope N_cut ["term", "places"] (defScope s_cut) := ⟨rfl, rfl, rfl, by decide +kernel, rfl, by decide +kernel, by decide +kernel⟩
def spCut0 (C : Addr) (K : PySem.W.Frag) (n : Nat) : Sp := fun vs H Q E => ∃ (t : Addr) (v : V) (m : Tm) (p : Addr) (us : List V) (ds : List PyData), vs = [v, .ref p] ∧ Da t H v m.d ∧ m.ok = true ∧ m.deep < n ∧ m.deep ≤ 60 ∧ H p = some (.tup us) ∧ DaAll t H us ds ∧ us.length ≤ 60 ∧
  (refused m [] ds = none → ∀ H' x, Same H H' → Dp K H' x (m.holes (ds.map nums)).d → Q x H') ∧
  (∀ d, refused m [] ds = some d → ∀ H' dx u, Same H H' → Da t H' u d → H' dx = some (.xd [("place", u)]) → E (.ref C) (some dx) H')
theorem ok_cut {kh n : Nat} (hk : 6 ≤ kh) {C : Addr} {f : Addr} {fd : FuncData} (F : Fun K "cut" "cut" s_cut f fd) (B : Bl mg) (M : Hn mg) (X_OutOfTerm : E1 P w K mg base "OutOfTerm" "place" mroL "LookupError.__new__" C)
    (hb : ∀ (kV doc pm : Value) (an : Option Addr) (cdv ct : Value) (us rest : List Value), us.length = 1 → bindArgs (PySem.W.fnOf "cut" "cut" (defArgs s_cut) (defBody s_cut) (defScope s_cut) .none kV doc pm an cdv ct) ⟨us ++ rest, []⟩ = (newTuple rest >>= fun t => pure ((["term"] : List Str).zip us ++ [(("places" : Str), t)])))
    (D_part_at : KnX P w K mg base 6 "part_at" ["term", "place"] (spAt C)) (D_is_around : Kn P w K mg base 1 "is_around" ["place", "other"] spAround) (D_with_holes : Kn P w K mg base kh "with_holes" ["term", "row"] (spHoles K n)) : FnR P w K mg base (L2.CX P w) (kh + 1) f (spStar 1 (spCut0 C K n)) := by
  refine fn_starX (ps := ["term"]) F sc_cut hb (fun cdv A outer s H vs Q E hr h => ?_)
  obtain ⟨t, v, m, p, us, ds, rfl, hd, ho, hn, h60, gp, du, lu, k, kE⟩ := h
  have hu64 := hr.units
  have hr_part_at : Room 6 _ := hr.mono hk
  have hr_is_around : Room 1 _ := hr.mono (by omega)
  have hr_with_holes : Room kh _ := hr
  have hr2 : Room 2 _ := hr.mono (by omega)
  refine ⟨_, (pss_cons (ps_for (passes_of rfl) rfl (pi_enumT (by rfl) M.enum (pa_cons (pv 1) pa_nil)) (pg_tup (by rfl) (pgs_cons (pg_name (i := 2) sc_cut.nd rfl (Or.inl rfl)) (pgs_cons (pg_name (i := 3) sc_cut.nd rfl (Or.inr rfl)) pgs_nil)))
  (pss_cons (ps_expr (pe_knX D_part_at hr_part_at (takes_of rfl rfl rfl rfl) (pa_cons (pv 0) (pa_cons (pv 3) pa_nil))))
  (pss_one (ps_if (pt_val (pe_callB (cr_any rfl) (by rfl) M.any_ (by decide +kernel) (pa_cons (pe_lc (own := [("other", 4)]) rfl sc_cut.nd (pi_tup (pe_slice sl_tupA (pv 1) po_none (po_some (pv 2)))) (blkOk_by (N := N_cut) (sc := (defScope s_cut)) (own := [("other", 4)]) (by decide +kernel)) (fun _ _ _ _ _ => (pg_name (i := 4) sc_cut.nd rfl (Or.inl rfl))) (fun _ _ _ _ _ => pts_nil) (fun _ _ _ _ _ => (pe_or (pe_kn D_is_around hr_is_around (pa_cons (pv 4) (pa_cons (pv 3) pa_nil))) (pe_one (pe_kn D_is_around hr_is_around (pa_cons (pv 3) (pa_cons (pv 4) pa_nil))))))) pa_nil)))
  (pss_one (ps_raise rfl (takes_of rfl rfl rfl rfl) (pmk_newX PySem.F.excBase_LookupError X_OutOfTerm.T X_OutOfTerm.R.sb X_OutOfTerm.ty X_OutOfTerm.I hr2 X_OutOfTerm.hm (pa_cons (pv 3) pa_nil))))
  pss_nil))))
  (pss_one (ps_ret (pe_kn D_with_holes hr_with_holes (pa_cons (pv 0) (pa_cons (pv 1) pa_nil)))))), ?_⟩
  refine ⟨_, rfl, p, us, rfl, SqT.of gp, for_it walk_enumT (fun i σ H' => Same H H' ∧ (∃ v2 v3 v4, σ = [some v, some (.ref p), v2, v3, v4]) ∧ (∀ j d, j < i → ds[j]? = some d → ∃ m', atT m d = some m') ∧ refused m [] ds = refused m ((ds.take i).map nums) (ds.drop i)) ⟨Same.refl _, ⟨_, _, _, rfl⟩, (fun j d h => absurd h (Nat.not_lt_zero _)), rfl⟩ (fun i σ H' _ h => SqT.of (h.1 _ _ gp)) ?_ ?_⟩
  · rintro i y σ H1 H2 hi ⟨s1, ⟨v2, v3, v4, rfl⟩, hall, hre⟩ ⟨T, y1, y2, rfl, hT, rfl, ey, ez⟩
    have ey : y1 = .int (i : Int) := (Option.some.inj ey).symm
    subst ey
    obtain ⟨d, ed, dy⟩ := da_at du ez
    have s2 := same_new (o := .tup [.int (i : Int), y2]) hT
    refine ⟨T, _, rfl, SqT.of upd_same, rfl, _, _, rfl, _, _, rfl, rfl, ?_⟩
    generalize upd H1 T (.tup [.int (i : Int), y2]) = H3 at s2 ⊢
    have S := s1.trans s2
    have edr : ds.drop i = d :: ds.drop (i + 1) := by
      have hl := (List.getElem?_eq_some_iff.mp ed).1
      rw [List.drop_eq_getElem_cons hl, (List.getElem?_eq_some_iff.mp ed).2]
    rw [edr] at hre
    refine ⟨_, rfl, _, rfl, t, v, y2, m, d, rfl, hd.kp (kp_same S), ho, dy.kp (kp_same S), fun H4 r m' s4 hat _ => ?_, fun hn H4 dx s4 gx => ?_⟩
    · have S4 := S.trans s4
      have nd := at_num hat
      have hre2 : refused m [] ds = if ((ds.take i).map nums).any (fun q => meets q (nums d)) then some d else refused m ((ds.take i).map nums ++ [nums d]) (ds.drop (i + 1)) := by
        rw [hre, ref_some hat]
      refine ⟨_, rfl, ?_⟩
      unfold tNoPart
      refine ⟨_, rfl, _, rfl, slA (S4 _ _ gp) fun H5 q s5 gq => ?_⟩
      rw [cut_take] at gq
      have S5 := S4.trans s5
      refine ⟨q, rfl, ⟨_, SqT.of gq⟩, fun D hD => ?_⟩
      refine lc_it (J := Itt K q) (g := gName 4) walk_tup (fun j H' => Same H5 H' ∧ H' D = some (.lst ((((ds.take i).take j).map fun e => meets (nums e) (nums d)).map V.bl))) ⟨same_new hD, upd_same⟩ (fun j H' _ h => SqT.of (h.1 _ _ gq)) ?_ ?_
      · rintro j y H6 H7 hj ⟨s6, gD⟩ ⟨rfl, ey⟩
        refine ⟨rfl, ?_⟩
        have hj2 : j < i := by
          rw [List.length_take] at hj
          omega
        rw [List.getElem?_take_of_lt hj2] at ey
        obtain ⟨e, ee, de⟩ := da_at du ey
        obtain ⟨me, hme⟩ := hall j e hj2 ee
        have ne := at_num hme
        have S6 := S5.trans s6
        have pe : PlAt H7 y (nums e) := pl_of (t := t) (by rw [← ne.1]; exact de.kp (kp_same S6))
        have pd : PlAt H7 y2 (nums d) := pl_of (t := t) (by rw [← nd.1]; exact dy.kp (kp_same S6))
        have et : (ds.take i).take (j + 1) = (ds.take i).take j ++ [e] := by
          rw [List.take_add_one, List.getElem?_take_of_lt hj2, ee]
          rfl
        have done : ∀ (b : Bool) (H8 : Hp), Same H7 H8 → b = meets (nums e) (nums d) → ∃ acc, H8 D = some (.lst acc) ∧ acc.length < sizeLine ∧ (Same H5 (upd H8 D (.lst (acc ++ [V.bl b]))) ∧ (upd H8 D (.lst (acc ++ [V.bl b]))) D = some (.lst ((((ds.take i).take (j + 1)).map fun e => meets (nums e) (nums d)).map V.bl))) := fun b H8 s8 hb => by
          refine ⟨_, s8 _ _ gD, szl ?_, fun c o z => ?_, ?_⟩
          · rw [List.length_map, List.length_map, List.length_take, List.length_take]
            have := du.len
            omega
          · rw [upd_ne (ne_of_none z hD)]
            exact s8 _ _ (s6 _ _ z)
          · rw [upd_same, et, hb, List.map_append, List.map_append] <;> rfl
        refine ⟨_, rfl, _, rfl, y, y2, nums e, nums d, rfl, pe, pd, by omega, by omega, fun H8 s8 => ⟨_, rfl, ?_⟩⟩
        by_cases c1 : (nums d).take (nums e).length = nums e
        · refine iT (decide_eq_true c1) ?_
          exact done true H8 s8 (by unfold meets; rw [decide_eq_true c1]; rfl)
        · refine iF (decide_eq_false c1) ?_
          refine ⟨_, rfl, _, rfl, y2, y, nums d, nums e, rfl, pd.same s8, pe.same s8, by omega, by omega, fun H9 s9 => ?_⟩
          exact done _ H9 (s8.trans s9) (by unfold meets; rw [decide_eq_false c1]; rfl)
      · rintro H6 ⟨s6, gD⟩
        refine ⟨D, _, rfl, SqL.of gD, _, rfl, ?_⟩
        have ea : (((ds.take i).take ((us.take i).length)).map fun e => meets (nums e) (nums d)).any id = ((ds.take i).map nums).any (fun q => meets q (nums d)) := by
          have := du.len
          rw [List.take_of_length_le (by rw [List.length_take, List.length_take]; omega), List.any_map, List.any_map]
          rfl
        rw [ea]
        have S6 := S5.trans s6
        cases hm : ((ds.take i).map nums).any (fun q => meets q (nums d)) with
        | true =>
          rw [hm] at hre2
          refine iT rfl ?_
          refine ⟨_, rfl, by simp, fun a ha => ⟨a, C, y2, rfl, X_OutOfTerm.T, X_OutOfTerm.tk, upd_same, fun dx hdx nd => ⟨rfl, dx, [("place", y2)], upd_same, by rw [upd_ne nd, upd_same], by rw [upd_ne nd] at hdx; exact hdx, ?_⟩⟩⟩
          have s7 : Same H6 (upd (del (upd (upd (upd H6 a (exo a C none)) dx (exd dx [("place", y2)])) a (exo a C (some dx))) a) dx (.xd [("place", y2)])) := fun b o q => by
            rw [upd_ne nd] at hdx
            have nb : b ≠ dx := fun z => by rw [z, hdx] at q; cases q
            have na : b ≠ a := fun z => by rw [z, ha] at q; cases q
            rw [upd_ne nb, del_ne na, upd_ne na, upd_ne nb, upd_ne na]
            exact q
          exact kE d hre2 _ dx y2 (S6.trans s7) (dy.kp (kp_same (S6.trans s7))) upd_same
        | false =>
          rw [hm] at hre2
          refine iF rfl ?_
          refine ⟨S6, ⟨_, _, _, rfl⟩, fun j e hj ee => ?_, ?_⟩
          · by_cases hj2 : j = i
            · subst hj2
              rw [ed] at ee
              exact ⟨m', by rw [← Option.some.inj ee]; exact hat⟩
            · exact hall j e (by omega) ee
          · rw [hre2, List.take_add_one, ed, List.map_append]
            rfl
    · have S4 := S.trans s4
      exact kE d (by rw [hre, ref_none hn]) H4 dx y2 S4 (dy.kp (kp_same S4)) gx
  · rintro σ H1 ⟨s1, ⟨v2, v3, v4, rfl⟩, hall, hre⟩
    have ll := du.len
    rw [List.drop_of_length_le (by omega)] at hre
    have hre : refused m [] ds = none := hre
    have e1 : ds = (ds.map nums).map plD := by
      rw [List.map_map]
      refine (List.map_congr_left (f := id) fun d hd => ?_).symm.trans (List.map_id ds) |>.symm
      obtain ⟨j, hj⟩ := List.mem_iff_getElem?.mp hd
      obtain ⟨m', hat⟩ := hall j d (by have := (List.getElem?_eq_some_iff.mp hj).1; omega) hj
      exact (at_num hat).1
    have du1 := du.kp (kp_same s1)
    rw [e1] at du1
    refine ⟨_, rfl, _, rfl, t, v, m, p, us, ds.map nums, rfl, hd.kp (kp_same s1), ho, hn, .inr (s1 _ _ gp), pls_of du1, by rw [List.length_map]; omega, fun q hq => ?_, fun H2 x s2 dx => k hre H2 x (s1.trans s2) dx⟩
    obtain ⟨d, hd2, rfl⟩ := List.mem_map.mp hq
    obtain ⟨j, hj⟩ := List.mem_iff_getElem?.mp hd2
    obtain ⟨m', hat⟩ := hall j d (by have := (List.getElem?_eq_some_iff.mp hj).1; omega) hj
    have := (at_num hat).2.1
    omega
end
end L3

namespace L3
open PySem L2
theorem tm_at0 {t : Addr} {H : Hp} {v : V} {m : Tm} (h : Da t H v m.d) : ∃ ad xs, v = .ref ad ∧ H ad = some (.tup xs) ∧ xs[0]? = some (.str (wordT m)) := by
  obtain ⟨ad, xs, rfl, ga⟩ := tm_tup h
  exact ⟨ad, _, rfl, ga, rfl⟩
section
variable {P : Program} {w : World} {K : PySem.W.Frag} {mg : Str → Option Value} {base : Heap}
abbrev s__law_parts_of : Stmt := topS 37
abbrev N__law_parts_of : List Str := ["_law_term", "_law_word", "_law_pair", "_law_arm"]
theorem sc__law_parts_of : FnScope N__law_parts_of ["_law_term"] (defScope s__law_parts_of) := ⟨rfl, rfl, rfl, by decide +kernel, rfl, by decide +kernel, by decide +kernel⟩
def spParts2 : Sp := fun vs H Q _ => ∃ (t : Addr) (v : V) (m : Tm), vs = [v] ∧ Da t H v m.d ∧ ∀ H' l us, Same H H' → H' l = some (.lst us) → H l = none → DaAll t H us (dsP m) → Q (.ref l) H'
theorem ok_lparts {f : Addr} {fd : FuncData} (F : Fun K "_law_parts_of" "_law_parts_of" s__law_parts_of f fd) (B : Bl mg) : FnOk P w K mg base CX0 1 f fd ["_law_term"] spParts2 := by
  refine F.ok sc__law_parts_of (fun vs H Q E h => ?_) (fun cdv A outer s H vs Q E hr h => ?_)
  · obtain ⟨t, v, m, rfl, _⟩ := h
    rfl
  · obtain ⟨t, v, m, rfl, hd, k⟩ := h
    have hu64 := hr.units
    refine ⟨_, (pss_cons (ps_set (i := 1) sc__law_parts_of.nd rfl (Or.inl rfl) (pe_ix ix_tup (pv 0) pe_int (fun _ _ => rfl)))
  (pss_cons (ps_if (pt_cmpR op_eq (pv 1) pe_str (nomark _))
  (pss_one (ps_ret (pe_lst (pa_cons (pe_ix ix_tup (pv 0) pe_int (fun _ _ => rfl)) (pa_cons (pe_ix ix_tup (pv 0) pe_int (fun _ _ => rfl)) pa_nil)))))
  pss_nil)
  (pss_cons (ps_if (pt_cmpR op_eq (pv 1) pe_str (nomark _))
  (pss_one (ps_ret (pe_lst (pa_cons (pe_ix ix_tup (pv 0) pe_int (fun _ _ => rfl)) pa_nil))))
  pss_nil)
  (pss_cons (ps_if (pt_cmpR op_eq (pv 1) pe_str (nomark _))
  (pss_one (ps_ret (pe_op op_cat (pe_lc (own := [("_law_pair", 2)]) rfl sc__law_parts_of.nd (pi_tup (pe_ix ix_tup (pv 0) pe_int (fun _ _ => rfl))) (blkOk_by (N := N__law_parts_of) (sc := (defScope s__law_parts_of)) (own := [("_law_pair", 2)]) (by decide +kernel)) (fun _ _ _ _ _ => (pg_name (i := 2) sc__law_parts_of.nd rfl (Or.inl rfl))) (fun _ _ _ _ _ => pts_nil) (fun _ _ _ _ _ => (pe_ix (show IxR _ (rIxT K) from ix_tup) (pv 2) pe_int (fun _ _ => rfl)))) (pe_lst (pa_cons (pe_ix ix_tup (pv 0) pe_int (fun _ _ => rfl)) pa_nil)))))
  pss_nil)
  (pss_one (ps_ret (pe_ifExp (pt_cmpR op_eq (pv 1) pe_str (nomark _)) (pe_op op_cat (pe_lst (pa_cons (pe_ix ix_tup (pv 0) pe_int (fun _ _ => rfl)) pa_nil)) (pe_lc (own := [("_law_arm", 3)]) rfl sc__law_parts_of.nd (pi_tup (pe_ix ix_tup (pv 0) pe_int (fun _ _ => rfl))) (blkOk_by (N := N__law_parts_of) (sc := (defScope s__law_parts_of)) (own := [("_law_arm", 3)]) (by decide +kernel)) (fun _ _ _ _ _ => (pg_name (i := 3) sc__law_parts_of.nd rfl (Or.inl rfl))) (fun _ _ _ _ _ => pts_nil) (fun _ _ _ _ _ => (pe_ix (show IxR _ (rIxT K) from ix_tup) (pv 3) pe_int (fun _ _ => rfl))))) (pe_lst pa_nil)))))))), ?_⟩
    obtain ⟨ad, xs, rfl, ga⟩ := tm_tup hd
    have i0 : atI (V.str (wordT m) :: xs) 0 = some (.str (wordT m)) := at_of (show (0 : Int) = ((0 : Nat) : Int) from rfl) rfl
    refine ⟨_, rfl, ad, _, 0, _, rfl, rfl, SqT.of ga, i0, ?_⟩
    cases m with
    | name x =>
      refine ⟨_, rfl, rfl, _, rfl, ?_⟩
      refine iF (sne (by rfl)) ?_
      refine ⟨_, rfl, rfl, _, rfl, ?_⟩
      refine iF (sne (by rfl)) ?_
      refine ⟨_, rfl, rfl, _, rfl, ?_⟩
      refine iF (sne (by rfl)) ?_
      refine ⟨_, rfl, rfl, _, rfl, ?_⟩
      refine iF (sne (by rfl)) ?_
      refine ⟨slz rfl, fun l hl => ?_⟩
      exact k _ l _ (same_new hl) upd_same hl .nil
    | whole =>
      refine ⟨_, rfl, rfl, _, rfl, ?_⟩
      refine iF (sne (by rfl)) ?_
      refine ⟨_, rfl, rfl, _, rfl, ?_⟩
      refine iF (sne (by rfl)) ?_
      refine ⟨_, rfl, rfl, _, rfl, ?_⟩
      refine iF (sne (by rfl)) ?_
      refine ⟨_, rfl, rfl, _, rfl, ?_⟩
      refine iF (sne (by rfl)) ?_
      refine ⟨slz rfl, fun l hl => ?_⟩
      exact k _ l _ (same_new hl) upd_same hl .nil
    | text =>
      refine ⟨_, rfl, rfl, _, rfl, ?_⟩
      refine iF (sne (by rfl)) ?_
      refine ⟨_, rfl, rfl, _, rfl, ?_⟩
      refine iF (sne (by rfl)) ?_
      refine ⟨_, rfl, rfl, _, rfl, ?_⟩
      refine iF (sne (by rfl)) ?_
      refine ⟨_, rfl, rfl, _, rfl, ?_⟩
      refine iF (sne (by rfl)) ?_
      refine ⟨slz rfl, fun l hl => ?_⟩
      exact k _ l _ (same_new hl) upd_same hl .nil
    | hole =>
      refine ⟨_, rfl, rfl, _, rfl, ?_⟩
      refine iF (sne (by rfl)) ?_
      refine ⟨_, rfl, rfl, _, rfl, ?_⟩
      refine iF (sne (by rfl)) ?_
      refine ⟨_, rfl, rfl, _, rfl, ?_⟩
      refine iF (sne (by rfl)) ?_
      refine ⟨_, rfl, rfl, _, rfl, ?_⟩
      refine iF (sne (by rfl)) ?_
      refine ⟨slz rfl, fun l hl => ?_⟩
      exact k _ l _ (same_new hl) upd_same hl .nil
    | use a b =>
      cases id hd with
      | @tup ad2 xs _ ga2 da =>
        have := ga.symm.trans ga2
        cases this
        cases da with
        | @cons v0 _ _ _ d0 da =>
        cases da with
        | @cons v1 _ _ _ d1 da =>
        cases da with
        | @cons v2 _ _ _ d2 da =>
        cases da
        refine ⟨_, rfl, rfl, _, rfl, ?_⟩
        refine iT (sye _) ?_
        refine ⟨_, rfl, ad, _, 1, _, rfl, rfl, SqT.of ga, rfl, _, rfl, ad, _, 2, _, rfl, rfl, SqT.of ga, rfl, slz rfl, fun l hl => ?_⟩
        exact k _ l _ (same_new hl) upd_same hl (.cons d1 (.cons d2 .nil))
    | giv x a =>
      cases id hd with
      | @tup ad2 xs _ ga2 da =>
        have := ga.symm.trans ga2
        cases this
        cases da with
        | @cons v0 _ _ _ d0 da =>
        cases da with
        | @cons v1 _ _ _ d1 da =>
        cases da with
        | @cons v2 _ _ _ d2 da =>
        cases da
        refine ⟨_, rfl, rfl, _, rfl, ?_⟩
        refine iF (sne (by rfl)) ?_
        refine ⟨_, rfl, rfl, _, rfl, ?_⟩
        refine iT (sye _) ?_
        refine ⟨_, rfl, ad, _, 2, _, rfl, rfl, SqT.of ga, rfl, slz rfl, fun l hl => ?_⟩
        exact k _ l _ (same_new hl) upd_same hl (.cons d2 .nil)
    | lt x a b =>
      cases id hd with
      | @tup ad2 xs _ ga2 da =>
        have := ga.symm.trans ga2
        cases this
        cases da with
        | @cons v0 _ _ _ d0 da =>
        cases da with
        | @cons v1 _ _ _ d1 da =>
        cases da with
        | @cons v2 _ _ _ d2 da =>
        cases da
        cases id d1 with
        | @tup a1 ys _ g1 d11 =>
        cases d11 with
        | @cons r _ _ _ dr d11 =>
        cases d11
        cases id dr with
        | @tup ar zs _ gr dz =>
        cases dz with
        | @cons z0 _ _ _ dz0 dz =>
        cases dz with
        | @cons z1 _ _ _ dz1 dz =>
        cases dz
        refine ⟨_, rfl, rfl, _, rfl, ?_⟩
        refine iF (sne (by rfl)) ?_
        refine ⟨_, rfl, rfl, _, rfl, ?_⟩
        refine iF (sne (by rfl)) ?_
        refine ⟨_, rfl, rfl, _, rfl, ?_⟩
        refine iT (sye _) ?_
        refine ⟨_, rfl, ad, _, 1, _, rfl, rfl, SqT.of ga, rfl, a1, rfl, ⟨_, SqT.of g1⟩, fun D hD => ?_⟩
        refine lc_it (J := Itt K a1) (g := gName 2) walk_tup (fun j H' => Same H H' ∧ H' D = some (.lst (([z1] : List V).take j))) ⟨same_new hD, upd_same⟩ (fun j H' _ h => SqT.of (h.1 _ _ g1)) ?_ ?_
        · rintro j y H6 H7 hj ⟨s6, gD⟩ ⟨rfl, ey⟩
          have hj : j < 1 := hj
          obtain rfl : j = 0 := by omega
          cases ey
          refine ⟨rfl, ?_⟩
          refine ⟨_, rfl, ar, _, 1, _, rfl, rfl, SqT.of (s6 _ _ gr), rfl, _, gD, slz rfl, fun c o z => ?_, upd_same⟩
          rw [upd_ne (ne_of_none z hD)]
          exact s6 _ _ z
        · rintro H6 ⟨s6, gD⟩
          refine ⟨_, rfl, ad, _, 2, _, rfl, rfl, SqT.of (s6 _ _ ga), rfl, slz rfl, fun l2 hl2 => ?_⟩
          have s7 := same_new (o := .lst [v2]) hl2
          refine ⟨D, l2, _, _, rfl, rfl, s7 _ _ gD, upd_same, (show 1 + 1 ≤ sizeLine by decide), fun l hl => ?_⟩
          have S := s6.trans (s7.trans (same_new (o := .lst (([z1] : List V).take 1 ++ [v2])) hl))
          exact k _ l _ S upd_same (s6.free (s7.free hl)) (.cons dz1 (.cons d2 .nil))
    | mt a b c =>
      cases id hd with
      | @tup ad2 xs _ ga2 da =>
        have := ga.symm.trans ga2
        cases this
        cases da with
        | @cons v0 _ _ _ d0 da =>
        cases da with
        | @cons v1 _ _ _ d1 da =>
        cases da with
        | @cons v2 _ _ _ d2 da =>
        cases da
        cases id d2 with
        | @tup a1 ys _ g1 d11 =>
        cases d11 with
        | @cons r0 _ _ _ dr0 d11 =>
        cases d11 with
        | @cons r1 _ _ _ dr1 d11 =>
        cases d11
        cases id dr0 with
        | @tup ar0 zs0 _ gr0 dz0 =>
        cases dz0 with
        | @cons x0 _ _ _ dx0 dz0 =>
        cases dz0 with
        | @cons x1 _ _ _ dx1 dz0 =>
        cases dz0 with
        | @cons x2 _ _ _ dx2 dz0 =>
        cases dz0
        cases id dr1 with
        | @tup ar1 zs1 _ gr1 dz1 =>
        cases dz1 with
        | @cons y0 _ _ _ dy0 dz1 =>
        cases dz1 with
        | @cons y1 _ _ _ dy1 dz1 =>
        cases dz1 with
        | @cons y2 _ _ _ dy2 dz1 =>
        cases dz1
        refine ⟨_, rfl, rfl, _, rfl, ?_⟩
        refine iF (sne (by rfl)) ?_
        refine ⟨_, rfl, rfl, _, rfl, ?_⟩
        refine iF (sne (by rfl)) ?_
        refine ⟨_, rfl, rfl, _, rfl, ?_⟩
        refine iF (sne (by rfl)) ?_
        refine ⟨_, rfl, rfl, _, rfl, ?_⟩
        refine iT (sye _) ?_
        refine ⟨_, rfl, ad, _, 1, _, rfl, rfl, SqT.of ga, rfl, slz rfl, fun l2 hl2 => ?_⟩
        have s2 := same_new (o := .lst [v1]) hl2
        have g2 : (upd H l2 (.lst [v1])) l2 = some (.lst [v1]) := upd_same
        generalize upd H l2 (.lst [v1]) = H1 at s2 g2 ⊢
        refine ⟨_, rfl, ad, _, 2, _, rfl, rfl, SqT.of (s2 _ _ ga), rfl, a1, rfl, ⟨_, SqT.of (s2 _ _ g1)⟩, fun D hD => ?_⟩
        refine lc_it (J := Itt K a1) (g := gName 3) walk_tup (fun j H' => Same H1 H' ∧ H' D = some (.lst (([x2, y2] : List V).take j))) ⟨same_new hD, upd_same⟩ (fun j H' _ h => SqT.of (h.1 _ _ (s2 _ _ g1))) ?_ ?_
        · rintro j y H6 H7 hj ⟨s6, gD⟩ ⟨rfl, ey⟩
          have hj : j < 2 := hj
          have S6 := s2.trans s6
          refine ⟨rfl, ?_⟩
          match j, hj, ey, gD with
          | 0, _, ey, gD =>
            cases ey
            refine ⟨_, rfl, ar0, _, 2, _, rfl, rfl, SqT.of (S6 _ _ gr0), rfl, _, gD, slz rfl, fun c o z => ?_, upd_same⟩
            rw [upd_ne (ne_of_none z hD)]
            exact s6 _ _ z
          | 1, _, ey, gD =>
            cases ey
            refine ⟨_, rfl, ar1, _, 2, _, rfl, rfl, SqT.of (S6 _ _ gr1), rfl, _, gD, slz rfl, fun c o z => ?_, upd_same⟩
            rw [upd_ne (ne_of_none z hD)]
            exact s6 _ _ z
        · rintro H6 ⟨s6, gD⟩
          refine ⟨l2, D, _, _, rfl, rfl, s6 _ _ g2, gD, (show 1 + 2 ≤ sizeLine by decide), fun l hl => ?_⟩
          have S := s2.trans (s6.trans (same_new (o := .lst ([v1] ++ ([x2, y2] : List V).take 2)) hl))
          exact k _ l _ S upd_same (s2.free (s6.free hl)) (.cons d1 (.cons dx2 (.cons dy2 .nil)))
end
end L3

namespace L3
open PySem L2
section
variable {P : Program} {w : World} {K : PySem.W.Frag} {mg : Str → Option Value} {base : Heap}
abbrev s__law_rebuilt : Stmt := topS 38
abbrev N__law_rebuilt : List Str := ["_law_term", "_law_parts", "_law_word", "_law_pair", "_law_part", "_law_arm"]
theorem sc__law_rebuilt : FnScope N__law_rebuilt ["_law_term", "_law_parts"] (defScope s__law_rebuilt) := ⟨rfl, rfl, rfl, by decide +kernel, rfl, by decide +kernel, by decide +kernel⟩
def spReb : Sp := fun vs H Q _ => ∃ (t : Addr) (v : V) (l : Addr) (us : List V) (m : Tm) (ms : List Tm), vs = [v, .ref l] ∧ Da t H v m.d ∧ H l = some (.lst us) ∧ DaAll t H us (ms.map Tm.d) ∧ ms.length = m.parts.length ∧
  ∀ H' r, Same H H' → Da t H' r (m.with ms).d → Q r H'
theorem ok_reb {f : Addr} {fd : FuncData} (F : Fun K "_law_rebuilt" "_law_rebuilt" s__law_rebuilt f fd) (B : Bl mg) : FnOk P w K mg base CX0 1 f fd ["_law_term", "_law_parts"] spReb := by
  refine F.ok sc__law_rebuilt (fun vs H Q E h => ?_) (fun cdv A outer s H vs Q E hr h => ?_)
  · obtain ⟨t, v, l, us, m, ms, rfl, _⟩ := h
    rfl
  · obtain ⟨t, v, l, us, m, ms, rfl, hd, gl, du, hl, k⟩ := h
    have hu64 := hr.units
    refine ⟨_, (pss_cons (ps_set (i := 2) sc__law_rebuilt.nd rfl (Or.inl rfl) (pe_ix ix_tup (pv 0) pe_int (fun _ _ => rfl)))
  (pss_cons (ps_if (pt_cmpR op_eq (pv 2) pe_str (nomark _))
  (pss_one (ps_ret (pe_tup (pa_cons pe_str (pa_cons (pe_ix ix_list (pv 1) pe_int (fun _ _ => rfl)) (pa_cons (pe_ix ix_list (pv 1) pe_int (fun _ _ => rfl)) pa_nil))))))
  pss_nil)
  (pss_cons (ps_if (pt_cmpR op_eq (pv 2) pe_str (nomark _))
  (pss_one (ps_ret (pe_tup (pa_cons pe_str (pa_cons (pe_ix ix_tup (pv 0) pe_int (fun _ _ => rfl)) (pa_cons (pe_ix ix_list (pv 1) pe_int (fun _ _ => rfl)) pa_nil))))))
  pss_nil)
  (pss_cons (ps_if (pt_cmpR op_eq (pv 2) pe_str (nomark _))
  (pss_one (ps_ret (pe_tup (pa_cons pe_str (pa_cons (pe_callTy call_tuple_of (by rfl) B.tuple (by decide +kernel) (pa_cons (pe_lc (own := [("_law_pair", 3), ("_law_part", 4)]) (g := gTup K 2 (gCons (gName 3) (gCons (gName 4) gNil))) rfl sc__law_rebuilt.nd (pi_zipM (by rfl) B.zip (pa_cons (pe_ix ix_tup (pv 0) pe_int (fun _ _ => rfl)) (pa_cons (pv 1) pa_nil))) (blkOk_by (N := N__law_rebuilt) (sc := (defScope s__law_rebuilt)) (own := [("_law_pair", 3), ("_law_part", 4)]) (by decide +kernel)) (fun _ _ _ _ _ => (pg_tup (by rfl) (pgs_cons (pg_name (i := 3) sc__law_rebuilt.nd rfl (Or.inl rfl)) (pgs_cons (pg_name (i := 4) sc__law_rebuilt.nd rfl (Or.inl rfl)) pgs_nil)))) (fun _ _ _ _ _ => pts_nil) (fun _ _ _ _ _ => (pe_tup (pa_cons (pe_ix (show IxR _ (rIxT K) from ix_tup) (pv 3) pe_int (fun _ _ => rfl)) (pa_cons (pv 4) pa_nil))))) pa_nil)) (pa_cons (pe_ix ix_list (pv 1) (pe_un un_neg pe_int) (fun _ _ => rfl)) pa_nil))))))
  pss_nil)
  (pss_cons (ps_if (pt_cmpR op_eq (pv 2) pe_str (nomark _))
  (pss_one (ps_ret (pe_tup (pa_cons pe_str (pa_cons (pe_ix ix_list (pv 1) pe_int (fun _ _ => rfl)) (pa_cons (pe_callTy call_tuple_of (by rfl) B.tuple (by decide +kernel) (pa_cons (pe_lc (own := [("_law_arm", 5), ("_law_part", 4)]) (g := gTup K 2 (gCons (gName 5) (gCons (gName 4) gNil))) rfl sc__law_rebuilt.nd (pi_zipM (by rfl) B.zip (pa_cons (pe_ix ix_tup (pv 0) pe_int (fun _ _ => rfl)) (pa_cons (pe_slice sl_list (pv 1) (po_some pe_int) po_none) pa_nil))) (blkOk_by (N := N__law_rebuilt) (sc := (defScope s__law_rebuilt)) (own := [("_law_arm", 5), ("_law_part", 4)]) (by decide +kernel)) (fun _ _ _ _ _ => (pg_tup (by rfl) (pgs_cons (pg_name (i := 5) sc__law_rebuilt.nd rfl (Or.inl rfl)) (pgs_cons (pg_name (i := 4) sc__law_rebuilt.nd rfl (Or.inl rfl)) pgs_nil)))) (fun _ _ _ _ _ => pts_nil) (fun _ _ _ _ _ => (pe_op (show OpR _ _ (rCatA K) from op_catA) (pe_slice (show SlR _ (rSlA K) from sl_tupA) (pv 5) po_none (po_some pe_int)) (pe_tup (pa_cons (pv 4) pa_nil))))) pa_nil)) pa_nil))))))
  pss_nil)
  (pss_one (ps_ret (pv 0)))))))), ?_⟩
    obtain ⟨ad, xs, rfl, ga⟩ := tm_tup hd
    have i0 : atI (V.str (wordT m) :: xs) 0 = some (.str (wordT m)) := at_of (show (0 : Int) = ((0 : Nat) : Int) from rfl) rfl
    refine ⟨_, rfl, ad, _, 0, _, rfl, rfl, SqT.of ga, i0, ?_⟩
    cases m with
    | hole =>
      refine ⟨_, rfl, rfl, _, rfl, ?_⟩
      refine iF (sne (by rfl)) ?_
      refine ⟨_, rfl, rfl, _, rfl, ?_⟩
      refine iF (sne (by rfl)) ?_
      refine ⟨_, rfl, rfl, _, rfl, ?_⟩
      refine iF (sne (by rfl)) ?_
      refine ⟨_, rfl, rfl, _, rfl, ?_⟩
      refine iF (sne (by rfl)) ?_
      exact ⟨_, rfl, k H _ (Same.refl H) hd⟩
    | name x =>
      refine ⟨_, rfl, rfl, _, rfl, ?_⟩
      refine iF (sne (by rfl)) ?_
      refine ⟨_, rfl, rfl, _, rfl, ?_⟩
      refine iF (sne (by rfl)) ?_
      refine ⟨_, rfl, rfl, _, rfl, ?_⟩
      refine iF (sne (by rfl)) ?_
      refine ⟨_, rfl, rfl, _, rfl, ?_⟩
      refine iF (sne (by rfl)) ?_
      exact ⟨_, rfl, k H _ (Same.refl H) hd⟩
    | whole =>
      refine ⟨_, rfl, rfl, _, rfl, ?_⟩
      refine iF (sne (by rfl)) ?_
      refine ⟨_, rfl, rfl, _, rfl, ?_⟩
      refine iF (sne (by rfl)) ?_
      refine ⟨_, rfl, rfl, _, rfl, ?_⟩
      refine iF (sne (by rfl)) ?_
      refine ⟨_, rfl, rfl, _, rfl, ?_⟩
      refine iF (sne (by rfl)) ?_
      exact ⟨_, rfl, k H _ (Same.refl H) hd⟩
    | text =>
      refine ⟨_, rfl, rfl, _, rfl, ?_⟩
      refine iF (sne (by rfl)) ?_
      refine ⟨_, rfl, rfl, _, rfl, ?_⟩
      refine iF (sne (by rfl)) ?_
      refine ⟨_, rfl, rfl, _, rfl, ?_⟩
      refine iF (sne (by rfl)) ?_
      refine ⟨_, rfl, rfl, _, rfl, ?_⟩
      refine iF (sne (by rfl)) ?_
      exact ⟨_, rfl, k H _ (Same.refl H) hd⟩
    | use a b =>
      match ms, hl, du, k with
      | [p, q], _, du, k =>
        cases du with
        | @cons u0 _ _ _ e0 du =>
        cases du with
        | @cons u1 _ _ _ e1 du =>
        cases du
        refine ⟨_, rfl, rfl, _, rfl, ?_⟩
        refine iT (sye _) ?_
        refine ⟨_, rfl, l, _, 0, _, rfl, rfl, SqL.of gl, rfl, _, rfl, l, _, 1, _, rfl, rfl, SqL.of gl, rfl, slz rfl, fun r hr2 => ?_⟩
        have s1 := same_new (o := .tup [.str "use", u0, u1]) hr2
        exact k _ _ s1 (.tup upd_same (.cons (.str _) (.cons (Da.kp (kp_same s1) e0) (.cons (Da.kp (kp_same s1) e1) .nil))))
    | giv x a =>
      refine ⟨_, rfl, rfl, _, rfl, ?_⟩
      refine iF (sne (by rfl)) ?_
      refine ⟨_, rfl, rfl, _, rfl, ?_⟩
      refine iT (sye _) ?_
      match ms, hl, du, k with
      | [p], _, du, k =>
        cases du with
        | @cons u0 _ _ _ e0 du =>
        cases du
        cases id hd with
        | tup ga2 da =>
          have := ga.symm.trans ga2
          cases this
          cases da with
          | cons _ da =>
          cases da with
          | @cons v1 _ _ _ d1 da =>
          cases da with
          | @cons v2 _ _ _ d2 da =>
          cases da
          refine ⟨_, rfl, ad, _, 1, _, rfl, rfl, SqT.of ga, rfl, _, rfl, l, _, 0, _, rfl, rfl, SqL.of gl, rfl, slz rfl, fun r hr2 => ?_⟩
          have s1 := same_new (o := .tup [.str "given", v1, u0]) hr2
          cases d1
          exact k _ _ s1 (.tup upd_same (.cons (.str _) (.cons (.str _) (.cons (Da.kp (kp_same s1) e0) .nil))))
    | lt x a b =>
      refine ⟨_, rfl, rfl, _, rfl, ?_⟩
      refine iF (sne (by rfl)) ?_
      refine ⟨_, rfl, rfl, _, rfl, ?_⟩
      refine iF (sne (by rfl)) ?_
      refine ⟨_, rfl, rfl, _, rfl, ?_⟩
      refine iT (sye _) ?_
      match ms, hl, du, k with
      | [p, q], _, du, k =>
        cases du with
        | @cons u0 _ _ _ e0 du =>
        cases du with
        | @cons u1 _ _ _ e1 du =>
        cases du
        cases id hd with
        | tup ga2 da =>
          have := ga.symm.trans ga2
          cases this
          cases da with
          | cons _ da =>
          cases da with
          | @cons v1 _ _ _ d1 da =>
          cases da with
          | @cons v2 _ _ _ d2 da =>
          cases da
          cases id d1 with
          | @tup a1 ys _ g1 d11 =>
          cases d11 with
          | @cons r _ _ _ dr d11 =>
          cases d11
          cases id dr with
          | @tup ar zs _ gr dz =>
          cases dz with
          | @cons z0 _ _ _ dz0 dz =>
          cases dz with
          | @cons z1 _ _ _ dz1 dz =>
          cases dz
          cases dz0
          refine ⟨_, rfl, ad, _, 1, _, rfl, rfl, SqT.of ga, rfl, _, rfl, a1, l, [.ref ar], [u0, u1], rfl, SqT.of g1, SqL.of gl, fun D hD => lc_it (walk_zipM (n := 1) rfl) (fun i H' => Same H H' ∧ ((i = 0 ∧ H' D = some (.lst [])) ∨ (i = 1 ∧ ∃ r, H' D = some (.lst [.ref r]) ∧ H' r = some (.tup [.str x, u0])))) ⟨same_new hD, .inl ⟨rfl, upd_same⟩⟩ (fun i H' _ h => ⟨SqT.of (h.1 _ _ g1), SqL.of (h.1 _ _ gl)⟩) ?_ ?_⟩
          · rintro i y H2 H3 hi ⟨s3, inv⟩ ⟨T, y1, y2, rfl, hT, rfl, ex, ez⟩
            have hi : i < 1 := hi
            obtain rfl : i = 0 := by omega
            have g3 : H2 D = some (.lst []) := by
              rcases inv with ⟨_, g⟩ | ⟨h, _⟩
              · exact g
              · cases h
            cases ex
            cases ez
            have s4 := same_new (o := .tup [.ref ar, u0]) hT
            refine ⟨T, _, rfl, SqT.of upd_same, rfl, _, _, rfl, _, _, rfl, rfl, rfl, ?_⟩
            refine ⟨_, rfl, ar, _, 0, _, rfl, rfl, SqT.of (s4 _ _ (s3 _ _ gr)), rfl, _, rfl, slz rfl, fun r2 hr3 => ?_⟩
            have s5 := same_new (o := .tup [.str x, u0]) hr3
            have gD := s5 _ _ (s4 _ _ g3)
            have ne : r2 ≠ D := fun z => by rw [z] at hr3; rw [s4 _ _ g3] at hr3; cases hr3
            refine ⟨_, gD, szl (by simp), fun b2 o q2 => ?_, .inr ⟨rfl, r2, by rw [upd_same]; rfl, by rw [upd_ne ne, upd_same]⟩⟩
            rw [upd_ne (ne_of_none q2 hD)]
            exact s5 _ _ (s4 _ _ (s3 _ _ q2))
          · rintro H2 ⟨s3, inv⟩
            obtain ⟨r, g3, gr3⟩ : ∃ r, H2 D = some (.lst [.ref r]) ∧ H2 r = some (.tup [.str x, u0]) := by
              rcases inv with ⟨h, _⟩ | ⟨_, h⟩
              · cases h
              · exact h
            refine ⟨D, _, rfl, .inl ⟨SqL.of g3, fun q2 hq2 => ?_⟩⟩
            have s4 := same_new (o := .tup [.ref r]) hq2
            refine ⟨_, rfl, _, rfl, l, _, -1, _, rfl, rfl, SqL.of (s4 _ _ (s3 _ _ gl)), rfl, slz rfl, fun q3 hq3 => ?_⟩
            have s5 := same_new (o := .tup [.str "let", .ref q2, u1]) hq3
            have S := s3.trans (s4.trans s5)
            exact k _ _ S (.tup upd_same (.cons (.str _) (.cons (.tup (s5 _ _ upd_same) (.cons (.tup (s5 _ _ (s4 _ _ gr3)) (.cons (.str _) (.cons (Da.kp (kp_same S) e0) .nil))) .nil)) (.cons (Da.kp (kp_same S) e1) .nil))))
    | mt a b c =>
      refine ⟨_, rfl, rfl, _, rfl, ?_⟩
      refine iF (sne (by rfl)) ?_
      refine ⟨_, rfl, rfl, _, rfl, ?_⟩
      refine iF (sne (by rfl)) ?_
      refine ⟨_, rfl, rfl, _, rfl, ?_⟩
      refine iF (sne (by rfl)) ?_
      refine ⟨_, rfl, rfl, _, rfl, ?_⟩
      refine iT (sye _) ?_
      match ms, hl, du, k with
      | [p, q, r], _, du, k =>
        cases du with
        | @cons u0 _ _ _ e0 du =>
        cases du with
        | @cons u1 _ _ _ e1 du =>
        cases du with
        | @cons u2 _ _ _ e2 du =>
        cases du
        cases id hd with
        | tup ga2 da =>
          have := ga.symm.trans ga2
          cases this
          cases da with
          | cons _ da =>
          cases da with
          | @cons v1 _ _ _ d1 da =>
          cases da with
          | @cons v2 _ _ _ d2 da =>
          cases da
          cases id d2 with
          | @tup a2 ys _ g2 d22 =>
          cases d22 with
          | @cons r0 _ _ _ dr0 d22 =>
          cases d22 with
          | @cons r1 _ _ _ dr1 d22 =>
          cases d22
          cases id dr0 with
          | @tup ar0 zs0 _ gr0 dz0 =>
          cases dz0 with
          | @cons x0 _ _ _ dx0 dz0 =>
          cases dz0 with
          | @cons x1 _ _ _ dx1 dz0 =>
          cases dz0 with
          | @cons x2 _ _ _ dx2 dz0 =>
          cases dz0
          cases id dr1 with
          | @tup ar1 zs1 _ gr1 dz1 =>
          cases dz1 with
          | @cons y0 _ _ _ dy0 dz1 =>
          cases dz1 with
          | @cons y1 _ _ _ dy1 dz1 =>
          cases dz1 with
          | @cons y2 _ _ _ dy2 dz1 =>
          cases dz1
          refine ⟨_, rfl, l, _, 0, _, rfl, rfl, SqL.of gl, rfl, _, rfl, ad, _, 2, _, rfl, rfl, SqT.of ga, rfl, _, rfl, ?_⟩
          refine ⟨_, rfl, ?_⟩
          unfold tNoPart
          refine ⟨l, _, rfl, SqL.of gl, fun l2 hl2 => ?_⟩
          rw [show cutV [u0, u1, u2] (some 1) none = [u1, u2] from rfl]
          have s2 := same_new (o := .lst [u1, u2]) hl2
          have gl2 : (upd H l2 (.lst [u1, u2])) l2 = some (.lst [u1, u2]) := upd_same
          generalize upd H l2 (.lst [u1, u2]) = H1 at s2 gl2 ⊢
          have arm : ∀ (i : Nat) (y1 y2 : V), ([.ref ar0, .ref ar1] : List V)[i]? = some y1 → ([u1, u2] : List V)[i]? = some y2 → (i = 0 ∧ y1 = .ref ar0 ∧ y2 = u1) ∨ (i = 1 ∧ y1 = .ref ar1 ∧ y2 = u2) := fun i y1 y2 h1 h2 => by
            match i, h1, h2 with
            | 0, h1, h2 => cases h1; cases h2; exact .inl ⟨rfl, rfl, rfl⟩
            | 1, h1, h2 => cases h1; cases h2; exact .inr ⟨rfl, rfl, rfl⟩
            | _ + 2, h1, _ => cases h1
          refine ⟨a2, l2, [.ref ar0, .ref ar1], [u1, u2], rfl, SqT.of (s2 _ _ g2), SqL.of gl2, fun D hD => lc_it (walk_zipM (n := 2) rfl) (fun i H' => Same H1 H' ∧ ((i = 0 ∧ H' D = some (.lst [])) ∨ (i = 1 ∧ ∃ r, H' D = some (.lst [.ref r]) ∧ H' r = some (.tup [x0, x1, u1])) ∨ (i = 2 ∧ ∃ r r', H' D = some (.lst [.ref r, .ref r']) ∧ H' r = some (.tup [x0, x1, u1]) ∧ H' r' = some (.tup [y0, y1, u2])))) ⟨same_new hD, .inl ⟨rfl, upd_same⟩⟩ (fun i H' _ h => ⟨SqT.of (h.1 _ _ (s2 _ _ g2)), SqL.of (h.1 _ _ gl2)⟩) ?_ ?_⟩
          · rintro i y H2 H3 hi ⟨s3, inv⟩ ⟨T, z1, z2, rfl, hT, rfl, ex, ez⟩
            have s4 := same_new (o := .tup [z1, z2]) hT
            refine ⟨T, _, rfl, SqT.of upd_same, rfl, _, _, rfl, _, _, rfl, rfl, rfl, ?_⟩
            rcases arm i z1 z2 ex ez with ⟨rfl, rfl, rfl⟩ | ⟨rfl, rfl, rfl⟩
            · have g3 : H2 D = some (.lst []) := by
                rcases inv with ⟨_, g⟩ | ⟨h, _⟩ | ⟨h, _⟩
                · exact g
                · cases h
                · cases h
              have ga0 := s4 _ _ (s3 _ _ (s2 _ _ gr0))
              refine ⟨_, rfl, ?_⟩
              dsimp only
              refine ⟨_, rfl, slA ga0 fun H8 q8 s8 gq8 => ?_⟩
              refine ⟨_, rfl, slz rfl, fun r9 hr9 => ?_⟩
              have s9 := same_new (o := .tup [z2]) hr9
              refine catA_ok (s9 _ _ gq8) upd_same (by simp [cutV]; omega) fun H10 r2 s10 gr2 => ?_
              have s5 := s8.trans (s9.trans s10)
              have gr2 : H10 r2 = some (.tup [x0, x1, z2]) := gr2
              have gD := s5 _ _ (s4 _ _ g3)
              have ne : r2 ≠ D := fun z => by rw [z, gD] at gr2; cases gr2
              refine ⟨_, gD, szl (by simp), fun b2 o q2 => ?_, .inr (.inl ⟨rfl, r2, by rw [upd_same]; rfl, by rw [upd_ne ne]; exact gr2⟩)⟩
              rw [upd_ne (ne_of_none q2 hD)]
              exact s5 _ _ (s4 _ _ (s3 _ _ q2))
            · obtain ⟨r3, g3, gr3⟩ : ∃ r, H2 D = some (.lst [.ref r]) ∧ H2 r = some (.tup [x0, x1, u1]) := by
                rcases inv with ⟨h, _⟩ | ⟨_, h⟩ | ⟨h, _⟩
                · cases h
                · exact h
                · cases h
              have ga1 := s4 _ _ (s3 _ _ (s2 _ _ gr1))
              refine ⟨_, rfl, ?_⟩
              dsimp only
              refine ⟨_, rfl, slA ga1 fun H8 q8 s8 gq8 => ?_⟩
              refine ⟨_, rfl, slz rfl, fun r9 hr9 => ?_⟩
              have s9 := same_new (o := .tup [z2]) hr9
              refine catA_ok (s9 _ _ gq8) upd_same (by simp [cutV]; omega) fun H10 r2 s10 gr2 => ?_
              have s5 := s8.trans (s9.trans s10)
              have gr2 : H10 r2 = some (.tup [y0, y1, z2]) := gr2
              have gD := s5 _ _ (s4 _ _ g3)
              have gR := s5 _ _ (s4 _ _ gr3)
              have ne : r2 ≠ D := fun z => by rw [z, gD] at gr2; cases gr2
              have n3 : r3 ≠ D := fun z => by rw [z, g3] at gr3; cases gr3
              refine ⟨_, gD, szl (by simp), fun b2 o q2 => ?_, .inr (.inr ⟨rfl, r3, r2, by rw [upd_same]; rfl, by rw [upd_ne n3]; exact gR, by rw [upd_ne ne]; exact gr2⟩)⟩
              rw [upd_ne (ne_of_none q2 hD)]
              exact s5 _ _ (s4 _ _ (s3 _ _ q2))
          · rintro H2 ⟨s3, inv⟩
            obtain ⟨r3, r4, g3, gr3, gr4⟩ : ∃ r r', H2 D = some (.lst [.ref r, .ref r']) ∧ H2 r = some (.tup [x0, x1, u1]) ∧ H2 r' = some (.tup [y0, y1, u2]) := by
              rcases inv with ⟨h, _⟩ | ⟨h, _⟩ | ⟨_, h⟩
              · cases h
              · cases h
              · exact h
            have S2 := s2.trans s3
            refine ⟨D, _, rfl, .inl ⟨SqL.of g3, fun q2 hq2 => ?_⟩⟩
            have s4 := same_new (o := .tup [.ref r3, .ref r4]) hq2
            refine ⟨slz rfl, fun q3 hq3 => ?_⟩
            have s5 := same_new (o := .tup [.str "match", u0, .ref q2]) hq3
            have S := S2.trans (s4.trans s5)
            exact k _ _ S (.tup upd_same (.cons (.str _) (.cons (Da.kp (kp_same S) e0) (.cons (.tup (s5 _ _ upd_same) (.cons (.tup (s5 _ _ (s4 _ _ gr3)) (.cons (Da.kp (kp_same S) dx0) (.cons (Da.kp (kp_same S) dx1) (.cons (Da.kp (kp_same S) e1) .nil)))) (.cons (.tup (s5 _ _ (s4 _ _ gr4)) (.cons (Da.kp (kp_same S) dy0) (.cons (Da.kp (kp_same S) dy1) (.cons (Da.kp (kp_same S) e2) .nil)))) .nil))) .nil))))
end
end L3

/-! all places of a term; how places are shown -/
namespace L3
open PySem L2 TL
def nints (p : List Nat) : List PyData := p.map fun n : Nat => PyData.int (n : Int)
def pre (k : Nat) (l : List (List Nat × Tm)) : List (List Nat × Tm) := l.map fun q => (k :: q.1, q.2)
def Tm.spots : Tm → List (List Nat × Tm)
  | .use a b => ([], .use a b) :: (pre 0 a.spots ++ pre 1 b.spots)
  | .giv x a => ([], .giv x a) :: pre 0 a.spots
  | .lt x a b => ([], .lt x a b) :: (pre 0 a.spots ++ pre 1 b.spots)
  | .mt a b c => ([], .mt a b c) :: (pre 0 a.spots ++ (pre 1 b.spots ++ pre 2 c.spots))
  | m => [([], m)]
def under (p : List Nat) (l : List (List Nat × Tm)) : List (List Nat × Tm) := l.map fun q => (p ++ q.1, q.2)
def flat : List (List Nat × Tm) → List (List Nat × Tm)
  | [] => []
  | q :: st => under q.1 q.2.spots ++ flat st
def kids (p : List Nat) : Nat → List Tm → List (List Nat × Tm)
  | _, [] => []
  | k, m :: ms => (p ++ [k], m) :: kids p (k + 1) ms
theorem flat_app : ∀ a b, flat (a ++ b) = flat a ++ flat b
  | [], b => rfl
  | q :: a, b => by
    show under q.1 q.2.spots ++ flat (a ++ b) = _
    rw [flat_app a b, ← List.append_assoc]
    rfl
theorem under_pre (p : List Nat) (k : Nat) (l : List (List Nat × Tm)) : under p (pre k l) = under (p ++ [k]) l := by
  unfold under pre
  rw [List.map_map]
  congr 1
  funext q
  simp
theorem under_app (p : List Nat) (a b : List (List Nat × Tm)) : under p (a ++ b) = under p a ++ under p b := List.map_append
theorem under_cons (p : List Nat) (m : Tm) (l : List (List Nat × Tm)) : under p (([], m) :: l) = (p, m) :: under p l := by
  unfold under
  simp
theorem flat_step (p : List Nat) (m : Tm) : under p m.spots = (p, m) :: flat (kids p 0 m.parts) := by
  cases m <;> simp only [Tm.spots, Tm.parts, kids, flat, under_cons, under_app, under_pre, List.append_nil] <;> rfl
theorem under_nil (l : List (List Nat × Tm)) : under [] l = l := by
  unfold under
  simp
theorem kids_mem {p : List Nat} {q : List Nat × Tm} : ∀ {k : Nat} {ms : List Tm}, q ∈ kids p k ms ↔ ∃ i, ms[i]? = some q.2 ∧ q.1 = p ++ [k + i]
  | k, [] => by
    constructor
    · intro h
      cases h
    · rintro ⟨i, h, _⟩
      cases h
  | k, m :: ms => by
    show q ∈ (p ++ [k], m) :: kids p (k + 1) ms ↔ _
    rw [List.mem_cons, kids_mem (k := k + 1) (ms := ms)]
    constructor
    · rintro (rfl | ⟨i, h1, h2⟩)
      · exact ⟨0, rfl, rfl⟩
      · exact ⟨i + 1, h1, by rw [h2]; congr 2; omega⟩
    · rintro ⟨i, h1, h2⟩
      cases i with
      | zero =>
        have h1 : some m = some q.2 := h1
        refine .inl ?_
        obtain ⟨q1, q2⟩ := q
        have e1 : q1 = p ++ [k + 0] := h2
        rw [e1, Option.some.inj h1] <;> rfl
      | succ i => exact .inr ⟨i, h1, by rw [h2]; congr 2; omega⟩
theorem flat_mem {q : List Nat × Tm} : ∀ {st : List (List Nat × Tm)}, q ∈ flat st ↔ ∃ r ∈ st, q ∈ under r.1 r.2.spots
  | [] => by
    constructor
    · intro h
      cases h
    · rintro ⟨_, h, _⟩
      cases h
  | r :: st => by
    show q ∈ under r.1 r.2.spots ++ flat st ↔ _
    rw [List.mem_append, flat_mem (st := st)]
    constructor
    · rintro (h | ⟨r', h1, h2⟩)
      · exact ⟨r, List.mem_cons_self, h⟩
      · exact ⟨r', List.mem_cons_of_mem _ h1, h2⟩
    · rintro ⟨r', h1, h2⟩
      rcases List.mem_cons.mp h1 with rfl | h1
      · exact .inl h2
      · exact .inr ⟨r', h1, h2⟩
theorem step_nat (m : Tm) (k : Nat) : stepT m (.int (k : Int)) = m.parts[k]? := by
  show (if (0 : Int) ≤ (k : Int) ∧ (k : Int) < (m.parts.length : Int) then m.parts[(k : Int).toNat]? else none) = _
  by_cases c : k < m.parts.length
  · rw [if_pos ⟨by omega, by omega⟩, Int.toNat_natCast]
  · rw [if_neg (fun z => c (by omega)), List.getElem?_eq_none (by omega)]
theorem spots_at : ∀ (p : List Nat) (m m' : Tm), (p, m') ∈ m.spots ↔ walkT m (nints p) = some m'
  | [], m, m' => by
    have e := flat_step [] m
    rw [under_nil] at e
    rw [e, List.mem_cons]
    constructor
    · rintro (h | h)
      · cases h
        rfl
      · obtain ⟨r, h1, h2⟩ := flat_mem.mp h
        obtain ⟨i, _, h3⟩ := kids_mem.mp h1
        obtain ⟨s, _, h4⟩ := List.mem_map.mp h2
        rw [h3] at h4
        have h5 := congrArg Prod.fst h4
        simp at h5
    · intro h
      have h : some m = some m' := h
      rw [Option.some.inj h]
      exact .inl rfl
  | k :: p, m, m' => by
    have e := flat_step [] m
    rw [under_nil] at e
    rw [e, List.mem_cons]
    show _ ↔ (stepT m (.int (k : Int))).bind (fun m1 => walkT m1 (nints p)) = some m'
    rw [step_nat]
    constructor
    · rintro (h | h)
      · cases h
      · obtain ⟨r, h1, h2⟩ := flat_mem.mp h
        obtain ⟨i, hi, h3⟩ := kids_mem.mp h1
        obtain ⟨s, hs, h4⟩ := List.mem_map.mp h2
        rw [h3] at h4
        injection h4 with h5 h6
        simp only [List.nil_append, Nat.zero_add, List.singleton_append, List.cons.injEq] at h5
        obtain ⟨rfl, h5⟩ := h5
        rw [hi]
        show walkT r.2 (nints p) = some m'
        rw [← spots_at p r.2 m', ← h5, ← h6]
        exact hs
    · intro h
      cases q : m.parts[k]? with
      | none =>
        rw [q] at h
        cases h
      | some m1 =>
        rw [q] at h
        have h : walkT m1 (nints p) = some m' := h
        refine .inr (flat_mem.mpr ⟨([k], m1), kids_mem.mpr ⟨k, q, by simp⟩, List.mem_map.mpr ⟨(p, m'), (spots_at p m1 m').mpr h, rfl⟩⟩)
theorem spots_len : ∀ m : Tm, m.spots.length + 1 ≤ 4 ^ (m.deep + 1)
  | .name _ | .whole | .text | .hole => by
    show 1 + 1 ≤ 4 ^ 1
    omega
  | .use a b => by
    have h1 := spots_len a
    have h2 := spots_len b
    have g1 : 4 ^ (a.deep + 1) ≤ 4 ^ (max a.deep b.deep + 1) := Nat.pow_le_pow_right (by omega) (by omega)
    have g2 : 4 ^ (b.deep + 1) ≤ 4 ^ (max a.deep b.deep + 1) := Nat.pow_le_pow_right (by omega) (by omega)
    simp only [Tm.spots, Tm.deep, pre, List.length_cons, List.length_append, List.length_map, Nat.pow_succ] at *
    omega
  | .giv _ a => by
    have h1 := spots_len a
    simp only [Tm.spots, Tm.deep, pre, List.length_cons, List.length_append, List.length_map, Nat.pow_succ] at *
    omega
  | .lt _ a b => by
    have h1 := spots_len a
    have h2 := spots_len b
    have g1 : 4 ^ (a.deep + 1) ≤ 4 ^ (max a.deep b.deep + 1) := Nat.pow_le_pow_right (by omega) (by omega)
    have g2 : 4 ^ (b.deep + 1) ≤ 4 ^ (max a.deep b.deep + 1) := Nat.pow_le_pow_right (by omega) (by omega)
    simp only [Tm.spots, Tm.deep, pre, List.length_cons, List.length_append, List.length_map, Nat.pow_succ] at *
    omega
  | .mt a b c => by
    have h1 := spots_len a
    have h2 := spots_len b
    have h3 := spots_len c
    have g1 : 4 ^ (a.deep + 1) ≤ 4 ^ (max a.deep (max b.deep c.deep) + 1) := Nat.pow_le_pow_right (by omega) (by omega)
    have g2 : 4 ^ (b.deep + 1) ≤ 4 ^ (max a.deep (max b.deep c.deep) + 1) := Nat.pow_le_pow_right (by omega) (by omega)
    have g3 : 4 ^ (c.deep + 1) ≤ 4 ^ (max a.deep (max b.deep c.deep) + 1) := Nat.pow_le_pow_right (by omega) (by omega)
    simp only [Tm.spots, Tm.deep, pre, List.length_cons, List.length_append, List.length_map, Nat.pow_succ] at *
    omega
/-! ### how places are shown -/
def okc (c : Nat) : Bool := decide (c = 32) || decide (c = 40) || decide (c = 41) || decide (c = 44) || (decide (48 ≤ c) && decide (c ≤ 57))
def dig (l : List Nat) : List Nat := l.filter fun c => decide (48 ≤ c) && decide (c ≤ 57)
theorem shown_nat {n : Nat} (h : n < 4) : tl (PyData.int (n : Int)).shown = [48 + n] := by
  match n, h with
  | 0, _ => decide +kernel
  | 1, _ => decide +kernel
  | 2, _ => decide +kernel
  | 3, _ => decide +kernel
theorem tl_tup (ds : List PyData) : tl (PyData.tuple ds).shown = 40 :: (joinL [44, 32] ((PyData.shownAll ds).map tl) ++ (if (PyData.shownAll ds).length == 1 then [44, 41] else [41])) := by
  have e : (PyData.tuple ds).shown = tupleText (PyData.shownAll ds) := by simp only [PyData.shown]
  rw [e]
  unfold tupleText
  show ((("(" : Str) ++ Str.join ", " (PyData.shownAll ds)) ++ _).cps.toList = _
  rw [PyProof.Rows.cps_toList_append, PyProof.Rows.cps_toList_append]
  show [40] ++ tl (Str.join ", " (PyData.shownAll ds)) ++ _ = _
  rw [tl_join]
  cases (PyData.shownAll ds).length == 1 <;> rfl
theorem tl_lst (ds : List PyData) : 91 ∈ tl (PyData.list ds).shown := by
  have e : (PyData.list ds).shown = listText (PyData.shownAll ds) := by simp only [PyData.shown]
  rw [e, listText_eq_join]
  show 91 ∈ ((("[" : Str) ++ Str.join ", " (PyData.shownAll ds)) ++ _).cps.toList
  rw [PyProof.Rows.cps_toList_append, PyProof.Rows.cps_toList_append]
  exact List.mem_append_left _ (List.mem_append_left _ (by decide +kernel))
theorem tl_lst2 (ds : List PyData) : tl (PyData.list ds).shown = 91 :: (joinL [44, 32] ((PyData.shownAll ds).map tl) ++ [93]) := by
  have e : (PyData.list ds).shown = listText (PyData.shownAll ds) := by simp only [PyData.shown]
  rw [e, listText_eq_join]
  show ((("[" : Str) ++ Str.join ", " (PyData.shownAll ds)) ++ _).cps.toList = _
  rw [PyProof.Rows.cps_toList_append, PyProof.Rows.cps_toList_append]
  show [91] ++ tl (Str.join ", " (PyData.shownAll ds)) ++ _ = _
  rw [tl_join]
  rfl
theorem low_join : ∀ {ps : List (List Nat)}, (∀ p ∈ ps, ∀ c ∈ p, c < 128) → ∀ c ∈ joinL [44, 32] ps, c < 128
  | [], _, c, h => by cases h
  | [p], h, c, hc => h p List.mem_cons_self c hc
  | p :: q :: r, h, c, hc => by
    rcases List.mem_append.mp hc with hc | hc
    · exact h p List.mem_cons_self c hc
    · rcases List.mem_append.mp hc with hc | hc
      · rcases List.mem_cons.mp hc with rfl | hc
        · decide
        · rw [List.mem_singleton.mp hc]
          decide
      · exact low_join (fun p hp => h p (List.mem_cons_of_mem _ hp)) c hc
theorem low_tup {ds : List PyData} (h : ∀ p ∈ (PyData.shownAll ds).map tl, ∀ c ∈ p, c < 128) : ∀ c ∈ tl (PyData.tuple ds).shown, c < 128 := by
  rw [tl_tup]
  intro c hc
  rcases List.mem_cons.mp hc with rfl | hc
  · decide
  · rcases List.mem_append.mp hc with hc | hc
    · exact low_join h c hc
    · cases e : (PyData.shownAll ds).length == 1 with
      | true =>
        rw [e] at hc
        have hc : c ∈ [44, 41] := hc
        rcases List.mem_cons.mp hc with rfl | hc
        · decide
        · rw [List.mem_singleton.mp hc]
          decide
      | false =>
        rw [e] at hc
        have hc : c ∈ [41] := hc
        rw [List.mem_singleton.mp hc]
        decide
theorem low_lst {ds : List PyData} (h : ∀ p ∈ (PyData.shownAll ds).map tl, ∀ c ∈ p, c < 128) : ∀ c ∈ tl (PyData.list ds).shown, c < 128 := by
  rw [tl_lst2]
  intro c hc
  rcases List.mem_cons.mp hc with rfl | hc
  · decide
  · rcases List.mem_append.mp hc with hc | hc
    · exact low_join h c hc
    · rw [List.mem_singleton.mp hc]
      decide
theorem dig_app (a b : List Nat) : dig (a ++ b) = dig a ++ dig b := List.filter_append ..
theorem dig_join : ∀ ps : List (List Nat), dig (joinL [44, 32] ps) = (ps.map dig).flatten
  | [] => rfl
  | [p] => by
    show dig p = dig p ++ []
    rw [List.append_nil]
  | p :: q :: r => by
    show dig (p ++ ([44, 32] ++ joinL [44, 32] (q :: r))) = dig p ++ ((q :: r).map dig).flatten
    rw [dig_app, dig_app, dig_join (q :: r)]
    rfl
theorem mem_join {c : Nat} : ∀ {ps : List (List Nat)} {p : List Nat}, p ∈ ps → c ∈ p → c ∈ joinL [44, 32] ps
  | [p], q, h, hc => by
    have e := List.mem_singleton.mp h
    rw [← e]
    exact hc
  | p :: q :: r, x, h, hc => by
    rcases List.mem_cons.mp h with rfl | h
    · exact List.mem_append_left _ hc
    · exact List.mem_append_right _ (List.mem_append_right _ (mem_join h hc))
theorem ok_join : ∀ {ps : List (List Nat)}, (∀ p ∈ ps, ∀ c ∈ p, okc c = true) → ∀ c ∈ joinL [44, 32] ps, okc c = true
  | [], _, c, h => by cases h
  | [p], h, c, hc => h p List.mem_cons_self c hc
  | p :: q :: r, h, c, hc => by
    rcases List.mem_append.mp hc with hc | hc
    · exact h p List.mem_cons_self c hc
    · rcases List.mem_append.mp hc with hc | hc
      · rcases List.mem_cons.mp hc with rfl | hc
        · rfl
        · rw [List.mem_singleton.mp hc]
          rfl
      · exact ok_join (fun p hp => h p (List.mem_cons_of_mem _ hp)) c hc
theorem shown_ints : ∀ {p : List Nat}, (∀ n ∈ p, n < 4) → (PyData.shownAll (nints p)).map tl = p.map fun n => [48 + n]
  | [], _ => by simp [nints, PyData.shownAll]
  | n :: p, h => by
    have := shown_ints (p := p) fun k hk => h k (List.mem_cons_of_mem _ hk)
    unfold nints at *
    simp only [List.map_cons, PyData.shownAll, this, shown_nat (h n List.mem_cons_self)]
theorem dig_pl {p : List Nat} (h : ∀ n ∈ p, n < 4) : dig (tl (plD p).shown) = p.map (48 + ·) := by
  show dig (tl (PyData.tuple (nints p)).shown) = _
  rw [tl_tup, shown_ints h]
  show dig ([40] ++ (joinL [44, 32] (p.map fun n => [48 + n]) ++ _)) = _
  rw [dig_app, dig_app, dig_join]
  have e1 : dig (if (PyData.shownAll (nints p)).length == 1 then [44, 41] else [41]) = [] := by
    cases (PyData.shownAll (nints p)).length == 1 <;> rfl
  rw [e1, List.append_nil, List.map_map]
  show ([] : List Nat) ++ _ = _
  rw [List.nil_append]
  clear e1
  induction p with
  | nil => rfl
  | cons n p ih =>
    rw [List.map_cons, List.map_cons, List.flatten_cons, ih fun k hk => h k (List.mem_cons_of_mem _ hk)]
    have hn := h n List.mem_cons_self
    show dig [48 + n] ++ _ = [48 + n] ++ _
    congr 1
    unfold dig
    rw [List.filter_cons, if_pos]
    · rfl
    · rw [decide_eq_true (show 48 ≤ 48 + n by omega), decide_eq_true (show 48 + n ≤ 57 by omega)]
      rfl
theorem okc_pl {p : List Nat} (h : ∀ n ∈ p, n < 4) : ∀ c ∈ tl (plD p).shown, okc c = true := by
  show ∀ c ∈ tl (PyData.tuple (nints p)).shown, okc c = true
  rw [tl_tup, shown_ints h]
  intro c hc
  rcases List.mem_cons.mp hc with rfl | hc
  · rfl
  · rcases List.mem_append.mp hc with hc | hc
    · refine ok_join (fun q hq c hc => ?_) c hc
      obtain ⟨n, hn, rfl⟩ := List.mem_map.mp hq
      have := h n hn
      rw [List.mem_singleton.mp hc]
      unfold okc
      rw [decide_eq_true (show 48 ≤ 48 + n by omega), decide_eq_true (show 48 + n ≤ 57 by omega)]
      simp
    · cases e : (PyData.shownAll (nints p)).length == 1 with
      | true =>
        rw [e] at hc
        have hc : c ∈ [44, 41] := hc
        rcases List.mem_cons.mp hc with rfl | hc
        · rfl
        · rw [List.mem_singleton.mp hc]
          rfl
      | false =>
        rw [e] at hc
        have hc : c ∈ [41] := hc
        rw [List.mem_singleton.mp hc]
        rfl
theorem pl_inj {p q : List Nat} (hp : ∀ n ∈ p, n < 4) (hq : ∀ n ∈ q, n < 4) (h : (plD p).shown = (plD q).shown) : p = q := by
  have e := dig_pl hp
  rw [h, dig_pl hq] at e
  exact (List.map_inj_right fun x y z => by omega).mp e.symm
/-- it has a sign that no place has -/
def oddD (d : PyData) : Prop := ∃ c ∈ tl d.shown, okc c = false
theorem odd_no {d : PyData} {p : List Nat} (h : oddD d) (hp : ∀ n ∈ p, n < 4) : d.shown ≠ (plD p).shown := fun e => by
  obtain ⟨c, hc, hb⟩ := h
  rw [e] at hc
  rw [okc_pl hp c hc] at hb
  cases hb
theorem odd_at {d : PyData} {m : Tm} (h : oddD d) : atT m d = none := by
  cases q : atT m d with
  | none => rfl
  | some m' =>
    obtain ⟨h1, _, h3⟩ := at_num q
    refine absurd ?_ (odd_no h fun n hn => Nat.lt_succ_of_lt (h3 n hn))
    rw [← h1]
theorem odd_tup {ds : List PyData} {d : PyData} (h : d ∈ ds) (o : oddD d) : oddD (.tuple ds) := by
  obtain ⟨c, hc, hb⟩ := o
  refine ⟨c, ?_, hb⟩
  rw [tl_tup]
  refine List.mem_cons_of_mem _ (List.mem_append_left _ (mem_join (List.mem_map.mpr ⟨d.shown, ?_, rfl⟩) hc))
  clear hc hb
  induction ds with
  | nil => cases h
  | cons e ds ih =>
    rw [show PyData.shownAll (e :: ds) = e.shown :: PyData.shownAll ds by simp only [PyData.shownAll]]
    rcases List.mem_cons.mp h with rfl | h
    · exact List.mem_cons_self
    · exact List.mem_cons_of_mem _ (ih h)
theorem odd_list (ds : List PyData) : oddD (.list ds) := ⟨91, tl_lst ds, rfl⟩
theorem odd_non : oddD .none := ⟨78, by decide +kernel, rfl⟩
theorem odd_true : oddD (.bool true) := ⟨84, by decide +kernel, rfl⟩
theorem odd_neg : oddD (.int (-1)) := ⟨45, by decide +kernel, rfl⟩
theorem odd_zero : oddD (.str "0") := ⟨39, by decide +kernel, rfl⟩
theorem odd_a : oddD (.str "a") := ⟨39, by decide +kernel, rfl⟩
end L3

/-! a list of anything beside the empty one -/
namespace L3
open PySem PySem.Spec PyProof.Rows L2
open PySem.SeqAt
def rEqNilL (K : PySem.W.Frag) : R2 := fun x y H Q => ∃ (a b : Addr) (xs : List V), x = .ref a ∧ y = .ref b ∧ SqL K H a xs ∧ SqL K H b [] ∧ Q (.bl xs.isEmpty) H
theorem op_eqNilL {X : Cx} (hu : X.A.units + 64 < cLine) : OpR X (compareOp .Eq) (rEqNilL X.K) := by
  intro pins s σ H x y v u Q I rx ry h
  obtain ⟨a, b, xs, rfl, rfl, ha, hb, q⟩ := h
  obtain rfl : v = Value.ref a := rx
  obtain rfl : u = Value.ref b := ry
  obtain ⟨its, rv, ⟨o, n, ho, hc, _, hd⟩, _⟩ := I.list ha
  obtain ⟨its2, rv2, ⟨o2, n2, ho2, hc2, _, hd2⟩, _⟩ := I.list hb
  cases rv2
  cases rv with
  | nil =>
    refine RcAt.lists (e := fun _ => true) ⟨o, ho, hc, n, hd⟩ ⟨o2, ho2, hc2, n2, hd2⟩ rfl (by omega) (fun j h1 h2 => absurd h2 (by simp)) _ _ _ _ ?_
    exact ⟨.bl true, H, I, rfl, q⟩
  | cons r1 rr =>
    refine RcAt.lists_lengths ⟨o, ho, hc, n, hd⟩ ⟨o2, ho2, hc2, n2, hd2⟩ (by simp) (by omega) _ _ _ _ ?_
    exact ⟨.bl false, H, I, rfl, q⟩
end L3

/-! a list of anything != [] -/
namespace L3
open PySem PySem.Spec PyProof.Rows L2
open PySem.SeqAt
def rNeNilL (K : PySem.W.Frag) : R2 := fun x y H Q => ∃ (a b : Addr) (xs : List V), x = .ref a ∧ y = .ref b ∧ SqL K H a xs ∧ SqL K H b [] ∧ Q (.bl (!xs.isEmpty)) H
theorem op_neNilL {X : Cx} (hu : X.A.units + 64 < cLine) : OpR X (compareOp .NotEq) (rNeNilL X.K) := by
  intro pins s σ H x y v u Q I rx ry h
  obtain ⟨a, b, xs, rfl, rfl, ha, hb, q⟩ := h
  obtain rfl : v = Value.ref a := rx
  obtain rfl : u = Value.ref b := ry
  obtain ⟨its, rv, ⟨o, n, ho, hc, _, hd⟩, _⟩ := I.list ha
  obtain ⟨its2, rv2, ⟨o2, n2, ho2, hc2, _, hd2⟩, _⟩ := I.list hb
  cases rv2
  cases rv with
  | nil =>
    refine RcNeAt.lists (e := fun _ => true) ⟨o, ho, hc, n, hd⟩ ⟨o2, ho2, hc2, n2, hd2⟩ rfl (by omega) (fun j h1 h2 => absurd h2 (by simp)) _ _ _ _ ?_
    exact ⟨.bl false, H, I, rfl, q⟩
  | cons r1 rr =>
    refine RcNeAt.lists_lengths ⟨o, ho, hc, n, hd⟩ ⟨o2, ho2, hc2, n2, hd2⟩ (by simp) (by omega) _ _ _ _ ?_
    exact ⟨.bl true, H, I, rfl, q⟩
end L3

namespace L3
open PySem L2
/-- a place and what stands there -/
def SpotAt (t : Addr) (H : Hp) (v : V) (q : List Nat × Tm) : Prop := ∃ a u w, v = .ref a ∧ H a = some (.tup [u, w]) ∧ PlAt H u q.1 ∧ Da t H w q.2.d
def TupsKept (H H' : Hp) : Prop := ∀ a xs, H a = some (.tup xs) → H' a = some (.tup xs)
theorem SpotAt.tups {t : Addr} {H H' : Hp} {v : V} {q : List Nat × Tm} (h : SpotAt t H v q) (k : TupsKept H H') : SpotAt t H' v q := by
  obtain ⟨a, u, w, rfl, g, ⟨b, rfl, gb⟩, d⟩ := h
  exact ⟨a, _, w, rfl, k _ _ g, ⟨b, rfl, k _ _ gb⟩, d.tups k (Tm.noL _) (Tm.noDict _)⟩
theorem spots_tups {t : Addr} {H H' : Hp} (k : TupsKept H H') : ∀ {us : List V} {qs : List (List Nat × Tm)}, Paired (SpotAt t H) us qs → Paired (SpotAt t H') us qs
  | _, _, .nil => .nil
  | _, _, .cons a r => .cons (a.tups k) (spots_tups k r)
theorem paired_app {α β : Type} {R : α → β → Prop} : ∀ {as cs : List α} {bs ds : List β}, Paired R as bs → Paired R cs ds → Paired R (as ++ cs) (bs ++ ds)
  | _, _, _, _, .nil, h => h
  | _, _, _, _, .cons a r, h => .cons a (paired_app r h)
theorem tk_same {H H' : Hp} (s : Same H H') : TupsKept H H' := fun a xs h => s _ _ h
theorem tk_upd {H : Hp} {l : Addr} {xs ys : List V} (g : H l = some (.lst xs)) : TupsKept H (upd H l (.lst ys)) := fun a zs z => by
  rw [upd_ne (fun e => by rw [e, g] at z; cases z)]
  exact z
theorem kids_get (p : List Nat) : ∀ (k i : Nat) (ms : List Tm), (kids p k ms)[i]? = (ms[i]?).map fun m => (p ++ [k + i], m)
  | _, _, [] => rfl
  | k, 0, m :: ms => rfl
  | k, i + 1, m :: ms => by
    show (kids p (k + 1) ms)[i]? = (ms[i]?).map _
    rw [kids_get p (k + 1) i ms, show k + 1 + i = k + (i + 1) by omega]
theorem kids_len (p : List Nat) : ∀ (k : Nat) (ms : List Tm), (kids p k ms).length = ms.length
  | _, [] => rfl
  | k, m :: ms => by
    show (kids p (k + 1) ms).length + 1 = _
    rw [kids_len p (k + 1) ms]
    rfl
theorem parts3 (m : Tm) : m.parts.length ≤ 3 := by cases m <;> simp [Tm.parts]
def SpInv (t : Addr) (v : V) (lf lw : Addr) (H : Hp) (m : Tm) (n : Nat) : L2.St → Hp → Prop := fun σ H' => ∃ us ws fs st v3 v4 v5 v6, σ = [some v, some (.ref lf), some (.ref lw), v3, v4, v5, v6] ∧ Same H H' ∧ H' lf = some (.lst us) ∧ H' lw = some (.lst ws) ∧ Paired (SpotAt t H') us fs ∧ Paired (SpotAt t H') ws st.reverse ∧ fs ++ flat st = m.spots ∧ (∀ q ∈ st, q.1.length + q.2.deep ≤ m.deep) ∧ n = (flat st).length
theorem flat_len : ∀ st : List (List Nat × Tm), st.length ≤ (flat st).length
  | [] => Nat.le_refl _
  | q :: st => by
    have := flat_len st
    have e : flat (q :: st) = under q.1 q.2.spots ++ flat st := rfl
    rw [e, flat_step, List.length_append, List.length_cons, List.length_cons]
    omega
section
variable {P : Program} {w : World} {K : PySem.W.Frag} {mg : Str → Option Value} {base : Heap}
abbrev s__law_spots : Stmt := topS 39
abbrev N__law_spots : List Str := ["_law_term", "_law_found", "_law_waiting", "_law_spot", "_law_here", "_law_below", "_law_k"]
theorem sc__law_spots : FnScope N__law_spots ["_law_term"] (defScope s__law_spots) := ⟨rfl, rfl, rfl, by decide +kernel, rfl, by decide +kernel, by decide +kernel⟩
def spSpots : Sp := fun vs H Q _ => ∃ (t : Addr) (v : V) (m : Tm), vs = [v] ∧ Da t H v m.d ∧ m.deep ≤ 6 ∧ ∀ H' l us, Same H H' → H' l = some (.lst us) → H l = none → Paired (SpotAt t H') us m.spots → Q (.ref l) H'
theorem ok_lspots {f : Addr} {fd : FuncData} (F : Fun K "_law_spots" "_law_spots" s__law_spots f fd) (B : Bl mg) (D__law_parts_of : Kn P w K mg base 1 "_law_parts_of" ["_law_term"] spParts2) : FnOk P w K mg base CX0 2 f fd ["_law_term"] spSpots := by
  refine F.ok sc__law_spots (fun vs H Q E h => ?_) (fun cdv A outer s H vs Q E hr h => ?_)
  · obtain ⟨t, v, m, rfl, _⟩ := h
    rfl
  · obtain ⟨t, v, m, rfl, hd, h6, k⟩ := h
    have hu64 := hr.units
    have hr__law_parts_of : Room 1 _ := hr
    refine ⟨_, (pss_cons (ps_par (i := 1) (j := 2) (by rfl) sc__law_spots.nd rfl rfl (by decide) rfl rfl (pa_cons (pe_lst pa_nil) (pa_cons (pe_lst (pa_cons (pe_tup (pa_cons (pe_tup pa_nil) (pa_cons (pv 0) pa_nil))) pa_nil)) pa_nil)) (by rfl))
  (pss_cons (ps_while PassesOwn.never (pt_cmpR (op_neNilL hu64) (pv 2) (pe_lst pa_nil) (nomark _))
  (pss_cons (ps_asg (pe_bm0 PySem.F.plainAttrs_list PySem.F.slot_list_pop PySem.F.type_list_pop mt_pop (pv 2)) (pg_tup (by rfl) (pgs_cons (pg_name (i := 3) sc__law_spots.nd rfl (Or.inr rfl)) (pgs_cons (pg_name (i := 4) sc__law_spots.nd rfl (Or.inl rfl)) pgs_nil))))
  (pss_cons (ps_expr (pe_bm PySem.F.plainAttrs_list PySem.F.slot_list_append PySem.F.type_list_append mt_append (pv 1) (pa_cons (pe_tup (pa_cons (pv 3) (pa_cons (pv 4) pa_nil))) pa_nil)))
  (pss_cons (ps_set (i := 5) sc__law_spots.nd rfl (Or.inr rfl) (pe_kn D__law_parts_of hr__law_parts_of (pa_cons (pv 4) pa_nil)))
  (pss_one (ps_expr (pe_bm PySem.F.plainAttrs_list PySem.F.slot_list_extend PySem.F.type_list_extend mt_extend (pv 2) (pa_cons (pe_lc (own := [("_law_k", 6)]) rfl sc__law_spots.nd (pi_range3 (by rfl) B.range (pa_cons (pe_op op_sub (pe_callB call_len (by rfl) B.len PySem.boot_len (pa_cons (pv 5) pa_nil)) pe_int) (pa_cons (pe_un un_neg pe_int) (pa_cons (pe_un un_neg pe_int) pa_nil)))) (blkOk_by (N := N__law_spots) (sc := (defScope s__law_spots)) (own := [("_law_k", 6)]) (by decide +kernel)) (fun _ _ _ _ _ => (pg_name (i := 6) sc__law_spots.nd rfl (Or.inl rfl))) (fun _ _ _ _ _ => pts_nil) (fun _ _ _ _ _ => (pe_tup (pa_cons (pe_op (show OpR _ _ (rCatA K) from op_catA) (pv 3) (pe_tup (pa_cons (pv 6) pa_nil))) (pa_cons (pe_ix (show IxR _ (rIxL K) from ix_list) (pv 5) (pv 6) (fun _ _ => rfl)) pa_nil))))) pa_nil))))))))
  (pss_one (ps_ret (pv 1))))), ?_⟩
    refine ⟨slz rfl, fun lf hlf => ⟨slz rfl, fun pe hpe => ⟨_, rfl, slz rfl, fun pq hpq => ⟨slz rfl, fun lw hlw => ⟨_, _, rfl, ?_⟩⟩⟩⟩⟩
    have sA := same_new (o := .lst []) hlf
    have sB := same_new (o := .tup []) hpe
    have sC := same_new (o := .tup [.ref pe, v]) hpq
    have sD := same_new (o := .lst [.ref pq]) hlw
    have s1 := sA.trans (sB.trans (sC.trans sD))
    have gf1 := sD _ _ (sC _ _ (sB _ _ (upd_same (H := H) (a := lf) (o := .lst []))))
    have gpe := sD _ _ (sC _ _ (upd_same (H := upd H lf (.lst [])) (a := pe) (o := .tup [])))
    have gpq := sD _ _ (upd_same (H := upd (upd H lf (.lst [])) pe (.tup [])) (a := pq) (o := .tup [.ref pe, v]))
    have gw1 := upd_same (H := upd (upd (upd H lf (.lst [])) pe (.tup [])) pq (.tup [.ref pe, v])) (a := lw) (o := .lst [.ref pq])
    have nfw : lf ≠ lw := ne_of_none (sC _ _ (sB _ _ (upd_same (H := H) (a := lf) (o := .lst [])))) hlw
    have hlw0 : H lw = none := (sA.trans (sB.trans sC)).free hlw
    generalize upd (upd (upd (upd H lf (.lst [])) pe (.tup [])) pq (.tup [.ref pe, v])) lw (.lst [.ref pq]) = H1 at s1 gf1 gpe gpq gw1 ⊢
    have sp0 : SpotAt t H1 (.ref pq) ([], m) := ⟨pq, .ref pe, v, rfl, gpq, ⟨pe, rfl, gpe⟩, hd.kp (kp_same s1)⟩
    have nl : ∀ {a : Addr} {o : HO}, H a = some o → a ≠ lf ∧ a ≠ lw := fun z => ⟨ne_of_none z hlf, ne_of_none z hlw0⟩
    refine ⟨SpInv t v lf lw H m, ⟨_, [], [.ref pq], [], [([], m)], _, _, _, _, rfl, s1, gf1, gw1, .nil, .cons sp0 .nil, by simp [flat, under_nil], fun q hq => (by rw [List.mem_singleton.mp hq]; simp), rfl⟩, ?_⟩
    rintro n σ H2 ⟨us, ws, fs, st, v3, v4, v5, v6, rfl, s2, gf, gw, pf, pw, eq, dp, rfl⟩
    have tot := spots_len m
    have p7 : 4 ^ (m.deep + 1) ≤ 4 ^ 7 := Nat.pow_le_pow_right (by omega) (by omega)
    have p7' : (4 : Nat) ^ 7 = 16384 := by decide
    have lfs : us.length + (flat st).length ≤ 16384 := by
      have := congrArg List.length eq
      rw [List.length_append] at this
      rw [Paired.length pf]
      omega
    have lst := flat_len st
    refine ⟨_, rfl, slz rfl, fun q hq => ⟨lw, q, ws, rfl, rfl, SqL.of (same_new hq _ _ gw), SqL.of upd_same, _, rfl, ?_⟩⟩
    have s3 := same_new (o := .lst []) hq
    have S3 := s2.trans s3
    have gf3 := s3 _ _ gf
    have gw3 := s3 _ _ gw
    have pf3 := spots_tups (tk_same s3) pf
    have pw3 := spots_tups (tk_same s3) pw
    generalize upd H2 q (.lst []) = H3 at s3 S3 gf3 gw3 pf3 pw3 ⊢
    cases st with
    | nil =>
      cases pw3
      refine iF rfl ?_
      have e : fs = m.spots := by
        have e2 : fs ++ [] = m.spots := eq
        rw [List.append_nil] at e2
        exact e2
      rw [e] at pf3
      exact ⟨_, rfl, k H3 lf us S3 gf3 hlf pf3⟩
    | cons qm st =>
      obtain ⟨p, m1⟩ := qm
      rw [List.reverse_cons] at pw3
      obtain ⟨ws0, x, rfl, pw0, hx⟩ := paired_last pw3
      have hne : (!(ws0 ++ [x]).isEmpty) = true := by cases ws0 <;> rfl
      refine iT hne ?_
      have efl : flat ((p, m1) :: st) = (p, m1) :: (flat (kids p 0 m1.parts ++ st)) := by
        show under p m1.spots ++ flat st = _
        rw [flat_step, flat_app]
        rfl
      rw [efl] at eq lfs
      have e1 : (flat ((p, m1) :: st)).length = (flat (kids p 0 m1.parts ++ st)).length + 1 := by rw [efl]; rfl
      refine ⟨SpInv t v lf lw H m (flat (kids p 0 m1.parts ++ st)).length, fun σ' H' h => ⟨_, by rw [e1]; omega, h⟩, ?_⟩
      obtain ⟨a, u, w', rfl, ga, pu, dw⟩ := hx
      refine ⟨_, rfl, .inl ⟨rfl, _, SqL.of gw3⟩, lw, ws0 ++ [.ref a], .ref a, rfl, rfl, gw3, by simp, ?_⟩
      rw [List.dropLast_concat]
      have k4 := tk_upd (ys := ws0) gw3
      have S4 : Same H (upd H3 lw (.lst ws0)) := fun b o z => by
        rw [upd_ne (nl z).2]
        exact S3 _ _ z
      have gf4 : (upd H3 lw (.lst ws0)) lf = some (.lst us) := by
        rw [upd_ne nfw]
        exact gf3
      have gw4 : (upd H3 lw (.lst ws0)) lw = some (.lst ws0) := upd_same
      have pf4 := spots_tups k4 pf3
      have pw4 := spots_tups k4 pw0
      have hx4 : SpotAt t (upd H3 lw (.lst ws0)) (.ref a) (p, m1) := SpotAt.tups ⟨a, u, w', rfl, ga, pu, dw⟩ k4
      have ga4 := k4 _ _ ga
      have dw4 : Da t (upd H3 lw (.lst ws0)) w' m1.d := dw.tups k4 (Tm.noL _) (Tm.noDict _)
      have pu4 : PlAt (upd H3 lw (.lst ws0)) u p := by
        obtain ⟨b, rfl, gb⟩ := pu
        exact ⟨b, rfl, k4 _ _ gb⟩
      generalize upd H3 lw (.lst ws0) = H4 at S4 gf4 gw4 pf4 pw4 hx4 ga4 dw4 pu4 ⊢
      refine ⟨a, _, rfl, SqT.of ga4, rfl, _, _, rfl, _, _, rfl, rfl, ?_⟩
      refine ⟨_, rfl, .inl ⟨rfl, _, SqL.of gf4⟩, _, rfl, _, rfl, slz rfl, fun r hr => ⟨lf, us, .ref r, rfl, rfl, same_new hr _ _ gf4, szl (by omega), ?_⟩⟩
      have s5 := same_new (o := .tup [u, w']) hr
      have k5 : TupsKept H4 (upd (upd H4 r (.tup [u, w'])) lf (.lst (us ++ [.ref r]))) := fun b xs z => tk_upd (s5 _ _ gf4) b xs (s5 _ _ z)
      have S5 : Same H (upd (upd H4 r (.tup [u, w'])) lf (.lst (us ++ [.ref r]))) := fun b o z => by
        rw [upd_ne (nl z).1]
        exact s5 _ _ (S4 _ _ z)
      have gf5 : (upd (upd H4 r (.tup [u, w'])) lf (.lst (us ++ [.ref r]))) lf = some (.lst (us ++ [.ref r])) := upd_same
      have gw5 : (upd (upd H4 r (.tup [u, w'])) lf (.lst (us ++ [.ref r]))) lw = some (.lst ws0) := by
        rw [upd_ne nfw.symm]
        exact s5 _ _ gw4
      have gr5 : (upd (upd H4 r (.tup [u, w'])) lf (.lst (us ++ [.ref r]))) r = some (.tup [u, w']) := tk_upd (s5 _ _ gf4) _ _ upd_same
      have dw5 := dw4.tups k5 (Tm.noL m1) (Tm.noDict m1)
      have pu5 : PlAt (upd (upd H4 r (.tup [u, w'])) lf (.lst (us ++ [.ref r]))) u p := by
        obtain ⟨b, rfl, gb⟩ := pu4
        exact ⟨b, rfl, k5 _ _ gb⟩
      have pf5 := paired_app (spots_tups k5 pf4) (.cons (show SpotAt t _ (.ref r) (p, m1) from ⟨r, u, w', rfl, gr5, pu5, dw5⟩) .nil)
      have pw5 := spots_tups k5 pw4
      generalize upd (upd H4 r (.tup [u, w'])) lf (.lst (us ++ [.ref r])) = H5 at S5 gf5 gw5 pf5 pw5 dw5 pu5 ⊢
      refine ⟨_, rfl, t, w', m1, rfl, dw5, fun H6 l ps s6 gl fl dl => ?_⟩
      have S6 := S5.trans s6
      have gf6 := s6 _ _ gf5
      have gw6 := s6 _ _ gw5
      have pf6 := spots_tups (tk_same s6) pf5
      have pw6 := spots_tups (tk_same s6) pw5
      have dl6 := dl.kp (kp_same s6)
      have pu6 := pu5.same s6
      have ln : ps.length = m1.parts.length := by
        have := dl.len
        unfold dsP at this
        rw [List.length_map] at this
        omega
      have l3 := parts3 m1
      have rg : RgC ((ps.length : Int) - 1) (-1) (-1) ps.length := by
        have := RgC.neg (i := (ps.length : Int) - 1) (j := -1) (by omega) (by omega) (by omega) (by omega)
        rw [show (((ps.length : Int) - 1) - -1).toNat = ps.length by omega] at this
        exact this
      refine ⟨_, rfl, .inl ⟨rfl, _, SqL.of gw6⟩, ?_⟩
      refine ⟨_, rfl, .ref l, ps.length, rfl, .inl ⟨_, SqL.of gl, rfl⟩, _, _, rfl, rfl, _, rfl, _, rfl, _, _, _, _, rfl, rg, fun D hD => ?_⟩
      refine lc_it walk_rangeC (g := gName 6) (fun j H' => Same H6 H' ∧ ∃ zs, H' D = some (.lst zs) ∧ Paired (SpotAt t H') zs ((kids p 0 m1.parts).reverse.take j)) ⟨same_new hD, [], upd_same, .nil⟩ (fun j H' _ h => trivial) ?_ ?_
      · rintro j y H7 H8 hj ⟨s7, zs, gD, pz⟩ ⟨rfl, ey0⟩
        have ey0 : y = .int ((ps.length : Int) - 1 + (j : Int) * -1) := ey0
        obtain ⟨idx, hidx⟩ : ∃ idx, idx + j + 1 = ps.length := ⟨ps.length - 1 - j, by omega⟩
        have ey : (ps.length : Int) - 1 + (j : Int) * -1 = (idx : Int) := by omega
        rw [ey] at ey0
        subst ey0
        refine ⟨rfl, ?_⟩
        have hx2 : idx < m1.parts.length := by omega
        obtain ⟨pb, rfl, gpb⟩ := pu6
        have gpb8 := s7 _ _ gpb
        refine ⟨_, rfl, _, rfl, slz rfl, fun r1 hr1 => ?_⟩
        have s9 := same_new (o := .tup [.int (idx : Int)]) hr1
        have lp : (plV p).length ≤ 800000 := by
          have : p.length + m1.deep ≤ m.deep := dp (p, m1) List.mem_cons_self
          unfold plV
          rw [List.length_map]
          omega
        refine catA_ok (s9 _ _ gpb8) upd_same (by simp only [List.length_cons, List.length_nil]; omega) fun H10 q10 s10 g10 => ?_
        have S10 := s9.trans s10
        have epl : plV p ++ [V.int (idx : Int)] = plV (p ++ [idx]) := by
          unfold plV
          rw [List.map_append]
          rfl
        rw [epl] at g10
        refine ⟨_, rfl, _, rfl, l, ps, (idx : Int), ps[idx], rfl, rfl, SqL.of (S10 _ _ (s7 _ _ gl)), at_of rfl (List.getElem?_eq_getElem (by omega)), slz rfl, fun T hT => ?_⟩
        have s11 := same_new (o := .tup [.ref q10, ps[idx]]) hT
        have S11 := S10.trans s11
        have gD11 := S11 _ _ gD
        have pz11 := spots_tups (tk_same S11) pz
        have ekd : (kids p 0 m1.parts).reverse[j]? = some (p ++ [idx], m1.parts[idx]) := by
          rw [List.getElem?_reverse (by rw [kids_len]; omega), kids_len, kids_get, show m1.parts.length - 1 - j = idx by omega, List.getElem?_eq_getElem hx2, Nat.zero_add]
          rfl
        have dx : Da t (upd H10 T (.tup [.ref q10, ps[idx]])) ps[idx] (m1.parts[idx]).d := by
          obtain ⟨dd, ed, dy⟩ := da_at dl6 (List.getElem?_eq_getElem (show idx < ps.length by omega))
          unfold dsP at ed
          rw [List.getElem?_map, List.getElem?_eq_getElem hx2] at ed
          rw [← Option.some.inj ed] at dy
          exact dy.kp (kp_same (s7.trans S11))
        refine ⟨zs, gD11, szl ?_, fun b o z => ?_, zs ++ [.ref T], upd_same, ?_⟩
        · rw [Paired.length pz, List.length_take, List.length_reverse, kids_len]
          omega
        · rw [upd_ne (ne_of_none z hD)]
          exact S11 _ _ (s7 _ _ z)
        · have kD := tk_upd (ys := zs ++ [.ref T]) gD11
          rw [List.take_add_one, ekd]
          refine paired_app (spots_tups kD pz11) (.cons (SpotAt.tups ⟨T, .ref q10, ps[idx], rfl, upd_same, ⟨q10, rfl, s11 _ _ g10⟩, dx⟩ kD) .nil)
      · rintro H7 ⟨s7, zs, gD, pz⟩
        rw [List.take_of_length_le (by rw [List.length_reverse, kids_len]; omega)] at pz
        have gw7 := s7 _ _ gw6
        have lz := Paired.length pz
        rw [List.length_reverse, kids_len] at lz
        have lw0 := Paired.length pw6
        rw [List.length_reverse] at lw0
        have lst2 := flat_len (kids p 0 m1.parts ++ st)
        rw [List.length_append, kids_len] at lst2
        rw [List.length_cons] at lfs
        refine ⟨lw, D, ws0, zs, rfl, rfl, gw7, gD, by rw [sizeLine_eq]; omega, ?_⟩
        have k8 := tk_upd (ys := ws0 ++ zs) gw7
        refine ⟨us ++ [.ref r], ws0 ++ zs, fs ++ [(p, m1)], kids p 0 m1.parts ++ st, _, _, _, _, rfl, fun b o z => ?_, ?_, upd_same, ?_, ?_, ?_, fun q hq => ?_, rfl⟩
        · rw [upd_ne (nl z).2]
          exact s7 _ _ (S6 _ _ z)
        · rw [upd_ne nfw]
          exact s7 _ _ gf6
        · exact spots_tups k8 (spots_tups (tk_same s7) pf6)
        · rw [List.reverse_append]
          exact spots_tups k8 (paired_app (spots_tups (tk_same s7) pw6) pz)
        · rw [List.append_assoc]
          exact eq
        · rcases List.mem_append.mp hq with hq | hq
          · obtain ⟨i, hi, e⟩ := kids_mem.mp hq
            have d1 := deep_part (List.mem_of_getElem? hi)
            have d2 : p.length + m1.deep ≤ m.deep := dp (p, m1) List.mem_cons_self
            rw [e, List.length_append]
            simp only [List.length_cons, List.length_nil]
            omega
          · exact dp q (List.mem_cons_of_mem _ hq)
end
end L3

namespace L3
open PySem L2
theorem holesL_len {ps : List (List Nat)} : ∀ (k : Nat) (ms : List Tm), (holesL ps k ms).length = ms.length
  | _, [] => rfl
  | k, m :: ms => by
    show (holesL ps (k + 1) ms).length + 1 = _
    rw [holesL_len (k + 1) ms]
    rfl
theorem noD_all : ∀ ms : List Tm, PyData.hasDictAll (ms.map Tm.d) = false
  | [] => by simp [PyData.hasDictAll]
  | m :: ms => by simp [PyData.hasDictAll, Tm.noDict m, noD_all ms]
section
variable {P : Program} {w : World} {K : PySem.W.Frag} {mg : Str → Option Value} {base : Heap}
abbrev s__law_holed : Stmt := topS 40
abbrev N__law_holed : List Str := ["_law_term", "_law_spots_here", "_law_parts", "_law_below", "_law_k", "_law_spot"]
theorem sc__law_holed : FnScope N__law_holed ["_law_term", "_law_spots_here"] (defScope s__law_holed) := ⟨rfl, rfl, rfl, by decide +kernel, rfl, by decide +kernel, by decide +kernel⟩
def spHoled (n : Nat) : Sp := fun vs H Q _ => ∃ (t : Addr) (v : V) (m : Tm) (r : Addr) (us : List V) (ps : List (List Nat)), vs = [v, .ref r] ∧ Da t H v m.d ∧ m.deep < n ∧ H r = some (.lst us) ∧ Paired (PlAt H) us ps ∧ ps.length ≤ 60 ∧ (∀ p ∈ ps, p.length ≤ 60) ∧ ∀ H' x, Same H H' → Da t H' x (m.holes ps).d → Q x H'
theorem ok_holed {n k : Nat} (hk : 1 ≤ k) {f : Addr} {fd : FuncData} (F : Fun K "_law_holed" "_law_holed" s__law_holed f fd) (B : Bl mg) (D__law_parts_of : Kn P w K mg base 1 "_law_parts_of" ["_law_term"] spParts2) (D__law_rebuilt : Kn P w K mg base 1 "_law_rebuilt" ["_law_term", "_law_parts"] spReb)
    (D__law_holed : Kn P w K mg base k "_law_holed" ["_law_term", "_law_spots_here"] (spHoled n)) : FnOk P w K mg base CX0 (k + 1) f fd ["_law_term", "_law_spots_here"] (spHoled (n + 1)) := by
  refine F.ok sc__law_holed (fun vs H Q E h => ?_) (fun cdv A outer s H vs Q E hr h => ?_)
  · obtain ⟨t, v, m, r, us, ps, rfl, _⟩ := h
    rfl
  · obtain ⟨t, v, m, r, us, ps, rfl, hd, hn, gr, pu, lp, lq, kk⟩ := h
    have hu64 := hr.units
    have hu65 : (A.deeper (PyProof.Rows.envOfC "_law_holed" (defScope s__law_holed) s.heap.objs.size f cdv)).units + 65 < cLine := by have := hr.un; omega
    have hr__law_parts_of : Room 1 _ := hr.mono hk
    have hr__law_rebuilt : Room 1 _ := hr.mono hk
    have hr__law_holed : Room k _ := hr
    refine ⟨_, (pss_cons (ps_if (pt_cmpR (op_inDA hu65) (pe_tup pa_nil) (pv 1) (by rfl))
  (pss_one (ps_ret (pe_tup (pa_cons pe_str pa_nil))))
  pss_nil)
  (pss_cons (ps_set (i := 2) sc__law_holed.nd rfl (Or.inl rfl) (pe_kn D__law_parts_of hr__law_parts_of (pa_cons (pv 0) pa_nil)))
  (pss_cons (ps_set (i := 3) sc__law_holed.nd rfl (Or.inl rfl) (pe_lst pa_nil))
  (pss_cons (ps_for PassesOwn.never rfl (pi_range1 (by rfl) B.range (pa_cons (pe_callB call_len (by rfl) B.len PySem.boot_len (pa_cons (pv 2) pa_nil)) pa_nil)) (pg_name (i := 4) sc__law_holed.nd rfl (Or.inr rfl))
  (pss_one (ps_expr (pe_bm PySem.F.plainAttrs_list PySem.F.slot_list_append PySem.F.type_list_append mt_append (pv 3) (pa_cons (pe_kn D__law_holed hr__law_holed (pa_cons (pe_ix ix_list (pv 2) (pv 4) (fun _ _ => rfl)) (pa_cons (pe_lc (own := [("_law_spot", 5)]) rfl sc__law_holed.nd (pi_list (pv 1)) (blkOk_by (N := N__law_holed) (sc := (defScope s__law_holed)) (own := [("_law_spot", 5)]) (by decide +kernel)) (fun _ _ _ _ _ => (pg_name (i := 5) sc__law_holed.nd rfl (Or.inl rfl))) (fun _ _ _ _ _ => (pts_one (pt_cmpR op_eq (pe_ix (show IxR _ (rIxT K) from ix_tup) (pv 5) pe_int (fun _ _ => rfl)) (pv 4) (nomark _)))) (fun _ _ _ _ _ => (pe_slice (show SlR _ (rSlA K) from sl_tupA) (pv 5) (po_some pe_int) po_none))) pa_nil))) pa_nil)))))
  (pss_one (ps_ret (pe_kn D__law_rebuilt hr__law_rebuilt (pa_cons (pv 0) (pa_cons (pv 3) pa_nil))))))))), ?_⟩
    refine ⟨slz rfl, fun q hq => ?_⟩
    have s1 := same_new (o := .tup []) hq
    have gq : (upd H q (.tup [])) q = some (.tup []) := upd_same
    generalize upd H q (.tup []) = H1 at s1 gq ⊢
    refine ⟨_, rfl, plD [], ps.map plD, PlAt.dp ⟨q, rfl, gq⟩, .inl ⟨.lst (SqL.of (s1 _ _ gr)) (dp_places (paired_same s1 pu)), (shaped_places ps).1⟩, shaped_pl [], _, rfl, ?_⟩
    rw [any_nil]
    by_cases h0 : [] ∈ ps
    · refine iT (decide_eq_true h0) ?_
      have e : m.holes ps = .hole := by cases m <;> simp only [Tm.holes, if_pos h0]
      refine ⟨slz rfl, fun q2 hq2 => ?_⟩
      refine kk _ _ (s1.trans (same_new hq2)) ?_
      rw [e]
      exact .tup upd_same (.cons (.str _) .nil)
    · refine iF (decide_eq_false h0) ?_
      refine ⟨_, rfl, t, v, m, rfl, hd.kp (kp_same s1), fun H2 lp ws s2 glp flp dlp => ?_⟩
      have S2 := s1.trans s2
      refine ⟨slz rfl, fun l hl => ?_⟩
      have s3 := same_new (o := .lst []) hl
      have gl : (upd H2 l (.lst [])) l = some (.lst []) := upd_same
      have nl : H l = none := S2.free hl
      have glp3 := s3 _ _ glp
      have nlp : lp ≠ l := ne_of_none glp hl
      have dlp3 := (dlp.kp (kp_same s2)).kp (kp_same s3)
      have S3 := S2.trans s3
      generalize upd H2 l (.lst []) = H3 at s3 gl glp3 dlp3 S3 ⊢
      have lw : ws.length = m.parts.length := by
        have := dlp.len
        unfold dsP at this
        rw [List.length_map] at this
        omega
      have l3 := parts3 m
      refine ⟨_, rfl, .ref lp, ws.length, rfl, .inl ⟨_, SqL.of glp3, rfl⟩, _, rfl, by omega, by omega, for_it (walk_range (lo := 0) (n := ws.length)) (fun i σ H' => (∀ b o, b ≠ l → H3 b = some o → H' b = some o) ∧ (∃ v4 v5, σ = [some v, some (.ref r), some (.ref lp), some (.ref l), v4, v5]) ∧ ∃ acc, H' l = some (.lst acc) ∧ DaAll t H' acc (((holesL ps 0 m.parts).take i).map Tm.d)) ⟨fun _ _ _ q => q, ⟨_, _, rfl⟩, [], gl, .nil⟩ (fun _ _ _ _ _ => trivial) ?_ ?_⟩
      · rintro i y σ H4 H5 hi ⟨kp, ⟨v4, v5, rfl⟩, acc, ga, dac⟩ ⟨rfl, ey⟩
        have ey : y = .int (i : Int) := by
          have e : y = .int (0 + (i : Int)) := ey
          rw [Int.zero_add] at e
          exact e
        subst ey
        have S4 : Same H H5 := fun b o z => kp b o (ne_of_none z nl) (S3 _ _ z)
        have hi2 : i < m.parts.length := by omega
        have lenD : ∀ j : Nat, (subP i (ps.take j)).length ≤ 60 := fun j => by
          unfold subP
          rw [List.length_map]
          exact Nat.le_trans (List.length_filter_le _ _) (by rw [List.length_take]; omega)
        have gr4 := S4 _ _ gr
        refine ⟨_, rfl, .inl ⟨rfl, _, SqL.of ga⟩, _, rfl, _, rfl, lp, ws, (i : Int), ws[i], rfl, rfl, SqL.of (kp _ _ nlp glp3), at_of rfl (List.getElem?_eq_getElem hi), _, rfl, r, rfl, ⟨_, SqL.of gr4⟩, fun D hD => ?_⟩
        refine lc_it (J := Itl K r) (g := gName 5) walk_list (fun j H' => Same H5 H' ∧ ∃ zs, H' D = some (.lst zs) ∧ Paired (PlAt H') zs (subP i (ps.take j))) ⟨same_new hD, [], upd_same, .nil⟩ (fun j H' _ h => SqL.of (h.1 _ _ gr4)) ?_ ?_
        · rintro j y H7 H8 hj ⟨s7, zs, gD, pz⟩ ⟨rfl, ey⟩
          refine ⟨rfl, ?_⟩
          obtain ⟨p, ep, hp⟩ := L3.paired_get pu ey
          have hp8 := hp.same (S4.trans s7)
          have st : subP i (ps.take (j + 1)) = subP i (ps.take j) ++ (if p.head? = some i then [p.tail] else []) := by
            rw [List.take_add_one, ep]
            unfold subP
            rw [List.filter_append, List.map_append]
            congr 1
            by_cases z : p.head? = some i <;> simp [z]
          cases p with
          | nil => exact absurd (List.mem_of_getElem? ep) h0
          | cons a0 tl =>
            obtain ⟨ay, rfl, gy⟩ := hp8
            have i0 : atI (plV (a0 :: tl)) 0 = some (.int (a0 : Int)) := at_of (show (0 : Int) = ((0 : Nat) : Int) from rfl) rfl
            refine ⟨_, rfl, ay, _, 0, _, rfl, rfl, SqT.of gy, i0, _, rfl, rfl, _, rfl, ?_⟩
            by_cases e : a0 = i
            · subst e
              rw [if_pos (show (a0 :: tl).head? = some a0 from rfl)] at st
              refine iT (decide_eq_true rfl) ?_
              refine ⟨_, rfl, _, rfl, ?_⟩
              unfold tNoPart
              refine slA gy fun H9 q9 s9 g9 => ?_
              rw [cut_tail] at g9
              have gD9 := s9 _ _ gD
              have lz : zs.length ≤ 60 := by
                rw [Paired.length pz]
                exact lenD j
              refine ⟨zs, gD9, szl (by omega), fun b o q => ?_, zs ++ [.ref q9], upd_same, ?_⟩
              · rw [upd_ne (ne_of_none q hD)]
                exact s9 _ _ (s7 _ _ q)
              · rw [st]
                exact pls_snoc gD9 ⟨q9, rfl, g9⟩ (paired_same s9 pz)
            · rw [if_neg (show ¬ (a0 :: tl).head? = some i from fun z => e (Option.some.inj z))] at st
              rw [List.append_nil] at st
              refine iF (decide_eq_false fun z => e (by injection z with z; omega)) ?_
              rw [st]
              exact ⟨s7, zs, gD, pz⟩
        · rintro H7 ⟨s7, zs, gD, pz⟩
          have luu := Paired.length pu
          rw [List.take_of_length_le (by omega)] at pz
          have l6 := lenD ps.length
          rw [List.take_of_length_le (Nat.le_refl _)] at l6
          have dy7 : Da t H7 ws[i] m.parts[i].d := by
            obtain ⟨dd, ed, dy⟩ := da_at dlp (List.getElem?_eq_getElem hi)
            unfold dsP at ed
            rw [List.getElem?_map, List.getElem?_eq_getElem hi2] at ed
            rw [← Option.some.inj ed] at dy
            exact dy.kp (kp_same fun b o z => s7 _ _ (kp b o (ne_of_none (s2 _ _ z) hl) (s3 _ _ (s2 _ _ z))))
          have lq2 : ∀ p ∈ subP i ps, p.length ≤ 60 := fun p hp => by
            unfold subP at hp
            obtain ⟨p0, h1, h2⟩ := List.mem_map.mp hp
            have h3 := lq p0 (List.mem_filter.mp h1).1
            rw [← h2, List.length_tail]
            omega
          have dlt := deep_part (List.getElem_mem hi2)
          refine ⟨t, ws[i], m.parts[i], D, zs, subP i ps, rfl, dy7, by omega, gD, pz, l6, lq2, fun H9 x s9 dx => ?_⟩
          have S49 : Same H5 H9 := s7.trans s9
          have g9 := S49 _ _ ga
          have la : acc.length ≤ 60 := by
            rw [dac.len, List.length_map, List.length_take]
            omega
          have hi3 : m.parts[i]? = some m.parts[i] := List.getElem?_eq_getElem hi2
          have et := holesL_at (ps := ps) (k := 0) hi3
          rw [Nat.zero_add] at et
          have kt := tk_upd (ys := acc ++ [x]) g9
          refine ⟨l, acc, x, rfl, rfl, g9, szl (by omega), fun b o nb q => by rw [upd_ne nb]; exact S49 _ _ (kp b o nb q), ⟨_, _, rfl⟩, acc ++ [x], upd_same, ?_⟩
          rw [List.take_add_one, et]
          show DaAll t _ _ (((holesL ps 0 m.parts).take i ++ [m.parts[i].holes (subP i ps)]).map Tm.d)
          rw [List.map_append]
          exact DaAll.app ((dac.kp (kp_same S49)).tups kt (noL_all _) (noD_all _)) (.cons (dx.tups kt (Tm.noL _) (Tm.noDict _)) .nil)
      · rintro σ H4 ⟨kp, ⟨v4, v5, rfl⟩, acc, ga, dac⟩
        have S4 : Same H H4 := fun b o q => kp b o (ne_of_none q nl) (S3 _ _ q)
        rw [List.take_of_length_le (by rw [holesL_len]; omega)] at dac
        refine ⟨_, rfl, _, rfl, t, v, l, acc, m, _, rfl, hd.kp (kp_same S4), ga, dac, holesL_len _ _, fun H6 x s6 dx => ?_⟩
        refine kk H6 x (S4.trans s6) ?_
        rw [holes_with h0]
        exact dx
end
end L3

namespace L3
open PySem L2
section
variable {P : Program} {w : World} {K : PySem.W.Frag} {mg : Str → Option Value} {base : Heap}
abbrev s__law_ends : Stmt := topS 41
abbrev N__law_ends : List Str := ["_law_spot", "_law_spots_here", "_law_other"]
theorem sc__law_ends : FnScope N__law_ends ["_law_spot", "_law_spots_here"] (defScope s__law_ends) := ⟨rfl, rfl, rfl, by decide +kernel, rfl, by decide +kernel, by decide +kernel⟩
def spEnds : Sp := fun vs H Q _ => ∃ (u v : V) (r : Addr) (a b : List Nat), vs = [u, .ref r] ∧ PlAt H u a ∧ PlAt H v b ∧ H r = some (.lst [v]) ∧ ∀ H' l, Same H H' → H l = none → H' l = some (.lst (if a.take b.length = b then [v] else [])) → Q (.ref l) H'
theorem ok_ends {f : Addr} {fd : FuncData} (F : Fun K "_law_ends" "_law_ends" s__law_ends f fd) (B : Bl mg) : FnOk P w K mg base CX0 1 f fd ["_law_spot", "_law_spots_here"] spEnds := by
  refine F.ok sc__law_ends (fun vs H Q E h => ?_) (fun cdv A outer s H vs Q E hr h => ?_)
  · obtain ⟨u, v, r, a, b, rfl, _⟩ := h
    rfl
  · obtain ⟨u, v, r, a, b, rfl, pu, hpv, gr, k⟩ := h
    have hu64 := hr.units
    refine ⟨_, (pss_one (ps_ret (pe_lc (own := [("_law_other", 2)]) rfl sc__law_ends.nd (pi_list (pv 1)) (blkOk_by (N := N__law_ends) (sc := (defScope s__law_ends)) (own := [("_law_other", 2)]) (by decide +kernel)) (fun _ _ _ _ _ => (pg_name (i := 2) sc__law_ends.nd rfl (Or.inl rfl))) (fun _ _ _ _ _ => (pts_one (pt_cmpR (show OpR _ _ (rEqD K) from (op_eqD hu64)) (pe_slice (show SlR _ (rSlA K) from sl_tupA) (pv 0) po_none (po_some (pe_callB (show CallR _ (.builtin "len") (rLenK K) from call_len) (by rfl) B.len PySem.boot_len (pa_cons (pv 2) pa_nil)))) (pv 2) (nomark _)))) (fun _ _ _ _ _ => (pv 2))))), ?_⟩
    refine ⟨_, rfl, r, rfl, ⟨_, SqL.of gr⟩, fun D hD => ?_⟩
    refine lc_it (J := Itl K r) (g := gName 2) walk_list (fun j H' => Same H H' ∧ H' D = some (.lst (if j = 0 then [] else if a.take b.length = b then [v] else []))) ⟨same_new hD, upd_same⟩ (fun j H' _ h => SqL.of (h.1 _ _ gr)) ?_ ?_
    · rintro j y H7 H8 hj ⟨s7, gD⟩ ⟨rfl, ey⟩
      have hj : j < 1 := hj
      obtain rfl : j = 0 := by omega
      cases ey
      rw [if_pos rfl] at gD
      obtain ⟨au, rfl, gu⟩ := pu.same s7
      obtain ⟨av, rfl, gv⟩ := hpv.same s7
      refine ⟨rfl, ?_⟩
      refine ⟨_, rfl, _, rfl, .ref av, _, rfl, .inr ⟨_, SqT.of gv, rfl⟩, ?_⟩
      refine ⟨_, rfl, slA gu fun H1 q s1 gq => ?_⟩
      rw [cut_take] at gq
      have e : (plV a).take (plV b).length = plV (a.take b.length) := by
        unfold plV
        rw [List.length_map, List.map_take]
      rw [e] at gq
      have S1 := s7.trans s1
      refine ⟨_, rfl, plD (a.take b.length), plD b, PlAt.dp ⟨q, rfl, gq⟩, PlAt.dp ⟨av, rfl, s1 _ _ gv⟩, shaped_pl _, shaped_pl _, _, rfl, ?_⟩
      rw [eqv_pl]
      by_cases c : a.take b.length = b
      · refine iT (decide_eq_true c) ?_
        refine ⟨_, rfl, [], s1 _ _ gD, slz rfl, fun b o z => ?_, ?_⟩
        · rw [upd_ne (ne_of_none z hD)]
          exact S1 _ _ z
        · rw [upd_same, if_neg (by decide), if_pos c]
          rfl
      · refine iF (decide_eq_false c) ?_
        refine ⟨S1, ?_⟩
        rw [if_neg (by decide), if_neg c]
        exact s1 _ _ gD
    · rintro H7 ⟨s7, gD⟩
      exact k H7 D s7 hD gD
end
end L3

namespace L3
open PySem L2
def bud : Nat → Nat
  | 0 => 2
  | d + 1 => 2 + 3 * bud d
def nmOk (x : Str) : Prop := isNameD (.str x) = true ∧ x.length ≤ 8
def someL : List Str := ["plus", "size", "join", "upto", "yes", "alike", "shown"]
theorem some_ok : ∀ x ∈ someL, nmOk x := by
  have h : (someL.all fun x => isNameD (.str x) && decide (x.length ≤ 8)) = true := by decide +kernel
  intro x hx
  have := List.all_eq_true.mp h x hx
  rw [Bool.and_eq_true] at this
  exact ⟨this.1, of_decide_eq_true this.2⟩
theorem let_ok {d : Nat} (h : d ≤ 7) : ∃ ch, atI ("abcdefgh" : Str).cps.toList (d : Int) = some ch ∧ nmOk (("p" : Str) ++ ⟨#[ch]⟩) ∧ nmOk (("l" : Str) ++ ⟨#[ch]⟩) := by
  unfold nmOk
  match d, h with
  | 0, _ => exact ⟨97, rfl, by decide +kernel, by decide +kernel⟩
  | 1, _ => exact ⟨98, rfl, by decide +kernel, by decide +kernel⟩
  | 2, _ => exact ⟨99, rfl, by decide +kernel, by decide +kernel⟩
  | 3, _ => exact ⟨100, rfl, by decide +kernel, by decide +kernel⟩
  | 4, _ => exact ⟨101, rfl, by decide +kernel, by decide +kernel⟩
  | 5, _ => exact ⟨102, rfl, by decide +kernel, by decide +kernel⟩
  | 6, _ => exact ⟨103, rfl, by decide +kernel, by decide +kernel⟩
  | 7, _ => exact ⟨104, rfl, by decide +kernel, by decide +kernel⟩
/-- a term without parts -/
def Lf (t : Addr) (H : Hp) (v : V) : Prop := ∃ m : Tm, Da t H v m.d ∧ m.ok = true ∧ m.deep = 0
theorem Lf.tups {t : Addr} {H H' : Hp} {v : V} (h : Lf t H v) (k : TupsKept H H') : Lf t H' v := by
  obtain ⟨m, d, o, p⟩ := h
  exact ⟨m, d.tups k (Tm.noL m) (Tm.noDict m), o, p⟩
theorem lf_name {t : Addr} {H : Hp} {T : Addr} {x : Str} (g : H T = some (.tup [.str "name", .str x])) (h : nmOk x) : Lf t H (.ref T) :=
  ⟨.name x, .tup g (.cons (.str _) (.cons (.str x) .nil)), by simp only [Tm.ok, h.1, decide_eq_true h.2]; rfl, rfl⟩
theorem tk_ext {K : PySem.W.Frag} {t c : Addr} {b : Nat} {H H' : Hp} (e : Ext t H H') (T : Tape K H t c b) : TupsKept H H' := fun a xs g => e a _ (fun z => by
  obtain ⟨kvs, h⟩ := T.dict
  rw [z, h] at g
  cases g) g
theorem kpx {K : PySem.W.Frag} {t c : Addr} {b : Nat} {H H' : Hp} (e : Ext t H H') (T : Tape K H t c b) : Kp t H H' := ⟨fun a xs g => e a _ (fun z => by
  obtain ⟨kvs, h⟩ := T.dict
  rw [z, h] at g
  cases g) g, tk_ext e T, fun a kvs n g => e a _ n g⟩
theorem key_w {K : PySem.W.Frag} {t c : Addr} {b dp : Nat} {H : Hp} {F : Hp → Int → Prop} {G : Prop} (g : (∀ H1 r, Ext t H H1 → Tape K H1 t c b → 0 ≤ r → r < 10 → (dp = 0 → r < 4) → F H1 r) → G)
    (h : ∀ H1 r, Ext t H H1 → Tape K H1 t c b → 0 ≤ r → r < 10 → (dp = 0 → r < 4) → F H1 r) : G := g h
theorem key_s {H : Hp} {F : Hp → Prop} {G : Prop} (g : (∀ H1, Same H H1 → F H1) → G) (h : ∀ H1, Same H H1 → F H1) : G := g h
section
variable {P : Program} {w : World} {K : PySem.W.Frag} {mg : Str → Option Value} {base : Heap}
abbrev s__law_loose : Stmt := topS 42
abbrev N__law_loose : List Str := ["_law_tape", "_law_names", "_law_deep", "_law_way", "_law_some", "_law_name", "_law_one", "_law_arms", "_law_k"]
theorem sc__law_loose : FnScope N__law_loose ["_law_tape", "_law_names", "_law_deep"] (defScope s__law_loose) := ⟨rfl, rfl, rfl, by decide +kernel, rfl, by decide +kernel, by decide +kernel⟩
def spLoose (K : PySem.W.Frag) (n : Nat) : Sp := fun vs H Q _ => ∃ (t c l : Addr) (names : List Str) (deep b : Nat), vs = [.ref t, .ref l, .int (deep : Int)] ∧ H l = some (.lst (names.map V.str)) ∧ (∀ x ∈ names, nmOk x) ∧ names.length + deep ≤ 60 ∧ deep < n ∧ deep ≤ 7 ∧ Tape K H t c (b + bud deep) ∧
  ∀ H' v (m : Tm), Ext t H H' → Tape K H' t c b → Da t H' v m.d → m.ok = true → m.deep ≤ deep → Q v H'
theorem ok_loose {n k : Nat} (hk : 2 ≤ k) {f : Addr} {fd : FuncData} (F : Fun K "_law_loose" "_law_loose" s__law_loose f fd) (B : Bl mg) (D__law_draw : Kn P w K mg base 1 "_law_draw" ["_law_tape", "_law_many"] (spDraw K)) (D__law_pick : Kn P w K mg base 2 "_law_pick" ["_law_tape", "_law_items"] (spPick K))
    (D__law_loose : Kn P w K mg base k "_law_loose" ["_law_tape", "_law_names", "_law_deep"] (spLoose K n)) : FnOk P w K mg base CX0 (k + 1) f fd ["_law_tape", "_law_names", "_law_deep"] (spLoose K (n + 1)) := by
  refine F.ok sc__law_loose (fun vs H Q E h => ?_) (fun cdv A outer s H vs Q E hr h => ?_)
  · obtain ⟨t, c, l, names, deep, b, rfl, _⟩ := h
    rfl
  · obtain ⟨t, c, l, names, deep, b, rfl, gl, hnm, hln, hdn, hd7, tp, kk⟩ := h
    have hu64 := hr.units
    have hr__law_draw : Room 1 _ := hr.mono (by omega)
    have hr__law_pick : Room 2 _ := hr.mono hk
    have hr__law_loose : Room k _ := hr
    refine ⟨_, (pss_cons (ps_set (i := 3) sc__law_loose.nd rfl (Or.inl rfl) (pe_ifExp (pt_cmpR op_gt (pv 2) pe_int (nomark _)) (pe_kn D__law_draw hr__law_draw (pa_cons (pv 0) (pa_cons pe_int pa_nil))) (pe_kn D__law_draw hr__law_draw (pa_cons (pv 0) (pa_cons pe_int pa_nil)))))
  (pss_cons (ps_set (i := 4) sc__law_loose.nd rfl (Or.inl rfl) (pe_lst (pa_cons pe_str (pa_cons pe_str (pa_cons pe_str (pa_cons pe_str (pa_cons pe_str (pa_cons pe_str (pa_cons pe_str pa_nil)))))))))
  (pss_cons (ps_if (PW.pt (pw_and (pt_cmpR op_lt (pv 3) pe_int (nomark _)) (pw_and1 (pt_cmpR (op_neNilL hu64) (pv 1) (pe_lst pa_nil) (nomark _)))))
  (pss_one (ps_ret (pe_tup (pa_cons pe_str (pa_cons (pe_kn D__law_pick hr__law_pick (pa_cons (pv 0) (pa_cons (pv 1) pa_nil))) pa_nil)))))
  pss_nil)
  (pss_cons (ps_if (pt_cmpR op_lt (pv 3) pe_int (nomark _))
  (pss_one (ps_ret (pe_kn D__law_pick hr__law_pick (pa_cons (pv 0) (pa_cons (pe_op op_cat (pe_lst (pa_cons (pe_tup (pa_cons pe_str (pa_cons pe_int pa_nil))) (pa_cons (pe_tup (pa_cons pe_str (pa_cons pe_str pa_nil))) pa_nil))) (pe_lc (own := [("_law_name", 5)]) rfl sc__law_loose.nd (pi_list (pv 4)) (blkOk_by (N := N__law_loose) (sc := (defScope s__law_loose)) (own := [("_law_name", 5)]) (by decide +kernel)) (fun _ _ _ _ _ => (pg_name (i := 5) sc__law_loose.nd rfl (Or.inl rfl))) (fun _ _ _ _ _ => pts_nil) (fun _ _ _ _ _ => (pe_tup (pa_cons pe_str (pa_cons (pv 5) pa_nil)))))) pa_nil)))))
  pss_nil)
  (pss_cons (ps_if (pt_cmpR op_lt (pv 3) pe_int (nomark _))
  (pss_cons (ps_set (i := 6) sc__law_loose.nd rfl (Or.inl rfl) (pe_kn D__law_loose hr__law_loose (pa_cons (pv 0) (pa_cons (pv 1) (pa_cons (pe_op op_sub (pv 2) pe_int) pa_nil)))))
  (pss_one (ps_ret (pe_tup (pa_cons pe_str (pa_cons (pv 6) (pa_cons (pe_kn D__law_loose hr__law_loose (pa_cons (pv 0) (pa_cons (pv 1) (pa_cons (pe_op op_sub (pv 2) pe_int) pa_nil)))) pa_nil)))))))
  pss_nil)
  (pss_cons (ps_if (pt_cmpR op_eq (pv 3) pe_int (nomark _))
  (pss_cons (ps_set (i := 5) sc__law_loose.nd rfl (Or.inl rfl) (pe_op op_add_str pe_str (pe_ix ix_str pe_str (pv 2) (fun _ _ => rfl))))
  (pss_one (ps_ret (pe_tup (pa_cons pe_str (pa_cons (pv 5) (pa_cons (pe_kn D__law_loose hr__law_loose (pa_cons (pv 0) (pa_cons (pe_op op_cat (pv 1) (pe_lst (pa_cons (pv 5) pa_nil))) (pa_cons (pe_op op_sub (pv 2) pe_int) pa_nil)))) pa_nil)))))))
  pss_nil)
  (pss_cons (ps_if (pt_cmpR op_eq (pv 3) pe_int (nomark _))
  (pss_cons (ps_set (i := 5) sc__law_loose.nd rfl (Or.inl rfl) (pe_op op_add_str pe_str (pe_ix ix_str pe_str (pv 2) (fun _ _ => rfl))))
  (pss_cons (ps_set (i := 6) sc__law_loose.nd rfl (Or.inl rfl) (pe_kn D__law_loose hr__law_loose (pa_cons (pv 0) (pa_cons (pe_op op_cat (pv 1) (pe_lst (pa_cons (pv 5) pa_nil))) (pa_cons (pe_op op_sub (pv 2) pe_int) pa_nil)))))
  (pss_one (ps_ret (pe_tup (pa_cons pe_str (pa_cons (pe_tup (pa_cons (pe_tup (pa_cons (pv 5) (pa_cons (pv 6) pa_nil))) pa_nil)) (pa_cons (pe_kn D__law_loose hr__law_loose (pa_cons (pv 0) (pa_cons (pe_op op_cat (pv 1) (pe_lst (pa_cons (pv 5) pa_nil))) (pa_cons (pe_op op_sub (pv 2) pe_int) pa_nil)))) pa_nil))))))))
  pss_nil)
  (pss_cons (ps_setLc (i := 7) (own := [("_law_k", 8)]) rfl sc__law_loose.nd rfl rfl (sw_true rfl rfl rfl (by decide +kernel)) (pi_range1 (by rfl) B.range (pa_cons pe_int pa_nil)) (blkOk_by (N := N__law_loose) (sc := (defScope s__law_loose)) (own := [("_law_k", 8)]) (by decide +kernel)) (fun _ _ _ _ _ => (pg_name (i := 8) sc__law_loose.nd rfl (Or.inl rfl))) (fun _ _ _ _ _ => pts_nil) (fun _ _ _ _ _ => (pe_kn D__law_loose hr__law_loose (pa_cons (pv 0) (pa_cons (pv 1) (pa_cons (pe_op op_sub (pv 2) pe_int) pa_nil))))))
  (pss_one (ps_ret (pe_tup (pa_cons pe_str (pa_cons (pe_kn D__law_loose hr__law_loose (pa_cons (pv 0) (pa_cons (pv 1) (pa_cons (pe_op op_sub (pv 2) pe_int) pa_nil)))) (pa_cons (pe_tup (pa_cons (pe_tup (pa_cons pe_str (pa_cons (pe_tup pa_nil) (pa_cons (pe_ix ix_list (pv 7) pe_int (fun _ _ => rfl)) pa_nil)))) (pa_cons (pe_tup (pa_cons pe_str (pa_cons (pe_tup pa_nil) (pa_cons (pe_ix ix_list (pv 7) pe_int (fun _ _ => rfl)) pa_nil)))) pa_nil))) pa_nil)))))))))))))), ?_⟩
    have bd : 2 ≤ bud deep := by cases deep <;> simp only [bud] <;> omega
    refine ⟨_, rfl, _, _, rfl, rfl, _, rfl, ?_⟩
    refine' key_w (K := K) (t := t) (c := c) (b := b + bud deep - 1) (dp := deep) (H := H) (fun h => ?_) (fun H1 r e1 T1 r0 r10 r4 => ?_)
    rotate_left
    · by_cases hd0 : deep = 0
      · refine iF (decide_eq_false (by omega)) ?_
        exact ⟨_, rfl, t, c, 4, b + bud deep - 1, rfl, by decide, by decide, tp.less (by omega), fun H1 r e1 T1 r1 r2 => h H1 r e1 T1 r1 (by omega) fun _ => r2⟩
      · refine iT (decide_eq_true (by omega)) ?_
        exact ⟨_, rfl, t, c, 10, b + bud deep - 1, rfl, by decide, by decide, tp.less (by omega), fun H1 r e1 T1 r1 r2 => h H1 r e1 T1 r1 r2 fun z => absurd z hd0⟩
    · have nlt : l ≠ t := fun z => by
        obtain ⟨o, h2⟩ := tp.dict
        rw [z, h2] at gl
        cases gl
      have gl1 := e1 l _ nlt gl
      refine ⟨slz rfl, fun ls hls => ?_⟩
      have s2 := same_new (o := .lst (someL.map V.str)) hls
      have gls : (upd H1 ls (.lst (someL.map V.str))) ls = some (.lst (someL.map V.str)) := upd_same
      have e2 := e1.trans (same_ext s2)
      have T2 := T1.same s2
      have gl2 := s2 _ _ gl1
      have nls : ls ≠ t := T1.ne hls
      show tSeq _ _ _ _ (upd H1 ls (.lst (someL.map V.str)))
      generalize upd H1 ls (.lst (someL.map V.str)) = H2 at s2 gls e2 T2 gl2 ⊢
      refine ⟨_, rfl, _, _, rfl, rfl, _, rfl, ?_⟩
      refine' key_s (H := H2) (fun h => ?_) (fun H3 s3 => ?_)
      rotate_left
      · by_cases r2 : r < 2
        · refine iT (decide_eq_true r2) ?_
          refine ⟨_, rfl, slz rfl, fun q hq => ⟨l, q, names.map V.str, rfl, rfl, SqL.of (same_new hq _ _ gl2), SqL.of upd_same, _, rfl, ?_⟩⟩
          have s3 := same_new (o := .lst []) hq
          cases hn : names with
          | nil => exact iF rfl (h _ s3)
          | cons nm nms =>
            refine iT rfl ?_
            have T3 := T2.same s3
            refine ⟨_, rfl, _, rfl, t, c, l, names.map V.str, b, rfl, SqL.of (s3 _ _ gl2), by rw [hn, List.length_map, List.length_cons]; omega, by rw [List.length_map]; omega, T3.less (by omega), fun H4 v e4 T4 hv => ⟨slz rfl, fun T hT => ?_⟩⟩
            obtain ⟨x, hx, rfl⟩ := List.mem_map.mp hv
            obtain ⟨m, dm, om, pm⟩ := lf_name (t := t) (H := upd H4 T (.tup [.str "name", .str x])) (T := T) (x := x) upd_same (hnm x hx)
            exact kk _ _ m (((e2.trans (same_ext s3)).trans e4).trans (Ext.new hT)) (T4.new hT) dm om (by omega)
        · exact iF (decide_eq_false r2) (iF rfl (h H2 (Same.refl H2)))
      · have e3 := e2.trans (same_ext s3)
        have T3 := T2.same s3
        have gl3 := s3 _ _ gl2
        have gls3 := s3 _ _ gls
        refine ⟨_, rfl, _, _, rfl, rfl, _, rfl, ?_⟩
        by_cases r4' : r < 4
        · refine iT (decide_eq_true r4') ?_
          refine ⟨_, rfl, slz rfl, fun p1 hp1 => ⟨slz rfl, fun p2 hp2 => ⟨slz rfl, fun l1 hl1 => ⟨_, rfl, ls, rfl, ⟨someL.map V.str, ?_⟩, fun D hD => ?_⟩⟩⟩⟩
          · exact SqL.of (same_new hl1 _ _ (same_new hp2 _ _ (same_new hp1 _ _ gls3)))
          have s4 := same_new (o := .tup [.str "whole", .int 3]) hp1
          have s5 := same_new (o := .tup [.str "text", .str "t"]) hp2
          have s6 := same_new (o := .lst [.ref p1, .ref p2]) hl1
          have S6 := s4.trans (s5.trans s6)
          have w1 := s6 _ _ (s5 _ _ (upd_same (H := H3) (a := p1) (o := .tup [.str "whole", .int 3])))
          have w2 := s6 _ _ (upd_same (H := upd H3 p1 (.tup [.str "whole", .int 3])) (a := p2) (o := .tup [.str "text", .str "t"]))
          have gl1' := upd_same (H := upd (upd H3 p1 (.tup [.str "whole", .int 3])) p2 (.tup [.str "text", .str "t"])) (a := l1) (o := .lst [.ref p1, .ref p2])
          generalize upd (upd (upd H3 p1 (.tup [.str "whole", .int 3])) p2 (.tup [.str "text", .str "t"])) l1 (.lst [.ref p1, .ref p2]) = H6 at S6 w1 w2 gl1' hD ⊢
          have gls6 := S6 _ _ gls3
          refine lc_it (J := Itl K ls) (g := gName 5) walk_list (fun j H' => Same H6 H' ∧ ∃ zs, H' D = some (.lst zs) ∧ zs.length = j ∧ ∀ v ∈ zs, Lf t H' v) ⟨same_new hD, [], upd_same, rfl, fun v hv => by cases hv⟩ (fun j H' _ h => SqL.of (h.1 _ _ gls6)) ?_ ?_
          · rintro j y H7 H8 hj ⟨s7, zs, gD, lz, az⟩ ⟨rfl, ey⟩
            refine ⟨rfl, ?_⟩
            have hj : j < 7 := hj
            rw [List.getElem?_map] at ey
            obtain ⟨x, hx, rfl⟩ := Option.map_eq_some_iff.mp ey
            refine ⟨_, rfl, slz rfl, fun T hT => ?_⟩
            have s8 := same_new (o := .tup [.str "name", .str x]) hT
            have kD := tk_upd (ys := zs ++ [.ref T]) (s8 _ _ gD)
            refine ⟨zs, s8 _ _ gD, szl (by omega), fun b o z => ?_, zs ++ [.ref T], upd_same, by rw [List.length_append, lz]; rfl, fun v hv => ?_⟩
            · rw [upd_ne (ne_of_none z hD)]
              exact s8 _ _ (s7 _ _ z)
            · rcases List.mem_append.mp hv with hv | hv
              · exact ((az v hv).tups (tk_same s8)).tups kD
              · rw [List.mem_singleton.mp hv]
                exact (lf_name upd_same (some_ok x (List.mem_of_getElem? hx))).tups kD
          · rintro H7 ⟨s7, zs, gD, lz, az⟩
            have lz : zs.length = 7 := lz
            refine ⟨l1, D, _, zs, rfl, rfl, s7 _ _ gl1', gD, by rw [lz]; exact (by decide : 2 + 7 ≤ sizeLine), fun q hq => ?_⟩
            have s8 := same_new (o := .lst ([.ref p1, .ref p2] ++ zs)) hq
            have S8 := s7.trans s8
            have T8 := T3.same (S6.trans S8)
            refine ⟨t, c, q, [.ref p1, .ref p2] ++ zs, b, rfl, SqL.of upd_same, by rw [List.length_append]; exact Nat.lt_of_lt_of_le (show 0 < 2 by decide) (Nat.le_add_right _ _), by rw [List.length_append, lz]; exact (by decide : 2 + 7 < 1000000), T8.less (by cases deep <;> simp only [bud] <;> omega), fun H9 v e9 T9 hv => ?_⟩
            obtain ⟨m, dm, om, pm⟩ : Lf t H9 v := by
              have k9 := tk_ext e9 T8
              rcases List.mem_append.mp hv with hv | hv
              · rcases List.mem_cons.mp hv with rfl | hv
                · exact ⟨.whole, .tup (k9 _ _ (S8 _ _ w1)) (.cons (.str _) (.cons (.int 3) .nil)), rfl, rfl⟩
                · rw [List.mem_singleton.mp hv]
                  exact ⟨.text, .tup (k9 _ _ (S8 _ _ w2)) (.cons (.str _) (.cons (.str _) .nil)), rfl, rfl⟩
              · exact ((az v hv).tups (tk_same s8)).tups k9
            exact kk H9 v m ((e3.trans (same_ext (S6.trans S8))).trans e9) T9 dm om (by omega)
        · refine iF (decide_eq_false r4') ?_
          obtain ⟨d, rfl⟩ : ∃ d, deep = d + 1 := ⟨deep - 1, by omega⟩
          have ed : ((d + 1 : Nat) : Int) - 1 = (d : Int) := by omega
          have eb : bud (d + 1) = 2 + 3 * bud d := rfl
          rw [eb] at T3
          obtain ⟨ch, hch, np, nl⟩ := let_ok hd7
          refine ⟨_, rfl, _, _, rfl, rfl, _, rfl, ?_⟩
          by_cases r7 : r < 7
          · refine iT (decide_eq_true r7) ?_
            refine ⟨_, rfl, _, rfl, _, rfl, _, _, rfl, rfl, t, c, l, names, d, b + 2 * bud d, (by show [V.ref t, V.ref l, V.int (((d + 1 : Nat) : Int) - 1)] = _; rw [ed]), gl3, hnm, by omega, by omega, by omega, T3.less (by omega), fun H4 v1 m1 e4 T4 d1 o1 p1 => ?_⟩
            have gl4 := e4 l _ nlt gl3
            refine ⟨_, rfl, _, rfl, _, rfl, _, rfl, _, _, rfl, rfl, t, c, l, names, d, b, (by show [V.ref t, V.ref l, V.int (((d + 1 : Nat) : Int) - 1)] = _; rw [ed]), gl4, hnm, by omega, by omega, by omega, T4.less (by omega), fun H5 v2 m2 e5 T5 d2 o2 p2 => ⟨slz rfl, fun T hT => ?_⟩⟩
            have s6 := same_new (o := .tup [.str "use", v1, v2]) hT
            exact kk _ _ (.use m1 m2) (((e3.trans e4).trans e5).trans (Ext.new hT)) (T5.new hT) (.tup upd_same (.cons (.str _) (.cons ((d1.kp (kpx e5 T4)).kp (kp_same s6)) (.cons (d2.kp (kp_same s6)) .nil)))) (by simp only [Tm.ok, o1, o2]; rfl) (by simp only [Tm.deep]; omega)
          · refine iF (decide_eq_false r7) ?_
            refine ⟨_, rfl, rfl, _, rfl, ?_⟩
            by_cases r7' : r = 7
            · subst r7'
              refine iT rfl ?_
              refine ⟨_, rfl, _, _, ch, rfl, rfl, by decide +kernel, hch, _, _, rfl, rfl, (show 1 + 1 ≤ sizeLine by decide), ?_⟩
              refine ⟨_, rfl, _, rfl, _, rfl, _, rfl, slz rfl, fun l1 hl1 => ?_⟩
              have s4 := same_new (o := .lst [.str (("p" : Str) ++ ⟨#[ch]⟩)]) hl1
              refine ⟨l, l1, names.map V.str, [.str (("p" : Str) ++ ⟨#[ch]⟩)], rfl, rfl, s4 _ _ gl3, upd_same, ?_, fun l2 hl2 => ?_⟩
              · rw [List.length_map, sizeLine_eq]
                simp only [List.length_cons, List.length_nil]
                omega
              have s5 := same_new (o := .lst (names.map V.str ++ [.str (("p" : Str) ++ ⟨#[ch]⟩)])) hl2
              have T5 := (T3.same s4).same s5
              refine ⟨_, rfl, _, _, rfl, rfl, t, c, l2, names ++ [("p" : Str) ++ ⟨#[ch]⟩], d, b, (by show [V.ref t, V.ref l2, V.int (((d + 1 : Nat) : Int) - 1)] = _; rw [ed]), by rw [upd_same, List.map_append]; rfl, fun x hx => ?_, by rw [List.length_append]; simp only [List.length_cons, List.length_nil]; omega, by omega, by omega, T5.less (by omega), fun H6 v1 m1 e6 T6 d1 o1 p1 => ⟨slz rfl, fun T hT => ?_⟩⟩
              · rcases List.mem_append.mp hx with hx | hx
                · exact hnm x hx
                · rw [List.mem_singleton.mp hx]
                  exact np
              · have s7 := same_new (o := .tup [.str "given", .str (("p" : Str) ++ ⟨#[ch]⟩), v1]) hT
                exact kk _ _ (.giv (("p" : Str) ++ ⟨#[ch]⟩) m1) (((e3.trans (same_ext (s4.trans s5))).trans e6).trans (Ext.new hT)) ((T6.new hT).less (by omega)) (.tup upd_same (.cons (.str _) (.cons (.str _) (.cons (d1.kp (kp_same s7)) .nil)))) (by simp only [Tm.ok, o1, np.1, decide_eq_true np.2]; rfl) (by simp only [Tm.deep]; omega)
            · refine iF (decide_eq_false (fun z => r7' (by injection z))) ?_
              refine ⟨_, rfl, rfl, _, rfl, ?_⟩
              by_cases r8 : r = 8
              · subst r8
                refine iT rfl ?_
                refine ⟨_, rfl, _, _, ch, rfl, rfl, by decide +kernel, hch, _, _, rfl, rfl, (show 1 + 1 ≤ sizeLine by decide), ?_⟩
                generalize ("l" : Str) ++ ⟨#[ch]⟩ = nm at nl ⊢
                have hnm2 : ∀ x ∈ names ++ [nm], nmOk x := fun x hx => by
                  rcases List.mem_append.mp hx with hx | hx
                  · exact hnm x hx
                  · rw [List.mem_singleton.mp hx]
                    exact nl
                have hz2 : (names.map V.str).length + [V.str nm].length ≤ sizeLine := by
                  rw [List.length_map, sizeLine_eq]
                  simp only [List.length_cons, List.length_nil]
                  omega
                have hl2' : (names ++ [nm]).length + d ≤ 60 := by
                  rw [List.length_append]
                  simp only [List.length_cons, List.length_nil]
                  omega
                refine ⟨_, rfl, _, rfl, _, rfl, slz rfl, fun l1 hl1 => ?_⟩
                have s4 := same_new (o := .lst [.str nm]) hl1
                refine ⟨l, l1, names.map V.str, [.str nm], rfl, rfl, s4 _ _ gl3, upd_same, hz2, fun l2 hl2 => ?_⟩
                have s5 := same_new (o := .lst (names.map V.str ++ [.str nm])) hl2
                have T5 := (T3.same s4).same s5
                refine ⟨_, rfl, _, _, rfl, rfl, t, c, l2, names ++ [nm], d, b + 2 * bud d, (by show [V.ref t, V.ref l2, V.int (((d + 1 : Nat) : Int) - 1)] = _; rw [ed]), by rw [upd_same, List.map_append]; rfl, hnm2, hl2', by omega, by omega, T5.less (by omega), fun H6 v1 m1 e6 T6 d1 o1 p1 => ?_⟩
                have e6' := (e3.trans (same_ext (s4.trans s5))).trans e6
                have gl6 := e6 l _ nlt (s5 _ _ (s4 _ _ gl3))
                refine ⟨_, rfl, _, rfl, slz rfl, fun A1 hA1 => ⟨slz rfl, fun A2 hA2 => ?_⟩⟩
                have s7 := same_new (o := .tup [.str nm, v1]) hA1
                have s8 := same_new (o := .tup [.ref A1]) hA2
                have S8 := s7.trans s8
                have gA1 := s8 _ _ (upd_same (H := H6) (a := A1) (o := .tup [.str nm, v1]))
                have gA2 := upd_same (H := upd H6 A1 (.tup [.str nm, v1])) (a := A2) (o := .tup [.ref A1])
                have T8 := T6.same S8
                have gl8 := S8 _ _ gl6
                generalize upd (upd H6 A1 (.tup [.str nm, v1])) A2 (.tup [.ref A1]) = H8 at S8 gA1 gA2 T8 gl8 ⊢
                refine ⟨_, rfl, _, rfl, _, rfl, slz rfl, fun l3 hl3 => ?_⟩
                have s9 := same_new (o := .lst [.str nm]) hl3
                refine ⟨l, l3, names.map V.str, [.str nm], rfl, rfl, s9 _ _ gl8, upd_same, hz2, fun l4 hl4 => ?_⟩
                have s10 := same_new (o := .lst (names.map V.str ++ [.str nm])) hl4
                have T10 := (T8.same s9).same s10
                have S10 := s9.trans s10
                refine ⟨_, rfl, _, _, rfl, rfl, t, c, l4, names ++ [nm], d, b, (by show [V.ref t, V.ref l4, V.int (((d + 1 : Nat) : Int) - 1)] = _; rw [ed]), by rw [upd_same, List.map_append]; rfl, hnm2, hl2', by omega, by omega, T10.less (by omega), fun H11 v2 m2 e11 T11 d2 o2 p2 => ⟨slz rfl, fun T hT => ?_⟩⟩
                have s12 := same_new (o := .tup [.str "let", .ref A2, v2]) hT
                have k11 := kpx e11 T10
                have d1' : Da t _ v1 m1.d := ((d1.kp (kp_same (S8.trans S10))).kp k11).kp (kp_same s12)
                have gA1' := s12 _ _ (k11.u _ _ (S10 _ _ gA1))
                have gA2' := s12 _ _ (k11.u _ _ (S10 _ _ gA2))
                exact kk _ _ (.lt nm m1 m2) (((e6'.trans (same_ext (S8.trans S10))).trans e11).trans (Ext.new hT)) ((T11.new hT).less (by omega)) (.tup upd_same (.cons (.str _) (.cons (.tup gA2' (.cons (.tup gA1' (.cons (.str _) (.cons d1' .nil))) .nil)) (.cons (d2.kp (kp_same s12)) .nil)))) (by simp only [Tm.ok, o1, o2, nl.1, decide_eq_true nl.2]; rfl) (by simp only [Tm.deep]; omega)
              · refine iF (decide_eq_false (fun z => r8 (by injection z))) ?_
                refine ⟨_, rfl, by decide, by decide, fun D hD => ?_⟩
                have eD : ∀ {H' : Hp} {o : HO}, Ext t H3 H' → Ext t H3 (upd H' D o) := fun e => e.upd hD
                refine lc_it (walk_range (lo := 0) (n := 2)) (g := gName 8) (fun j H' => Ext t H3 H' ∧ Tape K H' t c (b + 1 + (3 - j) * bud d) ∧ ∃ ms zs, H' D = some (.lst zs) ∧ DaAll t H' zs (List.map Tm.d ms) ∧ ms.length = j ∧ ∀ m ∈ ms, m.ok = true ∧ m.deep ≤ d) ⟨same_ext (same_new hD), (T3.same (same_new hD)).less (by omega), [], [], upd_same, .nil, rfl, fun m hm => by cases hm⟩ (fun _ _ _ _ => trivial) ?_ ?_
                · rintro j y H7 H8 hj ⟨e7, T7, ms, zs, gD, dz, lm, am⟩ ⟨rfl, ey⟩
                  refine ⟨rfl, ?_⟩
                  have hj : j < 2 := hj
                  have gl7 := e7 l _ nlt gl3
                  have eb2 : b + 1 + (3 - j) * bud d = (b + 1 + (3 - (j + 1)) * bud d) + bud d := by
                    have : j = 0 ∨ j = 1 := by omega
                    rcases this with rfl | rfl <;> omega
                  refine ⟨_, rfl, _, rfl, _, rfl, _, _, rfl, rfl, t, c, l, names, d, b + 1 + (3 - (j + 1)) * bud d, (by show [V.ref t, V.ref l, V.int (((d + 1 : Nat) : Int) - 1)] = _; rw [ed]), gl7, hnm, by omega, by omega, by omega, by rw [← eb2]; exact T7, fun H9 v1 m1 e9 T9 d1 o1 p1 => ?_⟩
                  have nDt : D ≠ t := T3.ne hD
                  have gD9 := e9 D _ nDt gD
                  have kD := tk_upd (ys := zs ++ [v1]) gD9
                  refine ⟨zs, gD9, szl (by have := dz.len; rw [List.length_map] at this; omega), eD (e7.trans e9), Tape.put T3 (e7.trans e9) T9 hD, ms ++ [m1], zs ++ [v1], upd_same, ?_, by rw [List.length_append, lm]; rfl, fun m hm => ?_⟩
                  · rw [List.map_append]
                    exact DaAll.app ((dz.kp (kpx e9 T7)).tups kD (noL_all _) (noD_all _)) (.cons (d1.tups kD (Tm.noL _) (Tm.noDict _)) .nil)
                  · rcases List.mem_append.mp hm with hm | hm
                    · exact am m hm
                    · rw [List.mem_singleton.mp hm]
                      exact ⟨o1, p1⟩
                · rintro H7 ⟨e7, T7, ms, zs, gD, dz, lm, am⟩
                  have gl7 := e7 l _ nlt gl3
                  match ms, lm, dz, am with
                  | [ma, mb], _, dz, am =>
                    cases dz with
                    | @cons x0 _ _ _ q0 dz =>
                    cases dz with
                    | @cons x1 _ _ _ q1 dz =>
                    cases dz
                    have nDt : D ≠ t := T3.ne hD
                    refine ⟨_, rfl, _, rfl, _, rfl, _, _, rfl, rfl, t, c, l, names, d, b, (by show [V.ref t, V.ref l, V.int (((d + 1 : Nat) : Int) - 1)] = _; rw [ed]), gl7, hnm, by omega, by omega, by omega, T7.less (by omega), fun H9 v1 m1 e9 T9 d1 o1 p1 => ?_⟩
                    have gD9 := e9 D _ nDt gD
                    have k9 := kpx e9 T7
                    have q0' := q0.kp k9
                    have q1' := q1.kp k9
                    have e9' := e7.trans e9
                    refine ⟨slz rfl, fun n1 hn1 => ⟨_, rfl, D, _, 0, _, rfl, rfl, SqL.of (same_new hn1 _ _ gD9), rfl, slz rfl, fun n2 hn2 => ?_⟩⟩
                    have s10 := same_new (o := .tup []) hn1
                    have s11 := same_new (o := .tup [.str "no", .ref n1, x0]) hn2
                    refine ⟨slz rfl, fun n3 hn3 => ⟨_, rfl, D, _, 1, _, rfl, rfl, SqL.of (same_new hn3 _ _ (s11 _ _ (s10 _ _ gD9))), rfl, slz rfl, fun n4 hn4 => ?_⟩⟩
                    have s12 := same_new (o := .tup []) hn3
                    have s13 := same_new (o := .tup [.str "yes", .ref n3, x1]) hn4
                    refine ⟨slz rfl, fun n5 hn5 => ⟨slz rfl, fun T hT => ?_⟩⟩
                    have s14 := same_new (o := .tup [.ref n2, .ref n4]) hn5
                    have s15 := same_new (o := .tup [.str "match", v1, .ref n5]) hT
                    have S := s10.trans (s11.trans (s12.trans (s13.trans (s14.trans s15))))
                    have t1 := s15 _ _ (s14 _ _ (s13 _ _ (s12 _ _ (s11 _ _ (upd_same (H := H9) (a := n1) (o := .tup []))))))
                    have t2 := s15 _ _ (s14 _ _ (s13 _ _ (s12 _ _ (upd_same (H := upd H9 n1 (.tup [])) (a := n2) (o := .tup [.str "no", .ref n1, x0])))))
                    have t3 := s15 _ _ (s14 _ _ (s13 _ _ (upd_same (H := upd (upd H9 n1 (.tup [])) n2 (.tup [.str "no", .ref n1, x0])) (a := n3) (o := .tup []))))
                    have t4 := s15 _ _ (s14 _ _ (upd_same (H := upd (upd (upd H9 n1 (.tup [])) n2 (.tup [.str "no", .ref n1, x0])) n3 (.tup [])) (a := n4) (o := .tup [.str "yes", .ref n3, x1])))
                    have t5 := s15 _ _ (upd_same (H := upd (upd (upd (upd H9 n1 (.tup [])) n2 (.tup [.str "no", .ref n1, x0])) n3 (.tup [])) n4 (.tup [.str "yes", .ref n3, x1])) (a := n5) (o := .tup [.ref n2, .ref n4]))
                    have oa := am ma (by simp)
                    have ob := am mb (by simp)
                    exact kk _ _ (.mt m1 ma mb) ((e3.trans e9').trans (same_ext S)) ((T9.same S).less (by omega)) (.tup upd_same (.cons (.str _) (.cons (d1.kp (kp_same S)) (.cons (.tup t5 (.cons (.tup t2 (.cons (.str _) (.cons (.tup t1 .nil) (.cons (q0'.kp (kp_same S)) .nil)))) (.cons (.tup t4 (.cons (.str _) (.cons (.tup t3 .nil) (.cons (q1'.kp (kp_same S)) .nil)))) .nil))) .nil)))) (by simp only [Tm.ok, o1, oa.1, ob.1]; rfl) (by simp only [Tm.deep]; omega)
end
end L3

/-! how long values of any kind are shown -/
namespace L3
open PySem L2
mutual
def wt : PyData → Nat
  | .list ds => 7 + wtL ds
  | .tuple ds => 7 + wtL ds
  | d => 7 + d.shown.length
def wtL : List PyData → Nat
  | [] => 0
  | d :: ds => 2 + wt d + wtL ds
end
theorem wt_tup (ds : List PyData) : wt (.tuple ds) = 7 + wtL ds := by simp only [wt]
theorem wt_lst (ds : List PyData) : wt (.list ds) = 7 + wtL ds := by simp only [wt]
theorem wtL_cons (d : PyData) (ds : List PyData) : wtL (d :: ds) = 2 + wt d + wtL ds := by simp only [wtL]
theorem wtL_app : ∀ (a b : List PyData), wtL (a ++ b) = wtL a + wtL b
  | [], b => by simp [wtL]
  | d :: a, b => by simp only [List.cons_append, wtL_cons, wtL_app a b]; omega
theorem wt_low (d : PyData) : 7 ≤ wt d := by cases d <;> simp only [wt] <;> omega
theorem wtL_len : ∀ (a : List PyData), a.length ≤ wtL a
  | [] => Nat.le_refl _
  | d :: a => by
    have := wtL_len a
    rw [wtL_cons, List.length_cons]
    omega
mutual
theorem shown_wt : ∀ (d : PyData), d.shown.length ≤ wt d
  | .none => by simp only [wt]; omega
  | .bool _ => by simp only [wt]; omega
  | .int _ => by simp only [wt]; omega
  | .str _ => by simp only [wt]; omega
  | .dict _ => by simp only [wt]; omega
  | .list ds => by
    have h := listText_len_le (PyData.shownAll ds)
    have g := shownAll_wt ds
    simp only [PyData.shown, wt]
    omega
  | .tuple ds => by
    have h := tupleText_len_le (PyData.shownAll ds)
    have g := shownAll_wt ds
    simp only [PyData.shown, wt]
    omega
theorem shownAll_wt : ∀ (ds : List PyData), ((PyData.shownAll ds).map (·.length)).sum + 2 * (PyData.shownAll ds).length ≤ wtL ds
  | [] => by simp [PyData.shownAll, wtL]
  | d :: ds => by
    have h := shown_wt d
    have g := shownAll_wt ds
    simp only [PyData.shownAll, wtL, List.map_cons, List.sum_cons, List.length_cons]
    omega
end
theorem wt_kd : ∀ {k : Kd} {n : Nat}, k.fit n → wt k.dat + 300 ≤ 500 * 2 ^ n
  | .var x, n, h => by
    have w : Wok x := by cases n <;> exact h
    have h2 := shown_word w
    have h3 := shown_var
    have : 1 ≤ 2 ^ n := Nat.one_le_two_pow
    show wt (.tuple [.str "var", .str x]) + 300 ≤ _
    rw [wt_tup, wtL_cons, wtL_cons]
    simp only [wt, wtL]
    omega
  | .con x, n, h => by
    have w : Wok x := by cases n <;> exact h
    have h2 := shown_word w
    have h3 := shown_con
    have : 1 ≤ 2 ^ n := Nat.one_le_two_pow
    show wt (.tuple [.str "con", .str x]) + 300 ≤ _
    rw [wt_tup, wtL_cons, wtL_cons]
    simp only [wt, wtL]
    omega
  | .app a b, n, h => by
    obtain ⟨m, rfl, h1, h2⟩ := Kd.fit_app h
    have i1 := wt_kd h1
    have i2 := wt_kd h2
    have h3 := shown_apply
    show wt (.tuple [.str "apply", a.dat, b.dat]) + 300 ≤ _
    rw [wt_tup, wtL_cons, wtL_cons, wtL_cons, Nat.pow_succ]
    simp only [wtL]
    have e : wt (.str "apply") = 7 + (PyData.str "apply").shown.length := by simp only [wt]
    rw [e]
    omega
end L3

namespace L3
open PySem L2 TL
theorem cut_front1 (xs : List V) : cutV xs none (some (-1)) = xs.dropLast := by
  unfold cutV
  rw [HT.sIx_none, List.drop_zero, Nat.sub_zero, List.dropLast_eq_take]
  congr 1
  show (if (-1 : Int) < 0 then ((-1 : Int) + (xs.length : Int)).toNat else min (-1 : Int).toNat xs.length) = xs.length - 1
  rw [if_pos (by decide)]
  omega
/-- what stands in a short row of the law's values -/
structure Al (ds : List PyData) (n : Nat) : Prop where
  sh : PyData.showableAll ds = true
  dep : PyData.depthAll ds ≤ 2
  nd : PyData.hasDictAll ds = false
  w : wtL ds ≤ n
  nl : noListA ds = true
  cp : ∀ p ∈ (PyData.shownAll ds).map tl, ∀ c ∈ p, c < 128
def lowB (d : PyData) : Bool := (tl d.shown).all fun c => decide (c < 128)
theorem al_nil : Al [] 0 := ⟨by simp [PyData.showableAll], by simp [PyData.depthAll], by simp [PyData.hasDictAll], by simp [wtL], rfl, fun p h => by simp [PyData.shownAll] at h⟩
theorem al_cons {d : PyData} {ds : List PyData} {n : Nat} (h : Al ds n) (h1 : d.showable = true) (h2 : d.depth ≤ 2) (h3 : d.hasDict = false) (h4 : wt d ≤ 18) (h5 : noList d = true) (h6 : lowB d = true) : Al (d :: ds) (n + 20) :=
  ⟨by simp only [PyData.showableAll, h1, h.sh]; rfl, by simp only [PyData.depthAll]; have := h.dep; omega, by simp only [PyData.hasDictAll, h3, h.nd]; rfl, by rw [wtL_cons]; have := h.w; omega, by simp only [noListA, h5, h.nl]; rfl, fun p hp => by
    rw [show PyData.shownAll (d :: ds) = d.shown :: PyData.shownAll ds by simp only [PyData.shownAll], List.map_cons] at hp
    rcases List.mem_cons.mp hp with rfl | hp
    · exact fun c hc => of_decide_eq_true (List.all_eq_true.mp h6 c hc)
    · exact h.cp p hp⟩
theorem al_ints {ds : List PyData} {n : Nat} (h : Al ds n) : ∀ {p : List Nat}, (∀ k ∈ p, k < 4) → Al (nints p ++ ds) (n + 20 * p.length)
  | [], _ => h
  | k :: p, hp => by
    have := al_ints (p := p) h fun j hj => hp j (List.mem_cons_of_mem _ hj)
    have hk := hp k List.mem_cons_self
    have e : (PyData.int (k : Int)).showable = true ∧ (PyData.int (k : Int)).depth ≤ 2 ∧ (PyData.int (k : Int)).hasDict = false ∧ wt (.int (k : Int)) ≤ 18 ∧ noList (.int (k : Int)) = true ∧ lowB (.int (k : Int)) = true := by
      match k, hk with
      | 0, _ => decide +kernel
      | 1, _ => decide +kernel
      | 2, _ => decide +kernel
      | 3, _ => decide +kernel
    have := al_cons this e.1 e.2.1 e.2.2.1 e.2.2.2.1 e.2.2.2.2.1 e.2.2.2.2.2
    rw [show n + 20 * p.length + 20 = n + 20 * (k :: p).length by rw [List.length_cons]; omega] at this
    exact this
structure Cho (d : PyData) : Prop where
  sh : d.showable = true
  dep : d.depth ≤ 60
  len : d.shown.length ≤ 1000
  nd : d.hasDict = false
  ni : ∀ i, d ≠ .int i
  fl : noList d = true ∨ ∃ ds, d = .list ds ∧ noListA ds = true
  kind : (∃ p, d = plD p ∧ ∀ n ∈ p, n < 4) ∨ oddD d
  cp : ∀ c ∈ tl d.shown, c < 128
theorem cho_tup {ds : List PyData} {n : Nat} (h : Al ds n) (hn : n ≤ 900) (k : (∃ p, PyData.tuple ds = plD p ∧ ∀ n ∈ p, n < 4) ∨ oddD (.tuple ds)) : Cho (.tuple ds) :=
  ⟨by simp only [PyData.showable, h.sh], by simp only [PyData.depth]; have := h.dep; omega, Nat.le_trans (shown_wt _) (by rw [wt_tup]; have := h.w; omega), by simp only [PyData.hasDict, h.nd], (fun i z => by cases z), .inl (by simp only [noList, h.nl]), k, low_tup h.cp⟩
theorem cho_lst {ds : List PyData} {n : Nat} (h : Al ds n) (hn : n ≤ 900) : Cho (.list ds) :=
  ⟨by simp only [PyData.showable, h.sh], by simp only [PyData.depth]; have := h.dep; omega, Nat.le_trans (shown_wt _) (by rw [wt_lst]; have := h.w; omega), by simp only [PyData.hasDict, h.nd], (fun i z => by cases z), .inr ⟨ds, rfl, h.nl⟩, .inr (odd_list ds), low_lst h.cp⟩
theorem cho_pl {p : List Nat} (hp : ∀ k ∈ p, k < 4) (hl : p.length ≤ 20) : Cho (plD p) := by
  have h := al_ints al_nil hp
  rw [List.append_nil] at h
  exact cho_tup h (by omega) (.inl ⟨p, rfl, hp⟩)
theorem low_of {d : PyData} (h : lowB d = true) : ∀ c ∈ tl d.shown, c < 128 := fun c hc => of_decide_eq_true (List.all_eq_true.mp h c hc)
theorem cho_non : Cho .none := ⟨by decide +kernel, by decide +kernel, by decide +kernel, by decide +kernel, (fun i z => by cases z), .inl rfl, .inr odd_non, low_of (by decide +kernel)⟩
theorem cho_zero : Cho (.str "0") := ⟨by decide +kernel, by decide +kernel, by decide +kernel, by decide +kernel, (fun i z => by cases z), .inl rfl, .inr odd_zero, low_of (by decide +kernel)⟩
theorem cho_neg : Cho (.tuple [.int (-1)]) := ⟨by decide +kernel, by decide +kernel, by decide +kernel, by decide +kernel, (fun i z => by cases z), .inl rfl, .inr (odd_tup (by simp) odd_neg), low_of (by decide +kernel)⟩
theorem cho_true {p : List Nat} (hp : ∀ k ∈ p, k < 4) (hl : p.length ≤ 20) : Cho (.tuple (nints p ++ [.bool true])) :=
  cho_tup (al_ints (al_cons al_nil (by decide +kernel) (by decide +kernel) (by decide +kernel) (by decide +kernel) rfl (by decide +kernel)) hp) (by omega) (.inr (odd_tup (by simp) odd_true))
theorem cho_a {p : List Nat} (hp : ∀ k ∈ p, k < 4) (hl : p.length ≤ 20) : Cho (.tuple (nints p ++ [.str "a"])) :=
  cho_tup (al_ints (al_cons al_nil (by decide +kernel) (by decide +kernel) (by decide +kernel) (by decide +kernel) rfl (by decide +kernel)) hp) (by omega) (.inr (odd_tup (by simp) odd_a))
theorem cho_list {p : List Nat} (hp : ∀ k ∈ p, k < 4) (hl : p.length ≤ 20) : Cho (.list (nints p)) := by
  have h := al_ints al_nil hp
  rw [List.append_nil] at h
  exact cho_lst h (by omega)
/-- a chosen value, not the list at lf -/
def ChAt (t lf : Addr) (H : Hp) (v : V) (d : PyData) : Prop := Da t H v d ∧ Cho d ∧ v ≠ .ref lf
theorem ChAt.put {t lf : Addr} {H : Hp} {v : V} {d : PyData} {xs ys : List V} (h : ChAt t lf H v d) (g : H lf = some (.lst xs)) : ChAt t lf (upd H lf (.lst ys)) v d := by
  obtain ⟨hd, hc, hv⟩ := h
  refine ⟨?_, hc, hv⟩
  have k := tk_upd (ys := ys) g
  rcases hc.fl with f | ⟨ds, rfl, f⟩
  · exact hd.tups k f hc.nd
  · have nd := hc.nd
    simp only [PyData.hasDict] at nd
    cases hd with
    | @lst a zs _ ga ns hs =>
      refine .lst ?_ ns (hs.tups k f nd)
      rw [upd_ne (fun z => hv (by rw [z]))]
      exact ga
theorem ChAt.kp {t lf : Addr} {H H' : Hp} {v : V} {d : PyData} (h : ChAt t lf H v d) (k : Kp t H H') : ChAt t lf H' v d := ⟨h.1.kp k, h.2.1, h.2.2⟩
theorem chs_put {t lf : Addr} {H : Hp} {xs ys : List V} (g : H lf = some (.lst xs)) : ∀ {us : List V} {ds : List PyData}, Paired (ChAt t lf H) us ds → Paired (ChAt t lf (upd H lf (.lst ys))) us ds
  | _, _, .nil => .nil
  | _, _, .cons a r => .cons (a.put g) (chs_put g r)
theorem chs_kp {t lf : Addr} {H H' : Hp} (k : Kp t H H') : ∀ {us : List V} {ds : List PyData}, Paired (ChAt t lf H) us ds → Paired (ChAt t lf H') us ds
  | _, _, .nil => .nil
  | _, _, .cons a r => .cons (a.kp k) (chs_kp k r)
theorem chs_da {t lf : Addr} {H : Hp} : ∀ {us : List V} {ds : List PyData}, Paired (ChAt t lf H) us ds → DaAll t H us ds ∧ ∀ d ∈ ds, Cho d
  | _, _, .nil => ⟨.nil, fun d h => by cases h⟩
  | _, _, .cons a r => by
    obtain ⟨h1, h2⟩ := chs_da r
    refine ⟨.cons a.1 h1, fun d hd => ?_⟩
    rcases List.mem_cons.mp hd with rfl | hd
    · exact a.2.1
    · exact h2 d hd
theorem da_ints {t : Addr} {H : Hp} : ∀ p : List Nat, DaAll t H (plV p) (nints p)
  | [] => .nil
  | n :: p => .cons (.int _) (da_ints p)
theorem pl_da {t : Addr} {H : Hp} {a : Addr} {p : List Nat} (g : H a = some (.tup (plV p))) : Da t H (.ref a) (plD p) := .tup g (da_ints p)
theorem plV_snoc (p : List Nat) (n : Nat) : plV p ++ [V.int (n : Int)] = plV (p ++ [n]) := by
  unfold plV
  rw [List.map_append]
  rfl
theorem spot_ok {m m' : Tm} {p : List Nat} (h : (p, m') ∈ m.spots) : (∀ n ∈ p, n < 4) ∧ p.length ≤ m.deep := by
  have h1 := (spots_at p m m').mp h
  obtain ⟨h2, h3, h4⟩ := at_num (d := plD p) (show walkT m (nints p) = some m' from h1)
  have e : nums (plD p) = p := by
    show ((p.map fun n : Nat => PyData.int (n : Int)).map num1) = p
    rw [List.map_map]
    refine (List.map_congr_left fun n _ => ?_).trans (List.map_id p)
    exact Int.toNat_natCast n
  rw [e] at h3 h4
  exact ⟨fun n hn => Nat.lt_succ_of_lt (h4 n hn), h3⟩
theorem paired_tk {H H' : Hp} (k : TupsKept H H') : ∀ {us : List V} {ps : List (List Nat)}, Paired (PlAt H) us ps → Paired (PlAt H') us ps
  | _, _, .nil => .nil
  | _, _, .cons a r => by
    obtain ⟨b, rfl, g⟩ := a
    exact .cons ⟨b, rfl, k _ _ g⟩ (paired_tk k r)
theorem paired_mem {α β : Type} {R : α → β → Prop} {x : α} : ∀ {as : List α} {bs : List β}, Paired R as bs → x ∈ as → ∃ y ∈ bs, R x y
  | _, _, .nil, h => by cases h
  | _, _, .cons a r, h => by
    rcases List.mem_cons.mp h with rfl | h
    · exact ⟨_, List.mem_cons_self, a⟩
    · obtain ⟨y, hy, hr⟩ := paired_mem r h
      exact ⟨y, List.mem_cons_of_mem _ hy, hr⟩
section
variable {P : Program} {w : World} {K : PySem.W.Frag} {mg : Str → Option Value} {base : Heap}
abbrev s__law_chosen : Stmt := topS 43
abbrev N__law_chosen : List Str := ["_law_tape", "_law_term", "_law_spots_here", "_law_found", "_law_k", "_law_spot", "_law_odd", "_law_pair"]
theorem sc__law_chosen : FnScope N__law_chosen ["_law_tape", "_law_term"] (defScope s__law_chosen) := ⟨rfl, rfl, rfl, by decide +kernel, rfl, by decide +kernel, by decide +kernel⟩
def spChosen0 (K : PySem.W.Frag) : Sp := fun vs H Q _ => ∃ (t c : Addr) (v : V) (m : Tm) (b : Nat), vs = [.ref t, v] ∧ Da t H v m.d ∧ m.deep ≤ 6 ∧ Tape K H t c (b + 17) ∧
  ∀ H' l us ds, Ext t H H' → Tape K H' t c b → H' l = some (.lst us) → H l = none → DaAll t H' us ds → ds.length ≤ 4 → (∀ d ∈ ds, Cho d) → Q (.ref l) H'
theorem ok_chosen {f : Addr} {fd : FuncData} (F : Fun K "_law_chosen" "_law_chosen" s__law_chosen f fd) (B : Bl mg) (D__law_draw : Kn P w K mg base 1 "_law_draw" ["_law_tape", "_law_many"] (spDraw K)) (D__law_pick : Kn P w K mg base 2 "_law_pick" ["_law_tape", "_law_items"] (spPick K))
    (D__law_spots : Kn P w K mg base 2 "_law_spots" ["_law_term"] spSpots) : FnOk P w K mg base CX0 3 f fd ["_law_tape", "_law_term"] (spChosen0 K) := by
  refine F.ok sc__law_chosen (fun vs H Q E h => ?_) (fun cdv A outer s H vs Q E hr h => ?_)
  · obtain ⟨t, c, v, m, b, rfl, _⟩ := h
    rfl
  · obtain ⟨t, c, v, m, b, rfl, hd, h6, tp, kk⟩ := h
    have hu64 := hr.units
    have hr__law_draw : Room 1 _ := hr.mono (by omega)
    have hr__law_pick : Room 2 _ := hr
    have hr__law_spots : Room 2 _ := hr
    refine ⟨_, (pss_cons (ps_par (i := 2) (j := 3) (by rfl) sc__law_chosen.nd rfl rfl (by decide) rfl rfl (pa_cons (pe_lc (own := [("_law_pair", 7)]) rfl sc__law_chosen.nd (pi_list (pe_kn D__law_spots hr__law_spots (pa_cons (pv 1) pa_nil))) (blkOk_by (N := N__law_chosen) (sc := (defScope s__law_chosen)) (own := [("_law_pair", 7)]) (by decide +kernel)) (fun _ _ _ _ _ => (pg_name (i := 7) sc__law_chosen.nd rfl (Or.inl rfl))) (fun _ _ _ _ _ => pts_nil) (fun _ _ _ _ _ => (pe_ix (show IxR _ (rIxT K) from ix_tup) (pv 7) pe_int (fun _ _ => rfl)))) (pa_cons (pe_lst pa_nil) pa_nil)) (by rfl))
  (pss_cons (ps_for PassesOwn.never rfl (pi_range1 (by rfl) B.range (pa_cons (pe_kn D__law_draw hr__law_draw (pa_cons (pv 0) (pa_cons pe_int pa_nil))) pa_nil)) (pg_name (i := 4) sc__law_chosen.nd rfl (Or.inl rfl))
  (pss_cons (ps_set (i := 5) sc__law_chosen.nd rfl (Or.inl rfl) (pe_kn D__law_pick hr__law_pick (pa_cons (pv 0) (pa_cons (pv 2) pa_nil))))
  (pss_cons (ps_set (i := 6) sc__law_chosen.nd rfl (Or.inl rfl) (pe_lst (pa_cons (pe_op op_catA (pv 5) (pe_tup (pa_cons (pe_kn D__law_draw hr__law_draw (pa_cons (pv 0) (pa_cons pe_int pa_nil))) pa_nil))) (pa_cons (pe_callTy call_listN (by rfl) B.list (by decide +kernel) (pa_cons (pv 5) pa_nil)) (pa_cons (pe_slice sl_tupA (pv 5) po_none (po_some (pe_un un_neg pe_int))) (pa_cons (pe_op op_catA (pv 5) (pe_tup (pa_cons pe_bl pa_nil))) (pa_cons pe_non (pa_cons (pe_tup (pa_cons (pe_un un_neg pe_int) pa_nil)) (pa_cons pe_str (pa_cons (pe_op op_catA (pv 5) (pe_tup (pa_cons pe_str pa_nil))) pa_nil))))))))))
  (pss_one (ps_expr (pe_bm PySem.F.plainAttrs_list PySem.F.slot_list_append PySem.F.type_list_append mt_append (pv 3) (pa_cons (pe_ifExp (pt_cmpR op_eq (pe_kn D__law_draw hr__law_draw (pa_cons (pv 0) (pa_cons pe_int pa_nil))) pe_int (nomark _)) (pe_kn D__law_pick hr__law_pick (pa_cons (pv 0) (pa_cons (pv 6) pa_nil))) (pv 5)) pa_nil)))))))
  (pss_one (ps_ret (pv 3))))), ?_⟩
    refine ⟨_, rfl, t, v, m, rfl, hd, h6, fun H1 l us s1 gl fl ps => ?_⟩
    have tot := spots_len m
    have p7 : 4 ^ (m.deep + 1) ≤ 4 ^ 7 := Nat.pow_le_pow_right (by omega) (by omega)
    have p7' : (4 : Nat) ^ 7 = 16384 := by decide
    have lps := Paired.length ps
    refine ⟨l, rfl, ⟨_, SqL.of gl⟩, fun D hD => ?_⟩
    refine lc_it (J := Itl K l) (g := gName 7) walk_list (fun j H' => Same H1 H' ∧ ∃ xs, H' D = some (.lst xs) ∧ Paired (PlAt H') xs ((m.spots.map Prod.fst).take j)) ⟨same_new hD, [], upd_same, .nil⟩ (fun j H' _ h => SqL.of (h.1 _ _ gl)) ?_ ?_
    · rintro j y H7 H8 hj ⟨s7, xs, gD, pz⟩ ⟨rfl, ey⟩
      refine ⟨rfl, ?_⟩
      obtain ⟨q, eq, hq⟩ := L3.paired_get ps ey
      obtain ⟨a, u, w', rfl, ga, pu, dw⟩ := hq
      have kD := tk_upd (ys := xs ++ [u]) gD
      have lx := Paired.length pz
      rw [List.length_take, List.length_map] at lx
      refine ⟨_, rfl, a, _, 0, _, rfl, rfl, SqT.of (s7 _ _ ga), rfl, xs, gD, szl (by omega), fun b o z => ?_, xs ++ [u], upd_same, ?_⟩
      · rw [upd_ne (ne_of_none z hD)]
        exact s7 _ _ z
      · rw [List.take_add_one, List.getElem?_map, eq]
        have hu : PlAt H8 u q.1 := pu.same s7
        exact pls_snoc gD hu pz
    · rintro H2 ⟨s2, xs, gD, pz⟩
      rw [List.take_of_length_le (by rw [List.length_map]; omega)] at pz
      refine ⟨slz rfl, fun lf hlf => ⟨_, _, rfl, ?_⟩⟩
      have s3 := same_new (o := .lst []) hlf
      have S2 := s1.trans s2
      have S3 := S2.trans s3
      have gf := upd_same (H := H2) (a := lf) (o := .lst [])
      have gh := s3 _ _ gD
      have pz3 := paired_same s3 pz
      have hlf0 : H lf = none := S2.free hlf
      have T3 := tp.same S3
      have nfD : lf ≠ D := fun z => by rw [z, gD] at hlf; cases hlf
      generalize upd H2 lf (.lst []) = H3 at s3 S3 gf gh pz3 T3 ⊢
      refine ⟨_, rfl, t, c, 5, b + 16, rfl, by decide, by decide, T3.less (by omega), fun H4 r e4 T4 r0 r5 => ?_⟩
      have nft : lf ≠ t := tp.ne hlf0
      have nDt : D ≠ t := (tp.same s1).ne hD
      have E4 := (same_ext (t := t) S3).trans e4
      refine ⟨r, rfl, by omega, by omega, for_it (walk_range (lo := 0) (n := r.toNat)) (fun i σ H' => Ext t H H' ∧ Tape K H' t c (b + 4 * (r.toNat - i)) ∧ (∃ v4 v5 v6 v7, σ = [some (.ref t), some v, some (.ref D), some (.ref lf), v4, v5, v6, v7]) ∧ H' D = some (.lst xs) ∧ Paired (PlAt H') xs (m.spots.map Prod.fst) ∧
          ∃ us ds, H' lf = some (.lst us) ∧ Paired (ChAt t lf H') us ds ∧ us.length = i) ⟨E4, T4.less (by omega), ⟨_, _, _, _, rfl⟩, e4 D _ nDt gh, paired_tk (tk_ext e4 T3) pz3, [], [], e4 lf _ nft gf, .nil, rfl⟩ (fun _ _ _ _ _ => trivial) ?_ ?_⟩
      · rintro i y σ H5 H6 hi ⟨e5, T5, ⟨v4, v5, v6, v7, rfl⟩, gD5, pz5, us5, ds5, gf5, pc5, lu5⟩ ⟨rfl, ey⟩
        have ey : y = .int (i : Int) := by
          have e : y = .int (0 + (i : Int)) := ey
          rw [Int.zero_add] at e
          exact e
        subst ey
        have lxs := Paired.length pz5
        rw [List.length_map] at lxs
        have sp1 : 0 < m.spots.length := by cases m <;> simp [Tm.spots]
        refine ⟨_, rfl, _, rfl, t, c, D, xs, b + 4 * (r.toNat - (i + 1)) + 3, rfl, SqL.of gD5, by omega, by omega, T5.less (by omega), fun H7 sv e7 T7 hsv => ?_⟩
        have k7 := kpx e7 T5
        obtain ⟨p, hp, hps⟩ := paired_mem (paired_tk k7.u pz5) hsv
        obtain ⟨⟨p', m'⟩, hpm, rfl⟩ := List.mem_map.mp hp
        obtain ⟨hp4, hpl⟩ := spot_ok hpm
        obtain ⟨sa, rfl, gsa⟩ := hps
        have lp : (plV p').length ≤ 20 := by
          unfold plV
          rw [List.length_map]
          exact Nat.le_trans hpl (by omega)
        have lp' : p'.length ≤ 20 := Nat.le_trans hpl (by omega)
        refine ⟨_, rfl, _, rfl, t, c, 4, b + 4 * (r.toNat - (i + 1)) + 2, rfl, by decide, by decide, T7.less (by omega), fun H8 nn e8 T8 n0 n4 => ?_⟩
        obtain ⟨n, rfl⟩ : ∃ n : Nat, nn = (n : Int) := ⟨nn.toNat, by omega⟩
        have k8 := kpx e8 T7
        have gs8 := k8.u _ _ gsa
        refine ⟨slz rfl, fun o1 ho1 => ?_⟩
        have t1 := same_new (o := .tup [.int (n : Int)]) ho1
        have hz1 : ∀ e : V, (plV p').length + [e].length ≤ 900000 := fun e => by
          simp only [List.length_cons, List.length_nil]
          omega
        refine catA_ok (t1 _ _ gs8) upd_same (hz1 _) fun H9 q1 t2 g1 => ?_
        rw [plV_snoc] at g1
        have S9 := t1.trans t2
        refine ⟨_, rfl, sa, plV p', rfl, SqT.of (S9 _ _ gs8), fun q2 hq2 nq2 => ?_⟩
        have t3 := same_new (o := .lst (plV p')) hq2
        have g2 := upd_same (H := H9) (a := q2) (o := .lst (plV p'))
        have S10 := S9.trans t3
        have e58 := e7.trans e8
        have gf8 := e58 lf _ nft gf5
        have n2f : q2 ≠ lf := fun z => by rw [z, S9 _ _ gf8] at hq2; cases hq2
        generalize upd H9 q2 (.lst (plV p')) = H10 at t3 g2 S10 ⊢
        refine ⟨_, rfl, ?_⟩
        unfold tNoPart
        refine ⟨_, rfl, _, rfl, slA (S10 _ _ gs8) fun H11 q3 t4 g3 => ?_⟩
        rw [cut_front1] at g3
        have S11 := S10.trans t4
        refine ⟨_, rfl, slz rfl, fun o4 ho4 => ?_⟩
        have t5 := same_new (o := .tup [.bl true]) ho4
        refine catA_ok (t5 _ _ (S11 _ _ gs8)) upd_same (hz1 _) fun H13 q4 t6 g4 => ?_
        have S13 := S11.trans (t5.trans t6)
        refine ⟨_, rfl, slz rfl, fun o5 ho5 => ?_⟩
        have t7 := same_new (o := .tup [.int (-1)]) ho5
        have g5 := upd_same (H := H13) (a := o5) (o := .tup [.int (-1)])
        have S14 := S13.trans t7
        refine ⟨_, rfl, slz rfl, fun o6 ho6 => ?_⟩
        have t8 := same_new (o := .tup [.str "a"]) ho6
        refine catA_ok (t8 _ _ (S14 _ _ gs8)) upd_same (hz1 _) fun H16 q6 t9 g6 => ?_
        have S16 := S14.trans (t8.trans t9)
        refine ⟨slz rfl, fun lo hlo => ?_⟩
        have t10 := same_new (o := .lst [.ref q1, .ref q2, .ref q3, .ref q4, .non, .ref o5, .str "0", .ref q6]) hlo
        have glo := upd_same (H := H16) (a := lo) (o := .lst [.ref q1, .ref q2, .ref q3, .ref q4, .non, .ref o5, .str "0", .ref q6])
        have S20 := S16.trans t10
        have u16 := t8.trans (t9.trans t10)
        have u13 := t7.trans u16
        have u11 := t5.trans (t6.trans u13)
        have c6 := t10 _ _ g6
        have c5 := u16 _ _ g5
        have c4 := u13 _ _ g4
        have c3 := u11 _ _ g3
        have c2 := (t4.trans u11) _ _ g2
        have c1 := (t3.trans (t4.trans u11)) _ _ g1
        have T20 := T8.same S20
        have gf20 := S20 _ _ gf8
        have gs20 := S20 _ _ gs8
        generalize upd H16 lo (.lst [.ref q1, .ref q2, .ref q3, .ref q4, .non, .ref o5, .str "0", .ref q6]) = H20 at S20 c6 c5 c4 c3 c2 c1 T20 gf20 gs20 glo ⊢
        have tne : ∀ {a : Addr} {xs : List V}, H20 a = some (.tup xs) → V.ref a ≠ .ref lf := fun {a xs} g z => by
          injection z with z
          rw [z, gf20] at g
          cases g
        have chs : ∀ x ∈ ([.ref q1, .ref q2, .ref q3, .ref q4, .non, .ref o5, .str "0", .ref q6] : List V), ∃ d, ChAt t lf H20 x d := fun x hx => by
          simp only [List.mem_cons, List.not_mem_nil, or_false] at hx
          have lq := lp'
          rcases hx with rfl | rfl | rfl | rfl | rfl | rfl | rfl | rfl
          · refine ⟨plD (p' ++ [n]), pl_da c1, cho_pl (fun k hk => ?_) (by rw [List.length_append]; simp only [List.length_cons, List.length_nil]; omega), tne c1⟩
            rcases List.mem_append.mp hk with hk | hk
            · exact hp4 k hk
            · rw [List.mem_singleton.mp hk]
              omega
          · exact ⟨.list (nints p'), .lst c2 nq2 (da_ints p'), cho_list hp4 lq, fun z => n2f (by injection z)⟩
          · have e : (plV p').dropLast = plV p'.dropLast := by
              unfold plV
              rw [List.map_dropLast]
            rw [e] at c3
            exact ⟨plD p'.dropLast, pl_da c3, cho_pl (fun k hk => hp4 k ((List.dropLast_sublist p').subset hk)) (by rw [List.length_dropLast]; omega), tne c3⟩
          · exact ⟨.tuple (nints p' ++ [.bool true]), .tup c4 ((da_ints p').app (.cons (.bl true) .nil)), cho_true hp4 lq, tne c4⟩
          · exact ⟨.none, .non, cho_non, fun z => by cases z⟩
          · exact ⟨.tuple [.int (-1)], .tup c5 (.cons (.int (-1)) .nil), cho_neg, tne c5⟩
          · exact ⟨.str "0", .str _, cho_zero, fun z => by cases z⟩
          · exact ⟨.tuple (nints p' ++ [.str "a"]), .tup c6 ((da_ints p').app (.cons (.str _) .nil)), cho_a hp4 lq, tne c6⟩
        have e520 : Ext t H6 H20 := e58.trans (same_ext S20)
        have fin : ∀ (H22 : Hp) (x : V) (d : PyData), Ext t H20 H22 → Tape K H22 t c (b + 4 * (r.toNat - (i + 1))) → ChAt t lf H22 x d → Ext t H (upd H22 lf (.lst (us5 ++ [x]))) ∧ Tape K (upd H22 lf (.lst (us5 ++ [x]))) t c (b + 4 * (r.toNat - (i + 1))) ∧ (upd H22 lf (.lst (us5 ++ [x]))) D = some (.lst xs) ∧ Paired (PlAt (upd H22 lf (.lst (us5 ++ [x])))) xs (m.spots.map Prod.fst) ∧
          ∃ us ds, (upd H22 lf (.lst (us5 ++ [x]))) lf = some (.lst us) ∧ Paired (ChAt t lf (upd H22 lf (.lst (us5 ++ [x])))) us ds ∧ us.length = i + 1 := fun H22 x d e22 T22 hx => by
          have E22 := e520.trans e22
          have g22 := E22 lf _ nft gf5
          have k22 := kpx E22 T5
          refine ⟨(e5.trans E22).upd hlf0, Tape.put tp (e5.trans E22) T22 hlf0, ?_, paired_tk (tk_upd g22) (paired_tk k22.u pz5), us5 ++ [x], ds5 ++ [d], upd_same, ?_, by rw [List.length_append, lu5]; rfl⟩
          · rw [upd_ne nfD.symm]
            exact E22 D _ nDt gD5
          · exact paired_app (chs_put g22 (chs_kp k22 pc5)) (.cons (hx.put g22) .nil)
        refine ⟨_, rfl, .inl ⟨rfl, _, SqL.of gf20⟩, ?_⟩
        refine ⟨_, rfl, t, c, 5, b + 4 * (r.toNat - (i + 1)) + 1, rfl, by decide, by decide, T20.less (by omega), fun H21 r2 e21 T21 z0 z5 => ⟨rfl, _, rfl, ?_⟩⟩
        have k21 := kpx e21 T20
        by_cases c0 : r2 = 0
        · subst c0
          refine iT rfl ?_
          have nlo : lo ≠ t := fun z => by
            obtain ⟨kvs, h2⟩ := T20.dict
            rw [z, h2] at glo
            cases glo
          refine ⟨_, rfl, _, rfl, t, c, lo, _, b + 4 * (r.toNat - (i + 1)), rfl, SqL.of (e21 lo _ nlo glo), (show 0 < 8 by decide), (show 8 < 1000000 by decide), T21.less (by omega), fun H22 x e22 T22 hx => ?_⟩
          obtain ⟨d, hd2⟩ := chs x hx
          have e2122 := e21.trans e22
          obtain ⟨f1, f2, f3, f4, f5⟩ := fin H22 x d e2122 T22 (hd2.kp (kpx e2122 T20))
          exact ⟨lf, us5, x, rfl, rfl, e2122 lf _ nft gf20, szl (by omega), f1, f2, ⟨_, _, _, _, rfl⟩, f3, f4, f5⟩
        · refine iF (decide_eq_false fun z => c0 (by injection z)) ?_
          obtain ⟨f1, f2, f3, f4, f5⟩ := fin H21 (.ref sa) (plD p') e21 (T21.less (by omega)) (ChAt.kp ⟨pl_da gs20, cho_pl hp4 lp', tne gs20⟩ k21)
          exact ⟨_, rfl, lf, us5, .ref sa, rfl, rfl, e21 lf _ nft gf20, szl (by omega), f1, f2, ⟨_, _, _, _, rfl⟩, f3, f4, f5⟩
      · rintro σ H5 ⟨e5, T5, ⟨v4, v5, v6, v7, rfl⟩, gD5, pz5, us5, ds5, gf5, pc5, lu5⟩
        obtain ⟨da, hc⟩ := chs_da pc5
        refine ⟨_, rfl, kk H5 lf us5 ds5 e5 (T5.less (by omega)) gf5 hlf0 da (by rw [← da.len]; omega) hc⟩
end
end L3

/-! defs that are called where nothing is being shown: they may ask repr -/
namespace L3
open PySem PySem.Spec PyProof.Rows L2
def FnG (P : Program) (w : World) (K : PySem.W.Frag) (mg : Str → Option Value) (base : Heap) (k : Nat) (f : Addr) (sp : Sp) : Prop :=
  ∀ (A : Around) (outer : List Env) (s : Shared) (H : Hp) (us : List Value) (vs : List V) (Q : VK), Room k A → A.guards = some [] → Env0 P w K mg base A outer s H → Vals vs us → sp vs H Q E0 →
    codeAny (model P w) A (.call (.ref f) ⟨us, []⟩) (CR CX0 outer P w H s Q E0) s
structure KnG (P : Program) (w : World) (K : PySem.W.Frag) (mg : Str → Option Value) (base : Heap) (k : Nat) (x : Str) (sp : Sp) : Prop where
  ex : ∃ (f : Addr), FnG P w K mg base k f sp ∧ mg x = some (.ref f) ∧ PySem.W.keepIn K (.ref f) = true
section
variable {X : Cx} {x : Str} {k : Nat} {sp : Sp} {e : Expr} {es : List Expr} {t : TA} {p pos : Pos}
def tCallG (sp : Sp) (t : TA) : TE := fun σ H Q => t σ H fun vs H1 => sp vs H1 Q E0
theorem pe_kg (D : KnG X.prog X.w X.K X.mg X.base k x sp) (hr : Room k X.A) (h0 : X.A.guards = some []) (ha : PA X (e :: es) t) (hg : Gl X x := by rfl) (hdb : (x == ("__debug__" : Str)) = false := by decide)
    (he : starEach (e :: es) X.env = (false, eval e X.env) :: starEach es X.env := by rfl) (hpl : (backTo pos (starEach es X.env)).any (·.1) = false := by rfl) :
    PE X (.Call (.Name x p) (e :: es) [] pos) (tCallG sp t) := by
  obtain ⟨f, F, hm, hk⟩ := D.ex
  refine ⟨fun pins s σ H Q I h => ?_⟩
  refine wpAny_Call_Name_kw (ld_glob I hg hm ?_ hdb)
  refine PySem.W.callWith_K (h₀ := X.base) I.ok.mod.kin hk (thn (ha.run pos pins s σ H _ I h) fun us s1 ⟨vs, H1, I1, r, q⟩ => ⟨I1.kIn, ?_⟩) he hpl
  refine wpAny_call (codeAny_mono (F X.A X.stack s1 H1 us vs Q hr h0 I1.env0 r q) fun r' s' hq => ?_)
  cases r' with
  | error e => exact pass0 pins σ H1 s1 e s' I1 hq
  | ok fl =>
    cases fl with
    | ret u => exact I1.after hq
    | next => exact hq.elim
    | brk => exact hq.elim
    | cont => exact hq.elim
end
section
variable {P : Program} {w : World} {K : PySem.W.Frag} {mg : Str → Option Value} {base : Heap}
theorem fnG_of {qual : Str} {st : Stmt} {f : Addr} {fd : FuncData} {N ps : List Str} {k : Nat} {sp : Sp} (F : Fun K qual qual st f fd) (S : FnScope N ps (defScope st)) (len : ∀ vs H Q E, sp vs H Q E → vs.length = ps.length) (hb : Binds K fd ps [])
    (hbody : ∀ (cdv : Value) (A : Around) (outer : List Env) (s : Shared) (H : Hp) (vs : List V) (Q : VK), Room k (A.deeper (envOfC qual (defScope st) s.heap.objs.size f cdv)) → A.guards = some [] → sp vs H Q E0 →
      ∃ t, PSs (cxOf CX0 P w K mg base N qual (defScope st) f cdv A outer s H E0).nox (defBody st) t ∧ t { nx := fun _ H' => Q .non H', rt := Q } (start N vs) H) : FnG P w K mg base (k + 1) f sp := by
  obtain ⟨oc, od, kV, doc, pm, an, cdv, ct, osl, rfl, lk, hcd⟩ := F.ex
  intro A outer s H us vs Q hr h0 e0 rv hsp
  have inK : K.In s.heap := e0.mod.kin.keeps fun b o z => (e0.bs b o z).1
  have noL : s.heap.NoLimit := e0.mod.nolimit.keeps fun b o z => (e0.bs b o z).1
  have hl := len _ _ _ _ hsp
  have kinds : ∀ y ∈ (ps.zip us : List (Str × Value)), (defScope st).names.lookup y.1 = some .local ∨ ((defScope st).names.lookup y.1 = some .cell ∧ ((cellsFrom (s.heap.objs.size + 1) (defScope st).names []).lookup y.1).isSome = true) := by
    rintro ⟨n, z⟩ hy
    rcases S.par n (List.of_mem_zip hy).1 with q | q
    · exact Or.inl q
    · exact Or.inr ⟨q, PySem.W.cellsFrom_some _ _ _ (Or.inl q)⟩
  have bd : BindsTo s (PySem.W.fnOf qual qual (defArgs st) (defBody st) (defScope st) .none kV doc pm an cdv ct) ⟨us, []⟩ (ps.zip (us ++ [])) := hb s us inK (by rw [List.append_nil, ← rv.length]; exact hl)
  rw [List.append_nil] at bd
  refine codeAny_call_function hr.depth (inK _ _ lk) rfl S.co S.gen rfl (PySem.W.codeRec_of inK hcd) (bd _ _ _ _ ?_)
  refine wpAny_newFunctionEnv_cells S.kind kinds fun env he s1 xx => ?_
  subst he
  refine ⟨noL.keeps xx.toInCall.keep, codeAny_func ?_⟩
  obtain ⟨t, ht, hq⟩ := hbody cdv A outer s H vs Q (hr.deeper _) h0 hsp
  have J : Inv (cxOf CX0 P w K mg base N qual (defScope st) f cdv A outer s H E0) [] (start N vs) H s1 := inv_start S hr.hd e0 hl rv xx
  refine wpAny_mono ((PSs.nox ht).run [] s1 (start N vs) H _ J hq) (fun fl s' hs => ?_) (fun e s' hs => hs)
  cases fl with
  | next =>
    obtain ⟨σ', H', J', q⟩ := hs
    exact ⟨V.non, H', J'.os, J'.bare, J'.base, J'.hok, rfl, q⟩
  | ret z =>
    obtain ⟨v', σ', H', J', rz, q⟩ := hs
    exact ⟨v', H', J'.os, J'.bare, J'.base, J'.hok, rz, q⟩
  | brk =>
    obtain ⟨_, _, _, q⟩ := hs
    exact q.elim
  | cont =>
    obtain ⟨_, _, _, q⟩ := hs
    exact q.elim
theorem grd_deep {A : Around} {env : Env} (h : A.guards = some []) : (A.deeper env).guards = some [] := h
end
end L3

/-! repr of a value of any kind, at the law's own level -/
namespace L3
open PySem PySem.Spec PyProof.Rows L2
section
variable {X : Cx}
def rReprV (t : Addr) : List V → Hp → VK → Prop := fun xs H Q => ∃ (v : V) (d : PyData), xs = [v] ∧ Da t H v d ∧ d.showable = true ∧ d.depth ≤ 60 ∧ d.shown.length ≤ sizeLine ∧ (∀ i, d = .int i → i.natAbs.log2 < 1920) ∧ Q (.str d.shown) H
theorem call_reprV (t : Addr) (hg : X.A.guards = some []) (hu : X.A.units + 64 < cLine) : CallR X (.builtin "repr") (rReprV t) := by
  intro pins s σ H xs us Q I r h
  obtain ⟨v, d, rfl, hd, hs, hdep, hsz, hi, q⟩ := h
  obtain ⟨u, rfl, rx⟩ := vals1 r
  have any : ∀ E a, v = .ref a → wpAny (model X.prog X.w) X.A (call (.builtin "repr") [u]) (EP X pins σ Q) E s := fun E a e => by
    subst e
    obtain rfl : u = Value.ref a := rx
    obtain ⟨as, hr, n⟩ := Da.reads I d _ _ hd (show RelV (.ref a) (.ref a) from rfl)
    exact repr_of_reads' hr hs (fun _ => n) hg (by omega) (fun _ _ e => e) (fun h' u tk hk => ⟨.str d.shown, H, I.kept (t' := tk) hk, ⟨u, rfl⟩, q⟩) hsz
  cases d with
  | none =>
    cases hd
    cases (show u = Value.none from rx)
    exact PySem.P.repr_of_none ⟨.str _, H, I.tok _, ⟨_, rfl⟩, q⟩
  | bool b =>
    cases hd
    cases (show u = Value.bool b from rx)
    exact PySem.P.repr_of_bool ⟨.str _, H, I.tok _, ⟨_, rfl⟩, q⟩
  | int i =>
    cases hd
    obtain ⟨k, rfl⟩ := (show ∃ k, u = Value.int i k from rx)
    exact PySem.P.repr_of_int (hi i rfl) ⟨.str _, H, I.tok _, ⟨_, rfl⟩, q⟩
  | str x =>
    cases hd
    obtain ⟨k, rfl⟩ := (show ∃ k, u = Value.str x k from rx)
    exact PySem.P.repr_of_str ⟨.str _, H, I.tok _, ⟨_, rfl⟩, q⟩ hsz
  | list ds => cases id hd with | lst => exact any _ _ rfl
  | tuple ds => cases id hd with | tup => exact any _ _ rfl
  | dict ds => cases id hd with | dct => exact any _ _ rfl
end
end L3

/-! literals with an operator in them; a text times a number -/
namespace L3
open PySem PySem.Spec PyProof.Rows L2
/-- a text so often -/
def repS (x : Str) (n : Nat) : Str := ⟨(List.replicate n x.cps).foldl (· ++ ·) #[]⟩
theorem repS_len (x : Str) (n : Nat) : (repS x n).length = x.length * n := by
  have h : ∀ (k : Nat) (acc : Array Nat), ((List.replicate k x.cps).foldl (· ++ ·) acc).size = acc.size + x.length * k := by
    intro k
    induction k with
    | zero => intro acc; simp
    | succ k ih =>
      intro acc
      rw [List.replicate_succ, List.foldl_cons, ih, Array.size_append, Nat.mul_succ]
      show acc.size + x.length + _ = _
      omega
  have := h n #[]
  show ((List.replicate n x.cps).foldl (· ++ ·) #[]).size = _
  rw [this]
  simp
section
variable {X : Cx}
/-- a text that is not empty times a number above 1 -/
def rRepS : R2 := fun x y H Q => ∃ (a : Str) (k : Int), x = .str a ∧ y = .int k ∧ 2 ≤ k ∧ k ≤ 100000 ∧ 1 ≤ a.length ∧ a.length * k.toNat ≤ sizeLine ∧ Q (.str (repS a k.toNat)) H
theorem op_repS : OpR X (binaryOp .Mult) rRepS := by
  intro pins s σ H x y v u Q I rx ry h
  obtain ⟨a, k, rfl, rfl, k2, k3, l1, lz, q⟩ := h
  obtain ⟨t, rfl⟩ := (show ∃ t, v = Value.str a t from rx)
  obtain ⟨t', rfl⟩ := (show ∃ t, u = Value.int k t from ry)
  have n1 : (k == 1 || a.length == 0) = false := by
    rw [Bool.or_eq_false_iff]
    refine ⟨?_, ?_⟩
    · rw [beq_eq_false_iff_ne]
      omega
    · rw [beq_eq_false_iff_ne]
      omega
  refine PySem.P.mul_str ?_ (fun _ _ => ?_) (fun _ _ => ?_) ?_
  · rw [decide_eq_false (by omega), decide_eq_false (by omega)]
    rfl
  · have e : ((a.length * k.toNat : Nat) : Int) = (a.length : Int) * k := by
      rw [Int.natCast_mul, Int.toNat_of_nonneg (by omega)]
    have hz : ((a.length * k.toNat : Nat) : Int) ≤ (sizeLine : Int) := by omega
    rw [sizeLine_eq] at hz
    have : (a.length : Int) ≤ (2 ^ 63 - 1) / k := by
      rw [Int.le_ediv_iff_mul_le (by omega)]
      omega
    omega
  · exact decide_eq_false (by omega)
  · rw [if_neg (by omega), n1, if_neg Bool.false_ne_true]
    refine ⟨?_, ⟨.str (repS a k.toNat), H, I.tok _, ⟨_, rfl⟩, q⟩⟩
    show (repS a k.toNat).length ≤ sizeLine
    rw [repS_len]
    exact lz
end
section
variable {X : Cx} {e e2 : Expr} {pos : Pos} {t : Addr} {i j : Int}
theorem da_int {H : Hp} {v : V} (h : Da t H v (.int i)) : v = .int i := by cases h; rfl
theorem pl_negE (h : PE X e (tLit t (.int i))) : PE X (.UnaryOp .USub e pos) (tLit t (.int (-i))) :=
  (pe_un un_neg h).weak fun σ H Q ⟨ho, q⟩ => ⟨ho, fun H1 v s1 d1 => ⟨i, da_int d1, q H1 _ s1 (.int _)⟩⟩
theorem pl_addI (h : PE X e (tLit t (.int i))) (h2 : PE X e2 (tLit t (.int j))) : PE X (.BinOp e .Add e2 pos) (tLit t (.int (i + j))) :=
  (pe_op op_add h h2).weak fun σ H Q ⟨⟨o, ho⟩, q⟩ => ⟨⟨o, ho⟩, fun H1 v s1 d1 => ⟨⟨o, s1 _ _ ho⟩, fun H2 v2 s2 d2 => ⟨i, j, da_int d1, da_int d2, q H2 _ (s1.trans s2) (.int _)⟩⟩⟩
theorem pl_subI (h : PE X e (tLit t (.int i))) (h2 : PE X e2 (tLit t (.int j))) : PE X (.BinOp e .Sub e2 pos) (tLit t (.int (i - j))) :=
  (pe_op op_sub h h2).weak fun σ H Q ⟨⟨o, ho⟩, q⟩ => ⟨⟨o, ho⟩, fun H1 v s1 d1 => ⟨⟨o, s1 _ _ ho⟩, fun H2 v2 s2 d2 => ⟨i, j, da_int d1, da_int d2, q H2 _ (s1.trans s2) (.int _)⟩⟩⟩
theorem pl_rep {x : Str} {k : Int} (h : PE X e (tC (.str x))) (h2 : PE X e2 (tC (.int k))) (c : 2 ≤ k ∧ k ≤ 100000 ∧ 1 ≤ x.length ∧ x.length * k.toNat ≤ 100000 := by decide) : PE X (.BinOp e .Mult e2 pos) (tLit t (.str (repS x k.toNat))) :=
  (pe_op op_repS h h2).weak fun σ H Q ⟨_, q⟩ => ⟨x, k, rfl, rfl, c.1, c.2.1, c.2.2.1, Nat.le_trans c.2.2.2 (by decide), q H _ (Same.refl H) (.str _)⟩
end
/-- a new list, which is not the table of modules -/
def tLstN (t : TA) : TE := fun σ H Q => t σ H fun xs H1 => xs.length ≤ sizeLine ∧ ∀ p, H1 p = none → p ≠ sysModules → Q (.ref p) (upd H1 p (.lst xs))
theorem pe_lstN {X : Cx} {es : List Expr} {t : TA} {pos : Pos} (h : PA X es t) : PE X (.List es pos) (tLstN t) := by
  refine ⟨fun pins s σ H Q I hq => ?_⟩
  refine wpAny_List_spliced (thn (h.run pos pins s σ H (fun vs H1 => vs.length ≤ sizeLine ∧ ∀ p, H1 p = none → p ≠ sysModules → Q (.ref p) (upd H1 p (.lst vs))) I hq) fun us s1 ⟨xs, H1, I1, r, lz, kk⟩ => ⟨by rw [← r.length]; exact lz, ?_⟩)
  have hf : H1 s1.heap.objs.size = none := I1.hok.fresh (Nat.le_refl _)
  refine ⟨.ref s1.heap.objs.size, upd H1 s1.heap.objs.size (.lst xs), I1.laid (t' := s1.toks) (fun b u e => Heap.get?_push_of_some _ e) (Nat.le_refl _) ?_, rfl, kk _ hf (Nat.ne_of_gt I1.big)⟩
  exact ⟨lz, us, 0, r, Heap.get?_push_size _ rfl⟩
end L3

namespace L3
open PySem L2 StX
/-- how all its places are shown -/
def spotsS (m : Tm) : List Str := m.spots.map fun q => (plD q.1).shown
theorem shown_in {m : Tm} {d : PyData} (h : Cho d) : d.shown ∈ spotsS m ↔ ∃ m', atT m d = some m' := by
  constructor
  · intro hm
    obtain ⟨⟨q, m'⟩, hq, e⟩ := List.mem_map.mp hm
    obtain ⟨q4, _⟩ := spot_ok hq
    rcases h.kind with ⟨p, rfl, hp⟩ | ho
    · have e2 := pl_inj q4 hp e
      subst e2
      exact ⟨m', (spots_at q m m').mp hq⟩
    · exact absurd e.symm (odd_no ho q4)
  · rintro ⟨m', hat⟩
    obtain ⟨e, _, _⟩ := at_num hat
    refine List.mem_map.mpr ⟨(nums d, m'), ?_, by rw [← e]⟩
    rw [e] at hat
    exact (spots_at _ m m').mpr hat
theorem in_strs (x : Str) : ∀ l : List Str, inV (.str x) (l.map V.str) = decide (x ∈ l)
  | [] => by simp [inV]
  | y :: l => by
    have ih := in_strs x l
    unfold inV at ih ⊢
    rw [List.map_cons, List.any_cons, ih]
    show ((y == x) || decide (x ∈ l)) = _
    by_cases e : y = x
    · subst e
      rw [beq_self_eq_true, decide_eq_true (List.mem_cons_self)]
      rfl
    · have e2 : ¬ x = y := fun z => e z.symm
      rw [beq_eq_false_iff_ne.mpr e]
      simp [e2]
theorem flat_strs : ∀ l : List Str, (l.map V.str).all flatV = true
  | [] => rfl
  | y :: l => by
    rw [List.map_cons, List.all_cons, flat_strs l]
    rfl
theorem meets_ne (a b : List Nat) (v u : V) : ((if a.take b.length = b then [v] else []) ++ (if b.take a.length = a then [u] else [])).isEmpty = !meets b a := by
  unfold meets
  by_cases h1 : a.take b.length = b <;> by_cases h2 : b.take a.length = a <;> simp [h1, h2]
section
variable {P : Program} {w : World} {K : PySem.W.Frag} {mg : Str → Option Value} {base : Heap}
abbrev s__law_cut : Stmt := topS 44
abbrev N__law_cut : List Str := ["_law_term", "_law_chosen_here"]
theorem sc__law_cut : FnScope N__law_cut ["_law_term", "_law_chosen_here"] (defScope s__law_cut) := ⟨rfl, rfl, rfl, by decide +kernel, rfl, by decide +kernel, by decide +kernel⟩
def spLcut (C : Addr) (K : PySem.W.Frag) (n : Nat) : Sp := fun vs H Q E => ∃ (t : Addr) (v : V) (m : Tm) (l : Addr) (us : List V) (ds : List PyData), vs = [v, .ref l] ∧ Da t H v m.d ∧ m.ok = true ∧ m.deep < n ∧ m.deep ≤ 60 ∧ H l = some (.lst us) ∧ DaAll t H us ds ∧ us.length ≤ 4 ∧
  (refused m [] ds = none → ∀ H' x, Same H H' → Dp K H' x (m.holes (ds.map nums)).d → Q x H') ∧
  (∀ d, refused m [] ds = some d → ∀ H' dx u, Same H H' → Da t H' u d → H' dx = some (.xd [("place", u)]) → E (.ref C) (some dx) H')
theorem ok_lcut {kc n : Nat} {C : Addr} {f : Addr} {fd : FuncData} (F : Fun K "_law_cut" "_law_cut" s__law_cut f fd) (B : Bl mg) (D_cut : KnSX P w K mg base kc "cut" (spStar 1 (spCut0 C K n))) : FnOk P w K mg base (L2.CX P w) (kc + 1) f fd ["_law_term", "_law_chosen_here"] (spLcut C K n) := by
  refine F.okX sc__law_cut (fun vs H Q E h => ?_) (fun cdv A outer s H vs Q E hr h => ?_)
  · obtain ⟨t, v, m, l, us, ds, rfl, _⟩ := h
    rfl
  · obtain ⟨t, v, m, l, us, ds, rfl, hd, ho, hn, h60, gl, du, lu, k, kE⟩ := h
    have hu64 := hr.units
    have hr_cut : Room kc _ := hr
    refine ⟨_, (pss_cons (ps_if (pt_cmpR op_lt (pe_callB call_len (by rfl) B.len PySem.boot_len (pa_cons (pv 1) pa_nil)) pe_int (nomark _))
  (pss_one (ps_ret (pe_ifExp (pt_cmpR (op_eqNilL hu64) (pv 1) (pe_lst pa_nil) (nomark _)) (pe_ksX D_cut hr_cut (takes_of rfl rfl rfl rfl) (pa_cons (pv 0) pa_nil)) (pe_ksX D_cut hr_cut (takes_of rfl rfl rfl rfl) (pa_cons (pv 0) (pa_cons (pe_ix ix_list (pv 1) pe_int (fun _ _ => rfl)) pa_nil))))))
  pss_nil)
  (pss_cons (ps_if (pt_cmpR op_eq (pe_callB call_len (by rfl) B.len PySem.boot_len (pa_cons (pv 1) pa_nil)) pe_int (nomark _))
  (pss_one (ps_ret (pe_ksX D_cut hr_cut (takes_of rfl rfl rfl rfl) (pa_cons (pv 0) (pa_cons (pe_ix ix_list (pv 1) pe_int (fun _ _ => rfl)) (pa_cons (pe_ix ix_list (pv 1) pe_int (fun _ _ => rfl)) pa_nil))))))
  pss_nil)
  (pss_cons (ps_if (pt_cmpR op_eq (pe_callB call_len (by rfl) B.len PySem.boot_len (pa_cons (pv 1) pa_nil)) pe_int (nomark _))
  (pss_one (ps_ret (pe_ksX D_cut hr_cut (takes_of rfl rfl rfl rfl) (pa_cons (pv 0) (pa_cons (pe_ix ix_list (pv 1) pe_int (fun _ _ => rfl)) (pa_cons (pe_ix ix_list (pv 1) pe_int (fun _ _ => rfl)) (pa_cons (pe_ix ix_list (pv 1) pe_int (fun _ _ => rfl)) pa_nil)))))))
  pss_nil)
  (pss_one (ps_ret (pe_ksX D_cut hr_cut (takes_of rfl rfl rfl rfl) (pa_cons (pv 0) (pa_cons (pe_ix ix_list (pv 1) pe_int (fun _ _ => rfl)) (pa_cons (pe_ix ix_list (pv 1) pe_int (fun _ _ => rfl)) (pa_cons (pe_ix ix_list (pv 1) pe_int (fun _ _ => rfl)) (pa_cons (pe_ix ix_list (pv 1) pe_int (fun _ _ => rfl)) pa_nil))))))))))), ?_⟩
    have star : ∀ (H1 : Hp), Same H H1 → spStar 1 (spCut0 C K n) (v :: us) H1 Q E := fun H1 s1 => by
      refine ⟨[v], us, rfl, rfl, by rw [sizeLine_eq]; omega, fun p hp => ?_⟩
      have s2 := same_new (o := .tup us) hp
      have S := s1.trans s2
      exact ⟨t, v, m, p, us, ds, rfl, hd.kp (kp_same S), ho, hn, h60, upd_same, du.kp (kp_same S), by omega, fun hr H' x s dx => k hr H' x (S.trans s) dx, fun d hr H' dx u s du g => kE d hr H' dx u (S.trans s) du g⟩
    match us, lu, gl, star with
    | [], _, gl, star =>
      refine ⟨_, rfl, .ref l, 0, rfl, .inl ⟨_, SqL.of gl, rfl⟩, _, _, rfl, rfl, _, rfl, iT rfl ?_⟩
      refine ⟨_, rfl, slz rfl, fun q hq => ⟨l, q, _, rfl, rfl, SqL.of (same_new hq _ _ gl), SqL.of upd_same, _, rfl, iT rfl ?_⟩⟩
      exact ⟨_, rfl, star _ (same_new hq)⟩
    | [u0], _, gl, star =>
      refine ⟨_, rfl, .ref l, 1, rfl, .inl ⟨_, SqL.of gl, rfl⟩, _, _, rfl, rfl, _, rfl, iT rfl ?_⟩
      refine ⟨_, rfl, slz rfl, fun q hq => ⟨l, q, _, rfl, rfl, SqL.of (same_new hq _ _ gl), SqL.of upd_same, _, rfl, iF rfl ?_⟩⟩
      exact ⟨_, rfl, _, rfl, l, _, 0, _, rfl, rfl, SqL.of (same_new hq _ _ gl), rfl, star _ (same_new hq)⟩
    | [u0, u1], _, gl, star =>
      refine ⟨_, rfl, .ref l, 2, rfl, .inl ⟨_, SqL.of gl, rfl⟩, _, _, rfl, rfl, _, rfl, iF rfl ?_⟩
      refine ⟨_, rfl, .ref l, 2, rfl, .inl ⟨_, SqL.of gl, rfl⟩, rfl, _, rfl, iT rfl ?_⟩
      exact ⟨_, rfl, _, rfl, l, _, 0, _, rfl, rfl, SqL.of gl, rfl, _, rfl, l, _, 1, _, rfl, rfl, SqL.of gl, rfl, star _ (Same.refl H)⟩
    | [u0, u1, u2], _, gl, star =>
      refine ⟨_, rfl, .ref l, 3, rfl, .inl ⟨_, SqL.of gl, rfl⟩, _, _, rfl, rfl, _, rfl, iF rfl ?_⟩
      refine ⟨_, rfl, .ref l, 3, rfl, .inl ⟨_, SqL.of gl, rfl⟩, rfl, _, rfl, iF rfl ?_⟩
      refine ⟨_, rfl, .ref l, 3, rfl, .inl ⟨_, SqL.of gl, rfl⟩, rfl, _, rfl, iT rfl ?_⟩
      exact ⟨_, rfl, _, rfl, l, _, 0, _, rfl, rfl, SqL.of gl, rfl, _, rfl, l, _, 1, _, rfl, rfl, SqL.of gl, rfl, _, rfl, l, _, 2, _, rfl, rfl, SqL.of gl, rfl, star _ (Same.refl H)⟩
    | [u0, u1, u2, u3], _, gl, star =>
      refine ⟨_, rfl, .ref l, 4, rfl, .inl ⟨_, SqL.of gl, rfl⟩, _, _, rfl, rfl, _, rfl, iF rfl ?_⟩
      refine ⟨_, rfl, .ref l, 4, rfl, .inl ⟨_, SqL.of gl, rfl⟩, rfl, _, rfl, iF rfl ?_⟩
      refine ⟨_, rfl, .ref l, 4, rfl, .inl ⟨_, SqL.of gl, rfl⟩, rfl, _, rfl, iF rfl ?_⟩
      exact ⟨_, rfl, _, rfl, l, _, 0, _, rfl, rfl, SqL.of gl, rfl, _, rfl, l, _, 1, _, rfl, rfl, SqL.of gl, rfl, _, rfl, l, _, 2, _, rfl, rfl, SqL.of gl, rfl, _, rfl, l, _, 3, _, rfl, rfl, SqL.of gl, rfl, star _ (Same.refl H)⟩
abbrev s__law_refusal : Stmt := topS 45
abbrev N__law_refusal : List Str := ["_law_term", "_law_chosen_here", "_law_spots_here", "_law_k", "_law_met_here", "_law_pair", "_law_other"]
theorem sc__law_refusal : FnScope N__law_refusal ["_law_term", "_law_chosen_here"] (defScope s__law_refusal) := ⟨rfl, rfl, rfl, by decide +kernel, rfl, by decide +kernel, by decide +kernel⟩
def spRefusal : Sp := fun vs H Q _ => ∃ (t : Addr) (v : V) (m : Tm) (l : Addr) (us : List V) (ds : List PyData), vs = [v, .ref l] ∧ Da t H v m.d ∧ m.deep ≤ 6 ∧ H l = some (.lst us) ∧ DaAll t H us ds ∧ us.length ≤ 4 ∧ (∀ d ∈ ds, Cho d) ∧
  (refused m [] ds = none → ∀ H' r, Same H H' → H' r = some (.lst []) → Q (.ref r) H') ∧ (∀ d, refused m [] ds = some d → ∀ H' r, Same H H' → H' r = some (.lst [.str d.shown, .bl true]) → r ≠ sysModules → Q (.ref r) H')
theorem ok_refusal {f : Addr} {fd : FuncData} (F : Fun K "_law_refusal" "_law_refusal" s__law_refusal f fd) (B : Bl mg) (hbn : Binds K fd ["_law_term", "_law_chosen_here"] []) (D__law_spots : Kn P w K mg base 2 "_law_spots" ["_law_term"] spSpots) (D__law_ends : Kn P w K mg base 1 "_law_ends" ["_law_spot", "_law_spots_here"] spEnds) : FnG P w K mg base 3 f spRefusal := by
  refine fnG_of F sc__law_refusal (fun vs H Q E h => ?_) hbn (fun cdv A outer s H vs Q hr hg0 h => ?_)
  · obtain ⟨t, v, m, l, us, ds, rfl, _⟩ := h
    rfl
  · obtain ⟨t, v, m, l, us, ds, rfl, hd, h6, gl, du, lu, hc, kN, kS⟩ := h
    have hu64 := hr.units
    have hgd := grd_deep (env := PyProof.Rows.envOfC "_law_refusal" (defScope s__law_refusal) s.heap.objs.size f cdv) hg0
    have hr__law_spots : Room 2 _ := hr
    have hr__law_ends : Room 1 _ := hr.mono (by omega)
    refine ⟨_, (pss_cons (ps_setLc (i := 2) (own := [("_law_pair", 5)]) rfl sc__law_refusal.nd rfl rfl (sw_true rfl rfl rfl (by decide +kernel)) (pi_list (pe_kn D__law_spots hr__law_spots (pa_cons (pv 0) pa_nil))) (blkOk_by (N := N__law_refusal) (sc := (defScope s__law_refusal)) (own := [("_law_pair", 5)]) (by decide +kernel)) (fun _ _ _ _ _ => (pg_name (i := 5) sc__law_refusal.nd rfl (Or.inl rfl))) (fun _ _ _ _ _ => pts_nil) (fun _ _ _ _ _ => (pe_callB (show CallR _ (.builtin "repr") (rReprV t) from call_reprV t hgd hu64) (by rfl) B.repr (by decide +kernel) (pa_cons (pe_ix (show IxR _ (rIxT K) from ix_tup) (pv 5) pe_int (fun _ _ => rfl)) pa_nil))))
  (pss_cons (ps_for PassesOwn.never rfl (pi_range1 (by rfl) B.range (pa_cons (pe_callB call_len (by rfl) B.len PySem.boot_len (pa_cons (pv 1) pa_nil)) pa_nil)) (pg_name (i := 3) sc__law_refusal.nd rfl (Or.inr rfl))
  (pss_cons (ps_if (pt_cmpR op_notIn_seq (pe_callB (call_reprV t hgd hu64) (by rfl) B.repr (by decide +kernel) (pa_cons (pe_ix ix_list (pv 1) (pv 3) (fun _ _ => rfl)) pa_nil)) (pv 2) (by rfl))
  (pss_one (ps_ret (pe_lstN (pa_cons (pe_callB (call_reprV t hgd hu64) (by rfl) B.repr (by decide +kernel) (pa_cons (pe_ix ix_list (pv 1) (pv 3) (fun _ _ => rfl)) pa_nil)) (pa_cons pe_bl pa_nil)))))
  pss_nil)
  (pss_cons (ps_setLc (i := 4) (own := [("_law_other", 6)]) rfl sc__law_refusal.nd rfl rfl (sw_true rfl rfl rfl (by decide +kernel)) (pi_list (pe_slice sl_list (pv 1) po_none (po_some (pv 3)))) (blkOk_by (N := N__law_refusal) (sc := (defScope s__law_refusal)) (own := [("_law_other", 6)]) (by decide +kernel)) (fun _ _ _ _ _ => (pg_name (i := 6) sc__law_refusal.nd rfl (Or.inl rfl))) (fun _ _ _ _ _ => (pts_one (pt_cmpR (show OpR _ _ (rNeNilL K) from op_neNilL hu64) (pe_op (show OpR _ _ rCat from op_cat) (pe_kn D__law_ends hr__law_ends (pa_cons (pe_ix (show IxR _ (rIxL K) from ix_list) (pv 1) (pv 3) (fun _ _ => rfl)) (pa_cons (pe_lst (pa_cons (pv 6) pa_nil)) pa_nil))) (pe_kn D__law_ends hr__law_ends (pa_cons (pv 6) (pa_cons (pe_lst (pa_cons (pe_ix (show IxR _ (rIxL K) from ix_list) (pv 1) (pv 3) (fun _ _ => rfl)) pa_nil)) pa_nil)))) (pe_lst pa_nil) (nomark _)))) (fun _ _ _ _ _ => (pv 6)))
  (pss_one (ps_if (pt_cmpR (op_neNilL hu64) (pv 4) (pe_lst pa_nil) (nomark _))
  (pss_one (ps_ret (pe_lstN (pa_cons (pe_callB (call_reprV t hgd hu64) (by rfl) B.repr (by decide +kernel) (pa_cons (pe_ix ix_list (pv 1) (pv 3) (fun _ _ => rfl)) pa_nil)) (pa_cons pe_bl pa_nil)))))
  pss_nil)))))
  (pss_one (ps_ret (pe_lst pa_nil))))), ?_⟩
    refine ⟨_, rfl, t, v, m, rfl, hd, h6, fun H1 lsp usp s1 glsp flsp psp => ?_⟩
    have tot := spots_len m
    have p7 : 4 ^ (m.deep + 1) ≤ 4 ^ 7 := Nat.pow_le_pow_right (by omega) (by omega)
    have p7' : (4 : Nat) ^ 7 = 16384 := by decide
    have lps := Paired.length psp
    refine ⟨lsp, rfl, ⟨_, SqL.of glsp⟩, fun D hD => ?_⟩
    refine lc_it (J := Itl K lsp) (g := gName 5) walk_list (fun j H' => Same H1 H' ∧ H' D = some (.lst (((spotsS m).take j).map V.str))) ⟨same_new hD, upd_same⟩ (fun j H' _ h => SqL.of (h.1 _ _ glsp)) ?_ ?_
    · rintro j y H7 H8 hj ⟨s7, gD⟩ ⟨rfl, ey⟩
      refine ⟨rfl, ?_⟩
      obtain ⟨⟨q, m'⟩, eq, hq⟩ := L3.paired_get psp ey
      obtain ⟨a, u, w', rfl, ga, pu, dw⟩ := hq
      obtain ⟨q4, ql⟩ := spot_ok (List.mem_of_getElem? eq)
      have cq := cho_pl q4 (by omega)
      obtain ⟨au, rfl, gu⟩ := pu.same s7
      refine ⟨_, rfl, a, _, 0, _, rfl, rfl, SqT.of (s7 _ _ ga), rfl, .ref au, plD q, rfl, pl_da gu, cq.sh, cq.dep, by rw [sizeLine_eq]; have := cq.len; omega, fun i z => absurd z (cq.ni i), _, gD, szl ?_, fun b o z => ?_, ?_⟩
      · rw [List.length_map, List.length_take]
        unfold spotsS
        rw [List.length_map]
        omega
      · rw [upd_ne (ne_of_none z hD)]
        exact s7 _ _ z
      · rw [upd_same, List.take_add_one]
        have e : (spotsS m)[j]? = some (plD q).shown := by
          unfold spotsS
          rw [List.getElem?_map, eq]
          rfl
        rw [e, List.map_append]
        rfl
    · rintro H2 ⟨s2, gD⟩
      have e : (spotsS m).take usp.length = spotsS m := List.take_of_length_le (by unfold spotsS; rw [List.length_map]; omega)
      rw [e] at gD
      have S2 := s1.trans s2
      have gl2 := S2 _ _ gl
      refine ⟨_, rfl, .ref l, us.length, rfl, .inl ⟨_, SqL.of gl2, rfl⟩, _, rfl, by omega, by omega, for_it (walk_range (lo := 0) (n := us.length)) (fun i σ H' => Same H2 H' ∧ (∃ v3 v4 v5 v6, σ = [some v, some (.ref l), some (.ref D), v3, v4, v5, v6]) ∧ (∀ j d, j < i → ds[j]? = some d → ∃ m', atT m d = some m') ∧ refused m [] ds = refused m ((ds.take i).map nums) (ds.drop i)) ⟨Same.refl _, ⟨_, _, _, _, rfl⟩, (fun j d h => absurd h (Nat.not_lt_zero _)), rfl⟩ (fun _ _ _ _ _ => trivial) ?_ ?_⟩
      · rintro i y σ H3 H4 hi ⟨s3, ⟨v3, v4, v5, v6, rfl⟩, hall, hre⟩ ⟨rfl, ey⟩
        have ey : y = .int (i : Int) := by
          have e : y = .int (0 + (i : Int)) := ey
          rw [Int.zero_add] at e
          exact e
        subst ey
        have S4 := S2.trans s3
        have eu : us[i]? = some us[i] := List.getElem?_eq_getElem hi
        obtain ⟨d, ed, dy⟩ := da_at du eu
        have cd := hc d (List.mem_of_getElem? ed)
        have edr : ds.drop i = d :: ds.drop (i + 1) := by
          have hl := (List.getElem?_eq_some_iff.mp ed).1
          rw [List.drop_eq_getElem_cons hl, (List.getElem?_eq_some_iff.mp ed).2]
        rw [edr] at hre
        have dy4 := dy.kp (kp_same S4)
        have clen : d.shown.length ≤ sizeLine := by rw [sizeLine_eq]; have := cd.len; omega
        have cni : ∀ i, d = .int i → i.natAbs.log2 < 1920 := fun i z => absurd z (cd.ni i)
        have gl4 := S4 _ _ gl
        refine ⟨_, rfl, _, rfl, l, us, (i : Int), us[i], rfl, rfl, SqL.of gl4, at_of rfl eu, us[i], d, rfl, dy4, cd.sh, cd.dep, clen, cni, _, rfl, D, _, rfl, .inl (SqL.of (s3 _ _ gD)), rfl, flat_strs _, _, rfl, ?_⟩
        rw [in_strs]
        by_cases hin : d.shown ∈ spotsS m
        · obtain ⟨m', hat⟩ := (shown_in cd).mp hin
          rw [ref_some hat] at hre
          refine iF (by rw [decide_eq_true hin]; rfl) ?_
          refine ⟨_, rfl, ?_⟩
          unfold tNoPart
          refine ⟨_, rfl, _, rfl, l, us, rfl, SqL.of gl4, fun l2 hl2 => ?_⟩
          rw [cut_take]
          have s5 := same_new (o := .lst (us.take i)) hl2
          have g2 := upd_same (H := H4) (a := l2) (o := .lst (us.take i))
          have S5 := S4.trans s5
          generalize upd H4 l2 (.lst (us.take i)) = H5 at s5 g2 S5 ⊢
          have nd := at_num hat
          refine ⟨l2, rfl, ⟨_, SqL.of g2⟩, fun D2 hD2 => ?_⟩
          refine lc_it (J := Itl K l2) (g := gName 6) walk_list (fun j H' => Same H5 H' ∧ ∃ zs, H' D2 = some (.lst zs) ∧ zs.length ≤ j ∧ zs.isEmpty = !(((ds.take i).take j).any fun e => meets (nums e) (nums d))) ⟨same_new hD2, [], upd_same, Nat.le_refl _, rfl⟩ (fun j H' _ h => SqL.of (h.1 _ _ g2)) ?_ ?_
          · rintro j y H6 H7 hj ⟨s6, zs, gD2, lz, ez⟩ ⟨rfl, ey⟩
            refine ⟨rfl, ?_⟩
            have hj2 : j < i := by
              rw [List.length_take] at hj
              omega
            rw [List.getElem?_take_of_lt hj2] at ey
            obtain ⟨e, ee, de⟩ := da_at du ey
            obtain ⟨me, hme⟩ := hall j e hj2 ee
            have ne := at_num hme
            have S6 := S5.trans s6
            have pe : PlAt H7 y (nums e) := pl_of (t := t) (by rw [← ne.1]; exact de.kp (kp_same S6))
            have pd : PlAt H7 us[i] (nums d) := pl_of (t := t) (by rw [← nd.1]; exact dy.kp (kp_same S6))
            have gl6 := S6 _ _ gl
            have et : (ds.take i).take (j + 1) = (ds.take i).take j ++ [e] := by
              rw [List.take_add_one, List.getElem?_take_of_lt hj2, ee]
              rfl
            refine ⟨_, rfl, _, rfl, l, us, (i : Int), us[i], rfl, rfl, SqL.of gl6, at_of rfl eu, _, rfl, slz rfl, fun a1 ha1 => ?_⟩
            have s7 := same_new (o := .lst [y]) ha1
            refine ⟨us[i], y, a1, nums d, nums e, rfl, pd.same s7, pe.same s7, upd_same, fun H8 l3 s8 fl3 g3 => ?_⟩
            have S8 := s7.trans s8
            refine ⟨_, rfl, _, rfl, _, rfl, l, us, (i : Int), us[i], rfl, rfl, SqL.of (S8 _ _ gl6), at_of rfl eu, slz rfl, fun a2 ha2 => ?_⟩
            have s9 := same_new (o := .lst [us[i]]) ha2
            have S9 := S8.trans s9
            refine ⟨y, us[i], a2, nums e, nums d, rfl, pe.same S9, pd.same S9, upd_same, fun H10 l4 s10 fl4 g4 => ?_⟩
            have S10 := S9.trans s10
            refine ⟨l3, l4, _, _, rfl, rfl, s10 _ _ (s9 _ _ g3), g4, ?_, fun l5 hl5 => ⟨slz rfl, fun q hq => ⟨l5, q, _, rfl, rfl, SqL.of (same_new hq _ _ upd_same), SqL.of upd_same, _, rfl, ?_⟩⟩⟩
            · have a1 : (if (nums d).take (nums e).length = nums e then [y] else []).length ≤ 1 := by split <;> simp
              have a2 : (if (nums e).take (nums d).length = nums d then [us[i]] else []).length ≤ 1 := by split <;> simp
              rw [sizeLine_eq]
              omega
            · have S12 := (S10.trans (same_new (o := .lst ((if (nums d).take (nums e).length = nums e then [y] else []) ++ (if (nums e).take (nums d).length = nums d then [us[i]] else []))) hl5)).trans (same_new (o := .lst []) hq)
              have gD12 := S12 _ _ gD2
              rw [meets_ne]
              cases hm : meets (nums e) (nums d) with
              | true =>
                refine iT rfl ?_
                refine ⟨_, rfl, zs, gD12, szl (by omega), fun b o z => ?_, zs ++ [y], upd_same, by rw [List.length_append]; simp only [List.length_cons, List.length_nil]; omega, ?_⟩
                · rw [upd_ne (ne_of_none z hD2)]
                  exact S12 _ _ (s6 _ _ z)
                · rw [et, List.any_append, List.any_cons, hm]
                  cases zs <;> simp
              | false =>
                refine iF rfl ?_
                refine ⟨fun b o z => S12 _ _ (s6 _ _ z), zs, gD12, by omega, ?_⟩
                rw [et, List.any_append, List.any_cons, hm, ez]
                simp
          · rintro H6 ⟨s6, zs, gD2, lz, ez⟩
            have ea : (((ds.take i).take ((us.take i).length)).any fun e => meets (nums e) (nums d)) = ((ds.take i).map nums).any (fun q => meets q (nums d)) := by
              have := du.len
              rw [List.take_of_length_le (by rw [List.length_take, List.length_take]; omega), List.any_map]
              rfl
            rw [ea] at ez
            have S6 := S5.trans s6
            refine ⟨_, rfl, slz rfl, fun q hq => ⟨D2, q, zs, rfl, rfl, SqL.of (same_new hq _ _ gD2), SqL.of upd_same, _, rfl, ?_⟩⟩
            rw [ez]
            have s7 := same_new (o := .lst []) hq
            have S7 := S6.trans s7
            cases hm : ((ds.take i).map nums).any (fun q => meets q (nums d)) with
            | true =>
              rw [hm] at hre
              refine iT rfl ?_
              refine ⟨_, rfl, _, rfl, l, us, (i : Int), us[i], rfl, rfl, SqL.of (S7 _ _ gl), at_of rfl eu, us[i], d, rfl, dy.kp (kp_same S7), cd.sh, cd.dep, clen, cni, Nat.le_of_lt (slz rfl), fun r hr2 nr => ?_⟩
              exact kS d hre _ r (S7.trans (same_new hr2)) upd_same nr
            | false =>
              rw [hm] at hre
              refine iF rfl ?_
              refine ⟨(s3.trans s5).trans (s6.trans s7), ⟨_, _, _, _, rfl⟩, fun j e hj ee => ?_, ?_⟩
              · by_cases hj2 : j = i
                · subst hj2
                  rw [ed] at ee
                  exact ⟨m', by rw [← Option.some.inj ee]; exact hat⟩
                · exact hall j e (by omega) ee
              · rw [hre, List.take_add_one, ed, List.map_append]
                rfl
        · have hn : atT m d = none := by
            cases q : atT m d with
            | none => rfl
            | some m' => exact absurd ((shown_in cd).mpr ⟨m', q⟩) hin
          rw [ref_none hn] at hre
          refine iT (by rw [decide_eq_false hin]; rfl) ?_
          refine ⟨_, rfl, _, rfl, l, us, (i : Int), us[i], rfl, rfl, SqL.of gl4, at_of rfl eu, us[i], d, rfl, dy4, cd.sh, cd.dep, clen, cni, Nat.le_of_lt (slz rfl), fun r hr2 nr => ?_⟩
          exact kS d hre _ r (S4.trans (same_new hr2)) upd_same nr
      · rintro σ H3 ⟨s3, ⟨v3, v4, v5, v6, rfl⟩, hall, hre⟩
        have ll := du.len
        rw [List.drop_of_length_le (by omega)] at hre
        refine ⟨slz rfl, fun r hr2 => kN hre _ r ((S2.trans s3).trans (same_new hr2)) upd_same⟩
end
end L3

/-! an own exception with fields, caught: isinstance(e, T) in the suite; what its class is -/
namespace L3
open PySem PySem.Spec PyProof.Rows L2
def rIsS (K : PySem.W.Frag) (C a : Addr) (cls : Value) (d : Option Addr) : List V → Hp → VK → Prop := fun xs H Q => ∃ (c : V) (cv : Value) (b : Bool), xs = [.ref a, c] ∧ cls = .ref C ∧ (∃ dd fs, d = some dd ∧ H dd = some (.xd fs)) ∧ (∀ u, RelV c u → u = cv) ∧ PySem.W.kitOne K (.ref C) cv = some b ∧ Q (.bl b) H
theorem call_isS {X : Cx} {a C : Addr} {oe : Obj} {cls : Value} {d : Option Addr} {pn : List (Addr × Obj)} (T : Xr X.K C) (hz : Zc cls d oe) (hf : ∃ vs, oe.data = .fields vs) : CallR (X.suite a ((a, oe) :: pn)) (.builtin "isinstance") (rIsS X.K C a cls d) := by
  intro pins s σ H xs us Q I r ⟨c, cv, b, exs, ec, ⟨dd, fs, ed, ea⟩, hc, e, q⟩
  subst exs
  subst ec
  subst ed
  cases r with
  | cons ra rr =>
    cases rr with
    | cons rc rr =>
      cases rr
      cases ra
      cases hc _ rc
      obtain ⟨ha, _⟩ := I.pin (a, oe) (List.mem_append_left _ List.mem_cons_self)
      obtain ⟨vs, hd⟩ := hf
      have hx : ObjOk X.prog X.w H s.heap dd (.xd fs) := I.hok dd _ ea
      obtain ⟨mA, hns, hr⟩ := hx
      obtain ⟨od, ho, hl⟩ := lookIn_ns hns
      have J : PySem.W.InstAt s.heap a oe C (some od) := ⟨ha, hz.1, by unfold PySem.W.notCls; rw [hd] <;> rfl, by rw [hz.2]; exact ho⟩
      have cl : (PySem.W.clsIn X.K C).isSome = true := by
        obtain ⟨cd, h1, _⟩ := PySem.W.any_some T.dct
        rw [h1]
        rfl
      exact PySem.W.kia_one (PySem.W.kitx_exc cl T.ga T.gg T.sb T.cl T.gs T.tk T.ob) I.kIn J e (fun z => nomatch z) fun tk => ⟨.bl b, H, I.kept (t' := tk) fun _ _ z => z, rfl, q⟩
theorem Xr.xf {K : PySem.W.Frag} {C : Addr} (R : Xr K C) : XfC K C := ⟨R.ga, R.gg, R.sb, R.dct⟩
theorem call_reprAny {X : Cx} (hg : X.A.guards = some []) (hu : X.A.units + 64 < cLine) : CallR X (.builtin "repr") (fun xs H Q => ∃ t, rReprV t xs H Q) :=
  fun pins s σ H xs us Q I r ⟨t, h⟩ => call_reprV t hg hu pins s σ H xs us Q I r h
/-- an own class in its own except clause -/
theorem exm_self {K : PySem.W.Frag} {C : Addr} {bm : List Value} (R : Xr K C) (h : ∃ cd, PySem.W.clsIn K C = some cd ∧ cd.mro = .ref C :: bm) (ty : PySem.W.typeIn K (.ref C) = some (.type "type")) : PySem.W.exmOne K (.ref C) (.ref C) = some true := by
  refine PySem.W.exm_ref R.sb R.dct ty ?_
  obtain ⟨cd, e1, e2⟩ := h
  unfold PySem.W.subIn
  dsimp only
  unfold PySem.W.mroIn
  rw [e1, Option.bind_some, e2]
  show some (List.contains (Value.ref C :: bm) (.ref C)) = some true
  rw [List.contains_cons]
  simp
theorem kit_base {K : PySem.W.Frag} {C : Addr} {bm : List Value} {T : String} (h : ∃ cd, PySem.W.clsIn K C = some cd ∧ cd.mro = .ref C :: bm) (hm : PySem.W.kitMeta T = true) (hb : bm.contains (.type T) = true) : PySem.W.kitOne K (.ref C) (.type T) = some true := by
  obtain ⟨cd, e1, e2⟩ := h
  unfold PySem.W.kitOne
  rw [if_neg (by simp)]
  unfold PySem.W.kitCls
  dsimp only
  rw [if_pos hm]
  unfold PySem.W.subIn
  dsimp only
  unfold PySem.W.mroIn
  rw [e1, Option.bind_some, e2]
  show some (List.contains (Value.ref C :: bm) (.type T)) = some true
  rw [List.contains_cons, hb]
  simp
end L3

namespace L3
open PySem L2 StX LamX
abbrev s__law_met : Stmt := topS 46
abbrev N__law_met : List Str := ["_law_call", "e"]
theorem sc__law_met : FnScope N__law_met ["_law_call"] (defScope s__law_met) := ⟨rfl, rfl, rfl, by decide +kernel, rfl, by decide +kernel, by decide +kernel⟩
def TTmet (C : Addr) : (XK → Hp → VK → Prop) → Hp → VK → Prop := fun tl H Q =>
  tl (fun cls d H' => cls = .ref C ∧ ∃ t dd u dat, d = some dd ∧ H' dd = some (.xd [("place", u)]) ∧ Da t H' u dat ∧ Cho dat ∧ ∀ l r, H' l = none → l ≠ sysModules → (upd H' l (.lst [.str dat.shown, .bl true])) r = none → Q (.ref r) (upd (upd H' l (.lst [.str dat.shown, .bl true])) r (.tup [.str "out", .ref l]))) H
    fun x H' => 2 ≤ sizeLine ∧ ∀ r, H' r = none → Q (.ref r) (upd H' r (.tup [.str "cut", x]))
theorem takes_len {X : Cx} {W : WX} (tk : Takes X W) : Takes X (fun cls d σ H => σ.length = X.N.length → W cls d σ H) := fun u s' x => by
  obtain ⟨a, B, sI, pins, σ, H, cls, d, e, I, nb, up, sky, na, os, ag, w⟩ := x
  exact tk u s' ⟨a, B, sI, pins, σ, H, cls, d, e, I, nb, up, sky, na, os, ag, w I.len⟩
theorem met_gives {X : Cx} {q : Str} {g C : Addr} {cdg : Value} {P : Program} {w : World} {base : Heap} (hE : E1 P w X.K X.mg base "OutOfTerm" "place" mroL "LookupError.__new__" C) (B : Bl X.mg) (B9 : Bl9 X.mg) (hLE : X.mg "LookupError" = none) (hgd : X.A.guards = some []) (hu : ∀ env, (X.A.deeper env).units + 64 < cLine) :
    GivesTo X N__law_met "_law_met" (defScope s__law_met) g cdg (defBody s__law_met) "_law_call" q (TTmet C) := by
  intro f c' s H Q tl act hc h
  have hgl : Gl (cxOf C8.CX0 X.prog X.w X.K X.mg X.base N__law_met "_law_met" (defScope s__law_met) g cdg X.A X.stack s H C8.E0).nox "OutOfTerm" := by rfl
  refine ⟨_, pss_one (ps_try_as (X := (cxOf C8.CX0 X.prog X.w X.K X.mg X.base N__law_met "_law_met" (defScope s__law_met) g cdg X.A X.stack s H C8.E0).nox) (c := .ref C) (i := 1)
      (tb := fun W D σ H => ∃ Ech : XK, (∀ cls d (σ' : L2.St) H', σ'.length = 2 → Ech cls d H' → W cls d σ' H') ∧ σ[0]? = some (some (.ref f)) ∧ H c' = some (CodeO c' q) ∧ tl Ech H fun x H1 => 2 ≤ sizeLine ∧ ∀ r, H1 r = none → D.rt (.ref r) (upd H1 r (.tup [.str "cut", x])))
      rfl rfl sc__law_met.nd rfl rfl ⟨hgl, by decide, .inl hE.hm⟩ LamX.takes0 (fun W pn xe tk _ => ?_) (fun a oe cls d pn hz hf => pss_one (ps_ret (pe_tup (pa_cons pe_str (pa_cons (pe_lstN (pa_cons
        (pe_callB (call_reprAny hgd (hu (PyProof.Rows.envOfC "_law_met" (defScope s__law_met) s.heap.objs.size g cdg))) (by rfl) B.repr (by decide +kernel) (pa_cons (pe_xf hE.R.xf hE.no hz hf (pv 1)) pa_nil)) (pa_cons (pe_callB (call_isS hE.R hz hf) (by rfl) B9.isinstance PyProof.Rows.boot_isinstance (pa_cons (pv 1) (pa_cons (pe_bltn (v := .ty "LookupError") (by rfl) hLE (by decide +kernel) rfl) pa_nil))) pa_nil))) pa_nil)))))), ?_⟩
  · refine ⟨fun pins s' σ H' D I h' => ?_⟩
    obtain ⟨Ech, hW, h1, h2, h3⟩ := h'
    exact (pss_one (ps_ret (pe_tup (pa_cons pe_str (pa_cons (act _ pn xe Ech _ _ (takes_len tk) fun cls d σ' H' he hl => hW cls d σ' H' hl he) pa_nil))))).run pins s' σ H' D I ⟨h1, h2, h3⟩
  · refine ⟨fun cls d H' => cls = .ref C ∧ ∃ t dd u dat, d = some dd ∧ H' dd = some (.xd [("place", u)]) ∧ Da t H' u dat ∧ Cho dat ∧ ∀ l r, H' l = none → l ≠ sysModules → (upd H' l (.lst [.str dat.shown, .bl true])) r = none → Q (.ref r) (upd (upd H' l (.lst [.str dat.shown, .bl true])) r (.tup [.str "out", .ref l])), fun cls d σ' H' hl ⟨ec, t, dd, u, dat, ed, gd, hd, ho, k⟩ => ⟨true, by rw [ec]; exact exm_self hE.R hE.cd hE.ty, fun _ a ha => ?_, fun z => by cases z⟩, rfl, hc, ?_⟩
    · have e1 : (σ'.set 1 (some (V.ref a)))[1]? = some (some (V.ref a)) := List.getElem?_set_self (by omega)
      refine ⟨_, e1, rfl, ec, dd, _, u, ed, gd, rfl, t, u, dat, rfl, hd, ho.sh, ho.dep, by rw [sizeLine_eq]; have := ho.len; omega, fun i z => absurd z (ho.ni i), _, e1, .ty "LookupError", .type "LookupError", true, rfl, ec, ⟨dd, _, ed, gd⟩, fun u hu => hu, kit_base hE.cd (by decide +kernel) (by decide +kernel), ?_⟩
      exact ⟨Nat.le_of_lt (slz rfl), fun l hl2 nl => ⟨slz rfl, fun r hr2 => k l r hl2 nl hr2⟩⟩
    · exact h
end L3

namespace L3
open PySem L2 StX LamX
/-! how terms are shown -/
def Tm.fine : Tm → Bool
  | .name x => isNameD (.str x) && decide (x.length ≤ 8)
  | .use a b => a.fine && b.fine
  | .giv x a => isNameD (.str x) && decide (x.length ≤ 8) && a.fine
  | .lt x a b => isNameD (.str x) && decide (x.length ≤ 8) && a.fine && b.fine
  | .mt a b c => a.fine && b.fine && c.fine
  | _ => true
theorem ok_fine : ∀ {m : Tm}, m.ok = true → m.fine = true
  | .name x, h => h
  | .whole, _ | .text, _ | .hole, _ => rfl
  | .use a b, h => by
    simp only [Tm.ok, Tm.fine, Bool.and_eq_true] at h ⊢
    exact ⟨ok_fine h.1, ok_fine h.2⟩
  | .giv x a, h => by
    simp only [Tm.ok, Tm.fine, Bool.and_eq_true] at h ⊢
    exact ⟨h.1, ok_fine h.2⟩
  | .lt x a b, h => by
    simp only [Tm.ok, Tm.fine, Bool.and_eq_true] at h ⊢
    exact ⟨⟨h.1.1, ok_fine h.1.2⟩, ok_fine h.2⟩
  | .mt a b c, h => by
    simp only [Tm.ok, Tm.fine, Bool.and_eq_true] at h ⊢
    exact ⟨⟨ok_fine h.1.1, ok_fine h.1.2⟩, ok_fine h.2⟩
theorem fine_holes : ∀ {m : Tm} (ps : List (List Nat)), m.fine = true → (m.holes ps).fine = true
  | .name x, ps, h => by
    simp only [Tm.holes]
    split
    · rfl
    · exact h
  | .whole, ps, _ | .text, ps, _ | .hole, ps, _ => by
    simp only [Tm.holes]
    split <;> rfl
  | .use a b, ps, h => by
    simp only [Tm.holes]
    split
    · rfl
    · simp only [Tm.fine, Bool.and_eq_true] at h ⊢
      exact ⟨fine_holes _ h.1, fine_holes _ h.2⟩
  | .giv x a, ps, h => by
    simp only [Tm.holes]
    split
    · rfl
    · simp only [Tm.fine, Bool.and_eq_true] at h ⊢
      exact ⟨h.1, fine_holes _ h.2⟩
  | .lt x a b, ps, h => by
    simp only [Tm.holes]
    split
    · rfl
    · simp only [Tm.fine, Bool.and_eq_true] at h ⊢
      exact ⟨⟨h.1.1, fine_holes _ h.1.2⟩, fine_holes _ h.2⟩
  | .mt a b c, ps, h => by
    simp only [Tm.holes]
    split
    · rfl
    · simp only [Tm.fine, Bool.and_eq_true] at h ⊢
      exact ⟨⟨fine_holes _ h.1.1, fine_holes _ h.1.2⟩, fine_holes _ h.2⟩
theorem deep_holes : ∀ (m : Tm) (ps : List (List Nat)), (m.holes ps).deep ≤ m.deep
  | .name x, ps | .whole, ps | .text, ps | .hole, ps => by
    simp only [Tm.holes]
    split <;> exact Nat.le_refl _
  | .use a b, ps => by
    have h1 := deep_holes a (subP 0 ps)
    have h2 := deep_holes b (subP 1 ps)
    simp only [Tm.holes]
    split <;> simp only [Tm.deep] <;> omega
  | .giv x a, ps => by
    have h1 := deep_holes a (subP 0 ps)
    simp only [Tm.holes]
    split <;> simp only [Tm.deep] <;> omega
  | .lt x a b, ps => by
    have h1 := deep_holes a (subP 0 ps)
    have h2 := deep_holes b (subP 1 ps)
    simp only [Tm.holes]
    split <;> simp only [Tm.deep] <;> omega
  | .mt a b c, ps => by
    have h1 := deep_holes a (subP 0 ps)
    have h2 := deep_holes b (subP 1 ps)
    have h3 := deep_holes c (subP 2 ps)
    simp only [Tm.holes]
    split <;> simp only [Tm.deep] <;> omega
theorem name_wt {x : Str} (h : isNameD (.str x) = true) (hl : x.length ≤ 8) : wt (.str x) ≤ 100 ∧ (PyData.str x).showable = true := by
  have h1 : wok x = true := by
    have h : (wok x && !decide (x ∈ barL)) = true := h
    exact (Bool.and_eq_true_iff.mp h).1
  unfold wok at h1
  simp only [Bool.and_eq_true, decide_eq_true_eq] at h1
  have h2 : ∀ c ∈ x.cps, c < 128 := fun c hc => by
    have := Array.all_eq_true'.mp h1.2 c hc
    unfold lo at this
    simp only [Bool.and_eq_true, decide_eq_true_eq] at this
    omega
  have h3 := StrLaws.reprText_len x (fun c hc => by have := h2 c (by simpa using hc); omega)
  have e : (PyData.str x).shown = reprText x := by simp only [PyData.shown]
  refine ⟨?_, by simp only [PyData.showable]⟩
  simp only [wt]
  rw [e]
  omega
theorem word_wt : wt (.str "name") ≤ 30 ∧ wt (.str "use") ≤ 30 ∧ wt (.str "given") ≤ 30 ∧ wt (.str "let") ≤ 30 ∧ wt (.str "match") ≤ 30 ∧ wt (.str "no") ≤ 30 ∧ wt (.str "yes") ≤ 30 ∧ wt (.tuple []) ≤ 30 ∧ wt Tm.whole.d ≤ 200 ∧ wt Tm.text.d ≤ 200 ∧ wt Tm.hole.d ≤ 200 := by decide +kernel
theorem wt_two (a b : PyData) : wt (.tuple [a, b]) = 11 + wt a + wt b := by rw [wt_tup, wtL_cons, wtL_cons]; simp only [wtL]; omega
theorem wt_one (a : PyData) : wt (.tuple [a]) = 9 + wt a := by rw [wt_tup, wtL_cons]; simp only [wtL]; omega
theorem wt_three (a b c : PyData) : wt (.tuple [a, b, c]) = 13 + wt a + wt b + wt c := by rw [wt_tup, wtL_cons, wtL_cons, wtL_cons]; simp only [wtL]; omega
theorem sh_tup {ds : List PyData} (h : PyData.showableAll ds = true) : (PyData.tuple ds).showable = true := by simp only [PyData.showable, h]
theorem sh_nil : PyData.showableAll [] = true := by simp only [PyData.showableAll]
theorem sh_cons {d : PyData} {ds : List PyData} (h : d.showable = true) (g : PyData.showableAll ds = true) : PyData.showableAll (d :: ds) = true := by simp only [PyData.showableAll, h, g]; rfl
theorem sh_str (x : Str) : (PyData.str x).showable = true := by simp only [PyData.showable]
theorem dp_nil : PyData.depthAll [] = 0 := by simp only [PyData.depthAll]
theorem tm_show : ∀ {m : Tm}, m.fine = true → wt m.d ≤ 400 * 4 ^ m.deep ∧ m.d.showable = true ∧ m.d.depth ≤ 4 * m.deep + 4
  | .whole, _ => ⟨Nat.le_trans word_wt.2.2.2.2.2.2.2.2.1 (by show 200 ≤ 400 * 4 ^ 0; omega), by decide +kernel, by decide +kernel⟩
  | .text, _ => ⟨Nat.le_trans word_wt.2.2.2.2.2.2.2.2.2.1 (by show 200 ≤ 400 * 4 ^ 0; omega), by decide +kernel, by decide +kernel⟩
  | .hole, _ => ⟨Nat.le_trans word_wt.2.2.2.2.2.2.2.2.2.2 (by show 200 ≤ 400 * 4 ^ 0; omega), by decide +kernel, by decide +kernel⟩
  | .name x, h => by
    simp only [Tm.fine, Bool.and_eq_true, decide_eq_true_eq] at h
    obtain ⟨h1, h2⟩ := name_wt h.1 h.2
    have := word_wt.1
    refine ⟨?_, sh_tup (sh_cons (sh_str _) (sh_cons h2 sh_nil)), ?_⟩
    · show wt (.tuple [.str "name", .str x]) ≤ 400 * 4 ^ 0
      rw [wt_two]
      omega
    · simp only [Tm.d, Tm.deep, PyData.depth, PyData.depthAll]
      omega
  | .use a b, h => by
    simp only [Tm.fine, Bool.and_eq_true] at h
    obtain ⟨a1, a2, a3⟩ := tm_show h.1
    obtain ⟨b1, b2, b3⟩ := tm_show h.2
    have g1 : 4 ^ a.deep ≤ 4 ^ (max a.deep b.deep) := Nat.pow_le_pow_right (by omega) (by omega)
    have g2 : 4 ^ b.deep ≤ 4 ^ (max a.deep b.deep) := Nat.pow_le_pow_right (by omega) (by omega)
    have g0 : 1 ≤ 4 ^ (max a.deep b.deep) := Nat.pow_pos (by omega)
    have := word_wt.2.1
    refine ⟨?_, sh_tup (sh_cons (sh_str _) (sh_cons a2 (sh_cons b2 sh_nil))), ?_⟩
    · show wt (.tuple [.str "use", a.d, b.d]) ≤ 400 * 4 ^ (max a.deep b.deep + 1)
      rw [wt_three, Nat.pow_succ]
      omega
    · simp only [Tm.d, Tm.deep, PyData.depth, PyData.depthAll]
      omega
  | .giv x a, h => by
    simp only [Tm.fine, Bool.and_eq_true, decide_eq_true_eq] at h
    obtain ⟨x1, x2⟩ := name_wt h.1.1 h.1.2
    obtain ⟨a1, a2, a3⟩ := tm_show h.2
    have g0 : 1 ≤ 4 ^ a.deep := Nat.pow_pos (by omega)
    have := word_wt.2.2.1
    refine ⟨?_, sh_tup (sh_cons (sh_str _) (sh_cons x2 (sh_cons a2 sh_nil))), ?_⟩
    · show wt (.tuple [.str "given", .str x, a.d]) ≤ 400 * 4 ^ (a.deep + 1)
      rw [wt_three, Nat.pow_succ]
      omega
    · simp only [Tm.d, Tm.deep, PyData.depth, PyData.depthAll]
      omega
  | .lt x a b, h => by
    simp only [Tm.fine, Bool.and_eq_true, decide_eq_true_eq] at h
    obtain ⟨x1, x2⟩ := name_wt h.1.1.1 h.1.1.2
    obtain ⟨a1, a2, a3⟩ := tm_show h.1.2
    obtain ⟨b1, b2, b3⟩ := tm_show h.2
    have g1 : 4 ^ a.deep ≤ 4 ^ (max a.deep b.deep) := Nat.pow_le_pow_right (by omega) (by omega)
    have g2 : 4 ^ b.deep ≤ 4 ^ (max a.deep b.deep) := Nat.pow_le_pow_right (by omega) (by omega)
    have g0 : 1 ≤ 4 ^ (max a.deep b.deep) := Nat.pow_pos (by omega)
    have := word_wt.2.2.2.1
    refine ⟨?_, sh_tup (sh_cons (sh_str _) (sh_cons (sh_tup (sh_cons (sh_tup (sh_cons x2 (sh_cons a2 sh_nil))) sh_nil)) (sh_cons b2 sh_nil))), ?_⟩
    · show wt (.tuple [.str "let", .tuple [.tuple [.str x, a.d]], b.d]) ≤ 400 * 4 ^ (max a.deep b.deep + 1)
      rw [wt_three, wt_one, wt_two, Nat.pow_succ]
      omega
    · simp only [Tm.d, Tm.deep, PyData.depth, PyData.depthAll]
      omega
  | .mt a b c, h => by
    simp only [Tm.fine, Bool.and_eq_true] at h
    obtain ⟨a1, a2, a3⟩ := tm_show h.1.1
    obtain ⟨b1, b2, b3⟩ := tm_show h.1.2
    obtain ⟨c1, c2, c3⟩ := tm_show h.2
    have g1 : 4 ^ a.deep ≤ 4 ^ (max a.deep (max b.deep c.deep)) := Nat.pow_le_pow_right (by omega) (by omega)
    have g2 : 4 ^ b.deep ≤ 4 ^ (max a.deep (max b.deep c.deep)) := Nat.pow_le_pow_right (by omega) (by omega)
    have g3 : 4 ^ c.deep ≤ 4 ^ (max a.deep (max b.deep c.deep)) := Nat.pow_le_pow_right (by omega) (by omega)
    have g0 : 1 ≤ 4 ^ (max a.deep (max b.deep c.deep)) := Nat.pow_pos (by omega)
    obtain ⟨_, _, _, _, w5, w6, w7, w8, _⟩ := word_wt
    refine ⟨?_, sh_tup (sh_cons (sh_str _) (sh_cons a2 (sh_cons (sh_tup (sh_cons (sh_tup (sh_cons (sh_str _) (sh_cons (sh_tup sh_nil) (sh_cons b2 sh_nil)))) (sh_cons (sh_tup (sh_cons (sh_str _) (sh_cons (sh_tup sh_nil) (sh_cons c2 sh_nil)))) sh_nil))) sh_nil))), ?_⟩
    · show wt (.tuple [.str "match", a.d, .tuple [.tuple [.str "no", .tuple [], b.d], .tuple [.str "yes", .tuple [], c.d]]]) ≤ 400 * 4 ^ (max a.deep (max b.deep c.deep) + 1)
      rw [wt_three, wt_two, wt_three, wt_three, Nat.pow_succ]
      omega
    · simp only [Tm.d, Tm.deep, PyData.depth, PyData.depthAll]
      omega
theorem tm_fit {m : Tm} (h : m.fine = true) (hd : m.deep ≤ 5) : m.d.shown.length ≤ 500000 ∧ m.d.showable = true ∧ m.d.depth ≤ 30 := by
  obtain ⟨h1, h2, h3⟩ := tm_show h
  have g : 4 ^ m.deep ≤ 4 ^ 5 := Nat.pow_le_pow_right (by omega) hd
  have e : (4 : Nat) ^ 5 = 1024 := by decide
  exact ⟨Nat.le_trans (shown_wt _) (by omega), h2, by omega⟩
end L3

namespace L3
open PySem PySem.Spec PyProof.Rows L2 StX LamX
/-! what stays when only tables change; tables stay when the tape moves -/
theorem dk_ne_code {c : Addr} {q : Str} (kvs : List (Key × V)) : CodeO c q ≠ .dK kvs := fun z => by
  unfold CodeO at z
  cases z
theorem tabs_ext {K : PySem.W.Frag} {t c : Addr} {b : Nat} {H H' : Hp} {T : List (Addr × Str)} (h : Tabs T H) (e : Ext t H H') (tp : Tape K H t c b) : Tabs T H' := fun p hp => by
  obtain ⟨ps, h1, h2, h3⟩ := h p hp
  obtain ⟨kvs, hd⟩ := tp.dict
  refine ⟨ps, e _ _ (fun z => by rw [z, hd] at h1; cases h1) h1, h2, fun pos cv hc => ?_⟩
  obtain ⟨c0, e1, e2⟩ := h3 pos cv hc
  exact ⟨c0, e1, e _ _ (fun z => by rw [z, hd] at e2; exact dk_ne_code _ (Option.some.inj e2).symm) e2⟩
theorem tape_extN {K : PySem.W.Frag} {t c : Addr} {b : Nat} {H H' : Hp} (h : Tape K H t c b) (e : ExtN H H') : Tape K H' t c b := by
  obtain ⟨p, l, ns, h1, h2, h3⟩ := h
  refine ⟨p, l, ns, e _ _ h1 (fun ps z => by cases z), ?_, h3⟩
  rcases h2 with (h | ⟨o, h⟩) | h
  · exact .inl (.inl (e _ _ h fun ps z => by cases z))
  · exact .inl (.inr ⟨o, e _ _ h fun ps z => by cases z⟩)
  · exact .inr h
theorem kp_extN {t : Addr} {H H' : Hp} (e : ExtN H H') : Kp t H H' := ⟨fun a xs h => e _ _ h (fun ps z => by cases z), fun a xs h => e _ _ h (fun ps z => by cases z), fun a kvs _ h => e _ _ h (fun ps z => by cases z)⟩
theorem ref_all {m : Tm} : ∀ {ds : List PyData} {pre : List (List Nat)}, refused m pre ds = none → ∀ d ∈ ds, ∃ m', atT m d = some m'
  | [], _, _, d, h => by cases h
  | e :: ds, pre, h, d, hd => by
    cases q : atT m e with
    | none =>
      rw [ref_none q] at h
      cases h
    | some m' =>
      rw [ref_some q] at h
      rcases List.mem_cons.mp hd with rfl | hd
      · exact ⟨m', q⟩
      · by_cases c : pre.any (fun q => meets q (nums e)) = true
        · rw [if_pos c] at h
          cases h
        · rw [if_neg c] at h
          exact ref_all h d hd
theorem ref_mem {m : Tm} {d : PyData} : ∀ {ds : List PyData} {pre : List (List Nat)}, refused m pre ds = some d → d ∈ ds
  | [], _, h => by cases h
  | e :: ds, pre, h => by
    cases q : atT m e with
    | none =>
      rw [ref_none q] at h
      rw [← Option.some.inj h]
      exact List.mem_cons_self
    | some m' =>
      rw [ref_some q] at h
      by_cases c : pre.any (fun q => meets q (nums e)) = true
      · rw [if_pos c] at h
        rw [← Option.some.inj h]
        exact List.mem_cons_self
      · rw [if_neg c] at h
        exact List.mem_cons_of_mem _ (ref_mem h)
theorem repr_low (x : Str) (h : x.length ≤ 1000) (hc : ∀ c ∈ x.cps.toList, c < 128) : wt (.str x) ≤ 20000 := by
  have h3 := StrLaws.reprText_len x (fun c h => by have := hc c h; omega)
  simp only [wt]
  have e : (PyData.str x).shown = reprText x := by simp only [PyData.shown]
  rw [e]
  omega
section
variable {P : Program} {w : World} {K : PySem.W.Frag} {mg : Str → Option Value} {base : Heap}
/-- as lawRun_of, its code object known -/
theorem lawRun_code {st : Stmt} {f : Addr} {fd : FuncData} {N : List Str} {k : Nat} {x : Str} {sp : List V → Hp → VK → Prop} {cA : Addr} (F : Fun K "law" "law" st f fd) (S : FnScope N [x] (defScope st)) (hroom : Room (k + 1) callerA) (hco : fd.code = .ref cA)
    (hbody : ∀ (s : Shared) (H : Hp) (v : V) (Q : VK), Room k (callerA.deeper (envOfC "law" (defScope st) s.heap.objs.size f (.ref cA))) → sp [v] H Q →
      ∃ t, PSs (cxOf CX0 P w K mg base N "law" (defScope st) f (.ref cA) callerA [] s H E0).nox (defBody st) t ∧ t { nx := fun _ H' => Q .non H', rt := Q } (start N [v]) H) : LawRun P w K mg base f fd x sp := by
  obtain ⟨oc, od, kV, doc, pm, an, cdv, ct, osl, rfl, lk, hcd⟩ := F.ex
  have ec : cdv = .ref cA := hco
  subst ec
  intro s H args u v Q e0 hb rv hsp
  have inK : K.In s.heap := e0.mod.kin.keeps fun b o z => (e0.bs b o z).1
  have noL : s.heap.NoLimit := e0.mod.nolimit.keeps fun b o z => (e0.bs b o z).1
  have kinds : ∀ y ∈ ([x].zip [u] : List (Str × Value)), (defScope st).names.lookup y.1 = some .local ∨ ((defScope st).names.lookup y.1 = some .cell ∧ ((cellsFrom (s.heap.objs.size + 1) (defScope st).names []).lookup y.1).isSome = true) := by
    rintro ⟨n, z⟩ hy
    rcases S.par n (List.of_mem_zip hy).1 with q | q
    · exact Or.inl q
    · exact Or.inr ⟨q, PySem.W.cellsFrom_some _ _ _ (Or.inl q)⟩
  refine codeAny_call_function (Room.depth hroom) (inK _ _ lk) rfl S.co S.gen rfl (PySem.W.codeRec_of inK hcd) (hb _ _ _ _ ?_)
  refine wpAny_newFunctionEnv_cells S.kind kinds fun env he s1 xx => ?_
  subst he
  refine ⟨noL.keeps xx.toInCall.keep, codeAny_func ?_⟩
  obtain ⟨t, ht, hq⟩ := hbody s H v Q (Room.deeper hroom _) hsp
  have J : Inv (cxOf CX0 P w K mg base N "law" (defScope st) f (.ref cA) callerA [] s H E0) [] (start N [v]) H s1 := inv_start S rfl e0 rfl (Paired.cons rv .nil) xx
  refine wpAny_mono ((PSs.nox ht).run [] s1 (start N [v]) H _ J hq) (fun fl s' hs => ?_) (fun e s' hs => hs)
  cases fl with
  | next =>
    obtain ⟨σ', H', J', q⟩ := hs
    exact ⟨V.non, H', J'.os, J'.bare, J'.base, J'.hok, rfl, q⟩
  | ret z =>
    obtain ⟨v', σ', H', J', rz, q⟩ := hs
    exact ⟨v', H', J'.os, J'.bare, J'.base, J'.hok, rz, q⟩
  | brk =>
    obtain ⟨_, _, _, q⟩ := hs
    exact q.elim
  | cont =>
    obtain ⟨_, _, _, q⟩ := hs
    exact q.elim
abbrev s_law : Stmt := topS 47
abbrev N_law : List Str := ["_law_script", "_law_tape", "_law_turn", "_law_text", "_law_refusal_here", "_law_expected", "_law_chosen_here", "_law_term"]
theorem sc_law : FnScope N_law ["_law_script"] (defScope s_law) := ⟨rfl, rfl, rfl, by decide +kernel, rfl, by decide +kernel, by decide +kernel⟩
def spLaw (K : PySem.W.Frag) (Pt : Addr) : List V → Hp → VK → Prop := fun vs H Q => ∃ (a : Addr) (ns : List Int), vs = [.ref a] ∧ SqL K H a (ns.map V.int) ∧ H Pt = some (.tbl #[]) ∧ ∀ H', Q (.bl true) H'
theorem law_run {f cA Pt C g : Addr} {fd fdm : FuncData} (F : Fun K "law" "law" s_law f fd) (hco : fd.code = .ref cA) (TB : TabB base mg cA Pt) (B : Bl mg) (B9 : Bl9 mg) (hLE : mg "LookupError" = none) (hE : E1 P w K mg base "OutOfTerm" "place" mroL "LookupError.__new__" C)
    (FM : Fun K "_law_met" "_law_met" s__law_met g fdm) (hmm : mg "_law_met" = some (.ref g)) (hbm : L2.Binds K fdm ["_law_call"] [])
    (D__law_begin : Kn P w K mg base 1 "_law_begin" ["_law_script"] (spBegin K)) (D__law_draw : Kn P w K mg base 1 "_law_draw" ["_law_tape", "_law_many"] (spDraw K)) (D__law_loose : Kn P w K mg base 7 "_law_loose" ["_law_tape", "_law_names", "_law_deep"] (spLoose K 5)) (D__law_chosen : Kn P w K mg base 3 "_law_chosen" ["_law_tape", "_law_term"] (spChosen0 K))
    (D__law_refusal : KnG P w K mg base 3 "_law_refusal" spRefusal) (D__law_holed : Kn P w K mg base 7 "_law_holed" ["_law_term", "_law_spots_here"] (spHoled 6)) (D__law_cut : KnX P w K mg base 14 "_law_cut" ["_law_term", "_law_chosen_here"] (spLcut C K 6)) : LawRun P w K mg base f fd "_law_script" (spLaw K Pt) := by
  obtain ⟨oc, od, kV, doc, pm, an, cdm, ct, osl, rfl, lkm, hcm⟩ := FM.ex
  have hkm := FM.kp
  refine lawRun_code (cA := cA) F sc_law (k := 20) ⟨rfl, by decide, by decide⟩ hco (fun s H v Q hr h => ?_)
  obtain ⟨a, ns, h, hS, hP, k⟩ := h
  cases h
  have hgd : (callerA.deeper (PyProof.Rows.envOfC "law" (defScope s_law) s.heap.objs.size f (.ref cA))).guards = some [] := rfl
  have hr__law_begin : Room 1 _ := hr.mono (by decide)
  have hr__law_draw : Room 1 _ := hr.mono (by decide)
  have hr__law_loose : Room 7 _ := hr.mono (by decide)
  have hr__law_chosen : Room 3 _ := hr.mono (by decide)
  have hr__law_refusal : Room 3 _ := hr.mono (by decide)
  have hr__law_holed : Room 7 _ := hr.mono (by decide)
  have hr_lam : Room 16 _ := hr.mono (by decide)
  have hu64 := hr.units
  have huA : ∀ env, ((callerA.deeper (PyProof.Rows.envOfC "law" (defScope s_law) s.heap.objs.size f (.ref cA))).deeper env).units + 64 < cLine := fun env => (Room.deeper (hr.mono (show 19 + 1 ≤ 20 by decide)) env).units
  have hcode : (cxOf CX0 P w K mg base N_law "law" (defScope s_law) f (.ref cA) callerA [] s H E0).nox.env.code = .ref cA := rfl
  obtain ⟨T, hT⟩ : ∃ T : List (Addr × Str), T = [(Pt, (cxOf CX0 P w K mg base N_law "law" (defScope s_law) f (.ref cA) callerA [] s H E0).nox.env.qual ++ ("<lambda>" : Str))] := ⟨_, rfl⟩
  have hmT : (Pt, (cxOf CX0 P w K mg base N_law "law" (defScope s_law) f (.ref cA) callerA [] s H E0).nox.env.qual ++ ("<lambda>" : Str)) ∈ T := by
    rw [hT]
    exact List.mem_cons_self
  have huT : ∀ p ∈ T, p.1 = Pt → p.2 = (cxOf CX0 P w K mg base N_law "law" (defScope s_law) f (.ref cA) callerA [] s H E0).nox.env.qual ++ ("<lambda>" : Str) := fun p hp _ => by
    rw [hT] at hp
    exact congrArg Prod.snd (List.mem_singleton.mp hp)
  refine ⟨_, (pss_cons (ps_set (i := 1) sc_law.nd rfl (Or.inl rfl) (pe_kn D__law_begin hr__law_begin (pa_cons (pv 0) pa_nil)))
  (pss_cons (ps_for PassesOwn.never rfl (pi_range1 (by rfl) B.range (pa_cons pe_int pa_nil)) (pg_name (i := 2) sc_law.nd rfl (Or.inl rfl))
  (pss_cons (ps_set (i := 7) sc_law.nd rfl (Or.inr rfl) (pe_kn D__law_loose hr__law_loose (pa_cons (pv 1) (pa_cons (pe_lst pa_nil) (pa_cons (pe_op op_add (pe_kn D__law_draw hr__law_draw (pa_cons (pv 1) (pa_cons pe_int pa_nil))) pe_int) pa_nil)))))
  (pss_cons (ps_asg (pe_tup (pa_cons (pe_kn D__law_chosen hr__law_chosen (pa_cons (pv 1) (pa_cons (pv 7) pa_nil))) (pa_cons (pe_callB (call_reprD hgd hu64) (by rfl) B.repr (by decide +kernel) (pa_cons (pv 7) pa_nil)) pa_nil))) (pg_tup (by rfl) (pgs_cons (pg_name (i := 6) sc_law.nd rfl (Or.inr rfl)) (pgs_cons (pg_name (i := 3) sc_law.nd rfl (Or.inl rfl)) pgs_nil))))
  (pss_cons (ps_set (i := 4) sc_law.nd rfl (Or.inl rfl) (pe_kg D__law_refusal hr__law_refusal hgd (pa_cons (pv 7) (pa_cons (pv 6) pa_nil))))
  (pss_cons (ps_set (i := 5) sc_law.nd rfl (Or.inl rfl) (pe_ifExp (pt_cmpR (op_neNilL hu64) (pv 4) (pe_lst pa_nil) (nomark _)) (pe_tup (pa_cons pe_str (pa_cons (pv 4) pa_nil))) (pe_tup (pa_cons pe_str (pa_cons (pe_kn D__law_holed hr__law_holed (pa_cons (pv 7) (pa_cons (pv 6) pa_nil))) pa_nil)))))
  (pss_one (ps_if (PW.pt (pw_or (pt_cmpR op_ne (pe_callB (call_reprD hgd hu64) (by rfl) B.repr (by decide +kernel) (pa_cons (pe_lamcall (k := 14) (T := T) (TT := TTmet C) (t := fun E => tCall (spLcut C K 6) [] E (tCons (tVar 7) (tCons (tVar 6) tNil))) (by rfl) hmm hkm lkm hcm hbm sc__law_met rfl (Or.inl rfl) (met_gives hE B B9 hLE hgd huA) TB hcode hmT huT hr_lam (lamS_by (by show lamSB (defScope s_law) _ = true; decide +kernel)) (by rfl) (fun _ _ _ _ _ => by rfl) (fun A outer s H E f c hr0 => pe_knX D__law_cut hr0 (takes_of rfl rfl rfl rfl) (pa_cons (pv 7) (pa_cons (pv 6) pa_nil)))) pa_nil)) (pe_callB (call_reprD hgd hu64) (by rfl) B.repr (by decide +kernel) (pa_cons (pv 5) pa_nil)) (nomark _)) (pw_or1 (pt_cmpR op_ne (pe_callB (call_reprD hgd hu64) (by rfl) B.repr (by decide +kernel) (pa_cons (pv 7) pa_nil)) (pv 3) (nomark _)))))
  (pss_one (ps_ret pe_bl))
  pss_nil)))))))
  (pss_one (ps_ret pe_bl)))), ?_⟩
  refine ⟨_, rfl, a, ns, rfl, hS, fun H1 t c s1 nt T1 => ?_⟩
  have tb1 : Tabs T H1 := fun p hp => by
    rw [hT] at hp
    rw [List.mem_singleton.mp hp]
    exact TabS.nil (s1 _ _ hP)
  refine ⟨12, rfl, by decide, by decide, for_it (walk_range (lo := 0) (n := 12)) (fun i σ H' => Tape K H' t c ((12 - i) * 300) ∧ Tabs T H' ∧ ∃ (v2 v3 v4 v5 v6 v7 : Option V), σ = [some (.ref a), some (.ref t), v2, v3, v4, v5, v6, v7]) ⟨T1.less (by decide), tb1, _, _, _, _, _, _, rfl⟩ (fun _ _ _ _ _ => trivial) ?_ ?_⟩
  · rintro i y σ H2 H3 hi ⟨T2, tb2, v2, v3, v4, v5, v6, v7, rfl⟩ ⟨rfl, ey⟩
    have cost : (12 - i) * 300 = (12 - (i + 1)) * 300 + 300 := by omega
    rw [cost] at T2
    generalize (12 - (i + 1)) * 300 = b at T2 ⊢
    refine ⟨_, rfl, slz rfl, fun l0 hl0 => ?_⟩
    have s3 := same_new (o := .lst []) hl0
    have T3 := T2.same s3
    have n0 : l0 ≠ t := T2.ne hl0
    refine ⟨_, rfl, t, c, 4, b + 299, rfl, by decide, by decide, T3.less (by omega), fun H4 r e4 T4 r0 r4 => ?_⟩
    have gl0 := e4 l0 _ n0 upd_same
    obtain ⟨dp, rfl⟩ : ∃ dp : Nat, r = (dp : Int) := ⟨r.toNat, by omega⟩
    have hdp : dp < 4 := by omega
    have bb : bud (dp + 1) ≤ 242 := by
      match dp, hdp with
      | 0, _ => decide
      | 1, _ => decide
      | 2, _ => decide
      | 3, _ => decide
    refine ⟨_, _, rfl, rfl, t, c, l0, [], dp + 1, b + 57, rfl, gl0, (fun x hx => by cases hx), by simp; omega, by omega, by omega, T4.less (by omega), fun H5 v m e5 T5 d5 o5 p5 => ?_⟩
    have tb5 := tabs_ext (tabs_ext (tb2.ext s3) e4 T3) e5 T4
    refine ⟨_, rfl, _, rfl, t, c, v, m, b + 40, rfl, d5, by omega, T5.less (by omega), fun H6 lch us ds e6 T6 g6 f6 da6 ln6 ch6 => ?_⟩
    have tb6 := tabs_ext tb5 e6 T5
    have d6 := d5.kp (kpx e6 T5)
    obtain ⟨hm1, hm2, hm3⟩ := tm_fit (ok_fine o5) (by omega)
    obtain ⟨ad, xs, rfl, ga⟩ := tm_tup d6
    refine ⟨_, rfl, ad, m.d, rfl, d6.dp (Tm.noDict m), hm2, Tm.noDict m, by omega, by rw [sizeLine_eq]; omega, slz rfl, fun q hq => ⟨q, _, rfl, SqT.of upd_same, rfl, _, _, rfl, _, _, rfl, rfl, ?_⟩⟩
    have s7 := same_new (o := .tup [.ref lch, .str m.d.shown]) hq
    have T7 := T6.same s7
    have tb7 := tb6.ext s7
    have d7 := d6.kp (kp_same s7)
    have g7 := s7 _ _ g6
    have da7 := da6.kp (kp_same s7)
    generalize upd H6 q (.tup [.ref lch, .str m.d.shown]) = H7 at s7 T7 tb7 d7 g7 da7 ⊢
    have lu : us.length ≤ 4 := by rw [da6.len]; exact ln6
    -- the end of the round, from the two shown values
    refine ⟨_, rfl, _, rfl, t, .ref ad, m, lch, us, ds, rfl, d7, by omega, g7, da7, lu, ch6, fun href H8 rl s8 g8 => ?_, fun d href H8 rl s8 g8 n8 => ?_⟩
    · have T8 := T7.same s8
      have tb8 := tb7.ext s8
      refine ⟨_, rfl, slz rfl, fun q2 hq2 => ⟨rl, q2, _, rfl, rfl, SqL.of (same_new hq2 _ _ g8), SqL.of upd_same, _, rfl, iF rfl ?_⟩⟩
      have s9 := same_new (o := .lst []) hq2
      have S9 := s8.trans s9
      have d9 := d7.kp (kp_same S9)
      have all := ref_all href
      have e1 : ds = (ds.map nums).map plD := by
        rw [List.map_map]
        refine (List.map_congr_left (f := id) fun d hd => ?_).symm.trans (List.map_id ds) |>.symm
        obtain ⟨m', hat⟩ := all d hd
        exact (at_num hat).1
      have da9 := da7.kp (kp_same S9)
      have pl9 := da9
      rw [e1] at pl9
      refine ⟨_, rfl, _, rfl, t, .ref ad, m, lch, us, ds.map nums, rfl, d9, by omega, S9 _ _ g7, pls_of pl9, by rw [List.length_map]; omega, fun p hp => ?_, fun H10 x s10 dx => ⟨slz rfl, fun q3 hq3 => ?_⟩⟩
      · obtain ⟨d, hd2, rfl⟩ := List.mem_map.mp hp
        obtain ⟨m', hat⟩ := all d hd2
        have := (at_num hat).2.1
        omega
      have s11 := same_new (o := .tup [.str "cut", x]) hq3
      have S11 := S9.trans (s10.trans s11)
      have T11 := T7.same S11
      have tb11 := tb7.ext S11
      have d11 := d7.kp (kp_same S11)
      have g11 := S11 _ _ g7
      have da11 := da7.kp (kp_same S11)
      have dv : Da t (upd H10 q3 (.tup [.str "cut", x])) (.ref q3) (.tuple [.str "cut", (m.holes (ds.map nums)).d]) := .tup upd_same (.cons (.str _) (.cons (dx.kp (kp_same s11)) .nil))
      have fine := fine_holes (ds.map nums) (ok_fine o5)
      have dh := deep_holes m (ds.map nums)
      obtain ⟨hh1, hh2, hh3⟩ := tm_fit fine (by omega)
      have nd : (PyData.tuple [.str "cut", (m.holes (ds.map nums)).d]).hasDict = false := by simp [PyData.hasDict, PyData.hasDictAll, Tm.noDict]
      have sh : (PyData.tuple [.str "cut", (m.holes (ds.map nums)).d]).showable = true := sh_tup (sh_cons (sh_str _) (sh_cons hh2 sh_nil))
      have dpt : (PyData.tuple [.str "cut", (m.holes (ds.map nums)).d]).depth ≤ 60 := by
        simp only [PyData.depth, PyData.depthAll]
        omega
      have sl : (PyData.tuple [.str "cut", (m.holes (ds.map nums)).d]).shown.length ≤ sizeLine := by
        have h1 := shown_two (.str "cut") (m.holes (ds.map nums)).d
        have h2 : (PyData.str "cut").shown.length ≤ 20 := by decide +kernel
        rw [sizeLine_eq]
        omega
      generalize upd H10 q3 (.tup [.str "cut", x]) = H11 at S11 T11 tb11 d11 g11 da11 dv ⊢
      refine ⟨tb11, fun H12 eN tb12 => ?_⟩
      have k12 : Kp t H11 H12 := kp_extN eN
      have T12 := tape_extN T11 eN
      have d12 := d11.kp k12
      refine ⟨_, rfl, _, rfl, t, .ref ad, m, lch, us, ds, rfl, d12, o5, by omega, by omega, k12.l _ _ g11, da11.kp k12, lu, fun _ H13 x2 s13 dx2 => ⟨Nat.le_of_lt (slz rfl), fun r2 hr2 => ?_⟩, fun d hd => by rw [href] at hd; cases hd⟩
      have s14 := same_new (o := .tup [.str "cut", x2]) hr2
      have S14 := s13.trans s14
      have T14 := T12.same S14
      have tb14 := tb12.ext S14
      have d14 := d12.kp (kp_same S14)
      have dv14 := (dv.kp k12).kp (kp_same S14)
      have du14 : Dp K (upd H13 r2 (.tup [.str "cut", x2])) (.ref r2) (.tuple [.str "cut", (m.holes (ds.map nums)).d]) := .tup (SqT.of upd_same) (.cons (.str _) (.cons (L3.Dp.same s14 dx2) .nil))
      refine ⟨r2, _, rfl, du14, sh, nd, dpt, sl, _, rfl, q3, _, rfl, dv14.dp nd, sh, nd, dpt, sl, rfl, _, rfl, iF (by rw [decide_eq_true rfl]; rfl) ?_⟩
      refine ⟨_, rfl, ad, m.d, rfl, d14.dp (Tm.noDict m), hm2, Tm.noDict m, by omega, by rw [sizeLine_eq]; omega, _, rfl, rfl, _, rfl, iF (by rw [decide_eq_true rfl]; rfl) ?_⟩
      exact ⟨T14.less (by omega), tb14, _, _, _, _, _, _, rfl⟩
    · have T8 := T7.same s8
      have tb8 := tb7.ext s8
      refine ⟨_, rfl, slz rfl, fun q2 hq2 => ⟨rl, q2, _, rfl, rfl, SqL.of (same_new hq2 _ _ g8), SqL.of upd_same, _, rfl, iT rfl ?_⟩⟩
      have s9 := same_new (o := .lst []) hq2
      have S9 := s8.trans s9
      refine ⟨_, rfl, slz rfl, fun q3 hq3 => ?_⟩
      have s11 := same_new (o := .tup [.str "out", .ref rl]) hq3
      have S11 := S9.trans s11
      have T11 := T7.same S11
      have tb11 := tb7.ext S11
      have d11 := d7.kp (kp_same S11)
      have g11 := S11 _ _ g7
      have da11 := da7.kp (kp_same S11)
      have ch := ch6 d (ref_mem href)
      obtain ⟨D0, hD0⟩ : ∃ D0, D0 = PyData.tuple [.str "out", .list [.str d.shown, .bool true]] := ⟨_, rfl⟩
      have dv : Da t (upd (upd H8 q2 (.lst [])) q3 (.tup [.str "out", .ref rl])) (.ref q3) D0 := by
        rw [hD0]
        exact .tup upd_same (.cons (.str _) (.cons (.lst (s11 _ _ (s9 _ _ g8)) n8 (.cons (.str _) (.cons (.bl _) .nil))) .nil))
      have nd : D0.hasDict = false := by rw [hD0]; simp [PyData.hasDict, PyData.hasDictAll]
      have sh : D0.showable = true := by
        rw [hD0]
        refine sh_tup (sh_cons (sh_str _) (sh_cons ?_ sh_nil))
        simp only [PyData.showable]
        exact sh_cons (sh_str _) (sh_cons (by simp only [PyData.showable]) sh_nil)
      have dpt : D0.depth ≤ 60 := by
        rw [hD0]
        simp only [PyData.depth, PyData.depthAll]
        omega
      have sl : D0.shown.length ≤ sizeLine := by
        rw [hD0]
        have h1 := shown_wt (.tuple [.str "out", .list [.str d.shown, .bool true]])
        have h2 : wt (.str "out") ≤ 30 := by decide +kernel
        have h3 : wt (.bool true) ≤ 30 := by decide +kernel
        have h4 := repr_low d.shown ch.len ch.cp
        have h5 : wt (.list [.str d.shown, .bool true]) = 11 + wt (.str d.shown) + wt (.bool true) := by rw [wt_lst, wtL_cons, wtL_cons]; simp only [wtL]; omega
        rw [wt_two, h5] at h1
        rw [sizeLine_eq]
        omega
      generalize upd (upd H8 q2 (.lst [])) q3 (.tup [.str "out", .ref rl]) = H11 at S11 T11 tb11 d11 g11 da11 dv ⊢
      refine ⟨tb11, fun H12 eN tb12 => ?_⟩
      have k12 : Kp t H11 H12 := kp_extN eN
      have T12 := tape_extN T11 eN
      have d12 := d11.kp k12
      refine ⟨_, rfl, _, rfl, t, .ref ad, m, lch, us, ds, rfl, d12, o5, by omega, by omega, k12.l _ _ g11, da11.kp k12, lu, fun hn => (by rw [href] at hn; cases hn), fun d' hd' H13 dx u s13 dau gx => ?_⟩
      have ed : d' = d := Option.some.inj (hd'.symm.trans href)
      subst ed
      refine ⟨rfl, t, dx, u, d', rfl, gx, dau, ch, fun l2 r2 hl2 nl2 hr2 => ?_⟩
      have s14 := same_new (o := .lst [.str d'.shown, .bl true]) hl2
      have s15 := same_new (o := .tup [.str "out", .ref l2]) hr2
      have S14 := s13.trans (s14.trans s15)
      have T14 := T12.same S14
      have tb14 := tb12.ext S14
      have d14 := d12.kp (kp_same S14)
      have dv14 := (dv.kp k12).kp (kp_same S14)
      have du14 : Da t (upd (upd H13 l2 (.lst [.str d'.shown, .bl true])) r2 (.tup [.str "out", .ref l2])) (.ref r2) D0 := by
        rw [hD0]
        exact .tup upd_same (.cons (.str _) (.cons (.lst (s15 _ _ upd_same) nl2 (.cons (.str _) (.cons (.bl _) .nil))) .nil))
      refine ⟨r2, _, rfl, du14.dp nd, sh, nd, dpt, sl, _, rfl, q3, _, rfl, dv14.dp nd, sh, nd, dpt, sl, rfl, _, rfl, iF (by rw [decide_eq_true rfl]; rfl) ?_⟩
      refine ⟨_, rfl, ad, m.d, rfl, d14.dp (Tm.noDict m), hm2, Tm.noDict m, by omega, by rw [sizeLine_eq]; omega, _, rfl, rfl, _, rfl, iF (by rw [decide_eq_true rfl]; rfl) ?_⟩
      exact ⟨T14.less (by omega), tb14, _, _, _, _, _, _, rfl⟩
  · rintro σ H2 ⟨T2, tb2, v2, v3, v4, v5, v6, v7, rfl⟩
    exact k H2
end
end L3

/-! a law that shows values and makes a lambda: its end, with the table of its code object -/
namespace L3
open PySem PySem.Spec PyProof.Rows L2 LamX
section
variable {P : Program} {w : World} {K : PySem.W.Frag} {mg mb : Str → Option Value} {fa a cA p : Addr} {fd : FuncData} {x : Str} {sp : List V → Hp → VK → Prop} {s1 : Shared} {vs : List Value} {ns : List Int}
/-- tracked ahead of the law: the script, frozen, and the table at p -/
abbrev Only2 (p : Addr) (H : Hp) : Prop := ∀ b, b = p ∨ H b = none ∨ ∃ o xs, H b = some (.frz o (.lst xs))
theorem law_coreT (inK : K.In s1.heap) (gl : s1.heap.Ns mainGlobals mg) (bi : s1.heap.Ns builtinsNs mb) (bb : ∀ y : Str, y ≠ "__name__" → mb y = bootBuiltins y) (nl : s1.heap.NoLimit) (ng : s1.gens = #[])
    (ob : s1.heap.get? a = some { cls := .type "list", data := .seq vs.toArray }) (tb : s1.heap.get? p = some { cls := .none, data := .fields #[] }) (off2 : K.lookup p = none) (ch : PySem.W.CodeHd s1.heap cA p)
    (bm : ∃ (m : Addr) (om : Obj), mg "__builtins__" = some (.ref m) ∧ m ≠ builtinsNs ∧ s1.heap.get? m = some om ∧ om.cls = .type "module" ∧ om.dict = some builtinsNs ∧ om.data = .plain)
    (run : ∀ base : Heap, K.In base → base.Ns mainGlobals mg → TabB base mg cA p → LawRun P w K mg base fa fd x sp)
    (bind : ∀ (s : Shared) (u : Value), BindsTo s fd ⟨[u], []⟩ [(x, u)]) (want : ∀ H : Hp, H p = some (.tbl #[]) → SqL K H a (ns.map V.int) → sp [.ref a] H (fun v _ => v = .bl true))
    (H : Hp) (hP : H p = some (.tbl #[])) (hO : Only2 p H) (hS : SqL K H a (ns.map V.int)) (ok : HOk P w H s1.heap) (alone : ∀ b, H b ≠ none → b = a ∨ b = p) (off : H a ≠ none → K.lookup a = none) :
    codeAny (model P w) callerA (.call (.ref fa) ⟨[.ref a], []⟩) (LawEnd s1) s1 := by
  have hid : ∀ {b : Addr} {o : Obj}, s1.heap.get? b = some o → H b = none → (hidT s1.heap H).get? b = some o := fun z n => hidT_get z n
  -- what is neither a list nor an empty table is not tracked
  have free : ∀ {b : Addr} {o : Obj}, s1.heap.get? b = some o → (∀ us n, o.data ≠ .seq us n) → o.data ≠ .fields #[] → H b = none := by
    intro b o z n1 n2
    cases q : H b with
    | none => rfl
    | some u =>
      rcases alone b (by rw [q]; simp) with e | e
      · subst e
        rw [ob] at z
        cases z
        exact absurd rfl (n1 _ _)
      · subst e
        rw [tb] at z
        cases z
        exact absurd rfl n2
  have nsH : ∀ {b : Addr} {m : Str → Option Value}, s1.heap.Ns b m → (hidT s1.heap H).Ns b m := by
    rintro b m ⟨o, es, ep, z, dd, r⟩
    exact ⟨o, es, ep, hid z (free z (fun us n y => by rw [dd] at y; cases y) (fun y => by rw [dd] at y; cases y)), dd, r⟩
  have inH : K.In (hidT s1.heap H) := by
    intro b o z
    refine hid (inK b o z) ?_
    cases q : H b with
    | none => rfl
    | some u =>
      rcases alone b (by rw [q]; simp) with e | e
      · subst e
        rw [off (by rw [q]; simp)] at z
        cases z
      · subst e
        rw [off2] at z
        cases z
  have md : Mod K mg (hidT s1.heap H) := by
    obtain ⟨mc, z1, z2⟩ := nl
    exact ⟨inH, nsH gl, ⟨mb, nsH bi, bb⟩, ⟨mc, nsH z1, z2⟩⟩
  have tB : TabB (hidT s1.heap H) mg cA p := by
    constructor
    · obtain ⟨o, us, f1, f2, f3, f4, f5, f6, f7, z, c1, c2, c3, c4⟩ := ch
      refine ⟨o, us, f1, f2, f3, f4, f5, f6, f7, hid z (free z (fun xs n y => by rw [c2] at y; cases y) fun y => ?_), c1, c2, c3, c4⟩
      rw [c2] at y
      injection y with y
      rw [y] at c3
      cases c3
    · obtain ⟨m, om, b1, b2, b3, b4, b5, b6⟩ := bm
      have n1 : m ≠ mainGlobals := by
        rintro rfl
        obtain ⟨o, es, ep, z, dd, _⟩ := gl
        rw [z] at b3
        cases b3
        rw [dd] at b6
        cases b6
      have n2 : m ≠ p := by
        rintro rfl
        rw [tb] at b3
        cases b3
        cases b6
      exact ⟨m, om, b1, b2, n1, n2, hid b3 (free b3 (fun us n y => by rw [b6] at y; cases y) fun y => by rw [b6] at y; cases y), b4, b5, b6⟩
    · rintro rfl
      obtain ⟨o, es, ep, z, dd, _⟩ := gl
      rw [tb] at z
      cases z
      cases dd
  have e0 : Env0 P w K mg (hidT s1.heap H) callerA [] s1 H := by
    refine ⟨rfl, md, fun b o z => of_hidT z, Nat.le_of_eq (hidT_size _ _), trivial, ?_, ok, .of_eq ng⟩
    intro b hb
    exact nomatch (show b ∈ ([] : List Addr) from hb)
  refine codeAny_mono (run _ inH (nsH gl) tB s1 H ⟨[.ref a], []⟩ (.ref a) (.ref a) _ e0 (bind s1 (.ref a)) rfl (want H hP hS)) fun r s' h => ?_
  cases r with
  | error e => exact h.elim
  | ok fl =>
    cases fl with
    | next => exact h.elim
    | brk => exact h.elim
    | cont => exact h.elim
    | ret u =>
      obtain ⟨v, H', os, bare, un, ok', r', q⟩ := h
      obtain rfl : v = .bl true := q
      obtain rfl : u = Value.bool true := r'
      have rest : ∀ b o, b ≠ p → s1.heap.get? b = some o → s'.heap.get? b = some o := by
        intro b o nb z
        cases q : H b with
        | none => exact un.keep b o z q (fun y => nomatch (show b ∈ ([] : List Addr) from y)) (fun y => nomatch y)
        | some u =>
          rcases hO b with y | y | ⟨o2, xs, y⟩
          · exact absurd y nb
          · rw [q] at y
            cases y
          · obtain ⟨z1, _⟩ := ok b _ y
            obtain ⟨z2, _⟩ := ok' b _ (un.frzs b o2 _ y)
            rw [z] at z1
            cases z1
            exact z2
      obtain ⟨more, gm⟩ : ∃ more : Array Value, s'.heap.get? p = some { cls := .none, data := .fields more } := by
        obtain ⟨m, z⟩ := un.tbls p #[] hP
        exact ⟨_, ok' p _ z⟩
      refine ⟨rfl, ⟨fun b o z => ?_, fun b o z => ?_⟩, os, bare⟩
      · by_cases e : b = p
        · subst e
          rw [tb] at z
          cases z
          refine .inr (.inl ⟨(ch.tab tb).isCodeTable, rfl, #[], more, rfl, ?_⟩)
          rw [gm, Array.empty_append]
        · exact .inl (rest b o e z)
      · by_cases e : b = p
        · subst e
          exact ⟨_, gm⟩
        · exact ⟨o, rest b o e z⟩
theorem law_callGT (inK : K.In s1.heap) (gl : s1.heap.Ns mainGlobals mg) (bi : s1.heap.Ns builtinsNs mb) (bb : ∀ y : Str, y ≠ "__name__" → mb y = bootBuiltins y) (nl : s1.heap.NoLimit) (ng : s1.gens = #[])
    (ob : s1.heap.get? a = some { cls := .type "list", data := .seq vs.toArray }) (tb : s1.heap.get? p = some { cls := .none, data := .fields #[] }) (off2 : K.lookup p = none) (ch : PySem.W.CodeHd s1.heap cA p)
    (bm : ∃ (m : Addr) (om : Obj), mg "__builtins__" = some (.ref m) ∧ m ≠ builtinsNs ∧ s1.heap.get? m = some om ∧ om.cls = .type "module" ∧ om.dict = some builtinsNs ∧ om.data = .plain)
    (hi : IntsAre vs ns) (hl : ns.length ≤ sizeLine) (run : ∀ base : Heap, K.In base → base.Ns mainGlobals mg → TabB base mg cA p → LawRun P w K mg base fa fd x sp)
    (bind : ∀ (s : Shared) (u : Value), BindsTo s fd ⟨[u], []⟩ [(x, u)]) (want : ∀ H : Hp, H p = some (.tbl #[]) → SqL K H a (ns.map V.int) → sp [.ref a] H (fun v _ => v = .bl true)) :
    codeAny (model P w) callerA (.call (.ref fa) ⟨[.ref a], []⟩) (LawEnd s1) s1 := by
  have rv := vals_ints hi
  have nap : a ≠ p := by
    rintro rfl
    rw [ob] at tb
    cases tb
  have okp : ObjOk P w (upd (fun _ => none) p (.tbl #[])) s1.heap p (.tbl #[]) := tb
  cases hk : K.lookup a with
  | some o =>
    have z := inK a o hk
    rw [ob] at z
    cases z
    refine law_coreT inK gl bi bb nl ng ob tb off2 ch bm run bind want (upd (fun _ => none) p (.tbl #[])) upd_same (fun b => ?_) (Or.inr ⟨_, vs.toArray, _, hk, rfl, rfl, rfl, by rw [List.size_toArray, hi.length]; exact hl, by simpa using rv⟩) (fun b u z => ?_) (fun b z => ?_) (fun z => absurd (upd_ne nap) z)
    · by_cases e : b = p
      · exact .inl e
      · exact .inr (.inl (upd_ne e))
    · by_cases e : b = p
      · subst e
        rw [upd_same] at z
        cases z
        exact tb
      · rw [upd_ne e] at z
        cases z
    · by_cases e : b = p
      · exact .inr e
      · exact absurd (upd_ne e) z
  | none =>
    let fz : HO := .frz { cls := .type "list", data := .seq vs.toArray } (.lst (ns.map V.int))
    have at1 : upd (upd (fun _ => none) p (.tbl #[])) a fz a = some fz := upd_same
    have at2 : upd (upd (fun _ => none) p (.tbl #[])) a fz p = some (.tbl #[]) := by rw [upd_ne nap.symm, upd_same]
    have at3 : ∀ b, b ≠ a → b ≠ p → upd (upd (fun _ => none) p (.tbl #[])) a fz b = none := fun b h1 h2 => by rw [upd_ne h1, upd_ne h2]
    refine law_coreT inK gl bi bb nl ng ob tb off2 ch bm run bind want _ at2 (fun b => ?_) (.inl (.inr ⟨_, at1⟩)) (fun b u z => ?_) (fun b z => ?_) fun _ => hk
    · by_cases e : b = p
      · exact .inl e
      · by_cases e2 : b = a
        · rw [e2, at1]
          exact .inr (.inr ⟨_, _, rfl⟩)
        · exact .inr (.inl (at3 b e2 e))
    · by_cases e : b = a
      · subst e
        rw [at1] at z
        cases z
        exact ⟨ob, by rw [List.length_map]; exact hl, vs, _, rv, ob⟩
      · by_cases e2 : b = p
        · subst e2
          rw [at2] at z
          cases z
          exact tb
        · rw [at3 b e e2] at z
          cases z
    · by_cases e : b = a
      · exact .inl e
      · by_cases e2 : b = p
        · exact .inr e2
        · exact absurd (at3 b e e2) z
end
end L3

/-! a dict of the module whose keys are texts: what it has -/
namespace L3
open PySem L2
def keyNm (e : DictEntry) : Option Str := match e.key with
  | .str x _ => some x
  | _ => none
theorem has_of {K : PySem.W.Frag} {a : Addr} {es : Array DictEntry} {n : Nat} {ks : List Str} (l : K.lookup a = some ⟨.type "dict", none, .dict es n, #[]⟩) (hk : es.toList.map keyNm = ks.map some) : ∀ z : Str, ∃ r, PySem.W.nsIn K a z = some r ∧ r.isSome = decide (z ∈ ks) := by
  intro z
  unfold PySem.W.nsIn
  rw [l]
  show ∃ r, (match es.toList.find? (·.key.isStr z) with
    | some e => some (some e.val)
    | none => if es.toList.any (·.refKey) then none else some none) = some r ∧ _
  generalize es.toList = l at hk
  have key : ∀ (l : List DictEntry) (ks : List Str), l.map keyNm = ks.map some → (l.find? (·.key.isStr z)).isSome = decide (z ∈ ks) ∧ l.any (·.refKey) = false := by
    intro l
    induction l with
    | nil =>
      intro ks h
      cases ks with
      | nil => exact ⟨rfl, rfl⟩
      | cons _ _ => cases h
    | cons e r ih =>
      intro ks h
      cases ks with
      | nil => cases h
      | cons x ks =>
        rw [List.map_cons, List.map_cons] at h
        injection h with h1 h2
        obtain ⟨i1, i2⟩ := ih ks h2
        obtain ⟨tk, ek⟩ : ∃ tk, e.key = .str x tk := by
          unfold keyNm at h1
          split at h1
          · rename_i y tk q
            injection h1 with h1
            exact ⟨tk, by rw [q, h1]⟩
          · cases h1
        refine ⟨?_, ?_⟩
        · rw [List.find?_cons]
          have es : e.key.isStr z = decide (z = x) := by
            rw [ek]
            show (x == z) = decide (z = x)
            rw [Bool.eq_iff_iff, beq_iff_eq, decide_eq_true_eq]
            exact eq_comm
          rw [es]
          by_cases c : z = x
          · rw [decide_eq_true c]
            simp [c]
          · rw [decide_eq_false c]
            simp only [i1]
            rw [Bool.eq_iff_iff, decide_eq_true_eq, decide_eq_true_eq, List.mem_cons]
            exact ⟨.inr, fun h => h.resolve_left c⟩
        · rw [List.any_cons, i2, Bool.or_false]
          unfold DictEntry.refKey
          rw [ek]
  obtain ⟨k1, k2⟩ := key l ks hk
  cases hf : l.find? (·.key.isStr z) with
  | some e =>
    rw [hf] at k1
    exact ⟨some e.val, rfl, k1⟩
  | none =>
    rw [hf] at k1
    refine ⟨none, ?_, k1⟩
    show (if l.any (·.refKey) = true then none else some none) = some none
    rw [k2]
    rfl
end L3

namespace L3
open PySem L2 StX LamX
/-- a def stands at f -/
def HasFn (K : PySem.W.Frag) (f : Addr) (x q : Str) (st : Stmt) : Prop := ∃ (oc : Value) (od : Option Addr) (kV dc pm : Value) (an : Option Addr) (cd ct : Value) (sl : Array (Option Value)), K.lookup f = some ⟨oc, od, .func (PySem.W.fnOf x q (defArgs st) (defBody st) (defScope st) .none kV dc pm an cd ct), sl⟩ ∧ PySem.W.codeIn K cd q = true ∧ PySem.W.keepIn K (.ref f) = true
theorem fn_is {K : PySem.W.Frag} {f : Addr} {x q : Str} {st : Stmt} {oc : Value} {od : Option Addr} {kV dc pm : Value} {an : Option Addr} {cd ct : Value} {sl : Array (Option Value)} (l : K.lookup f = some ⟨oc, od, .func (PySem.W.fnOf x q (defArgs st) (defBody st) (defScope st) .none kV dc pm an cd ct), sl⟩) (c : PySem.W.codeIn K cd q = true) (k : PySem.W.keepIn K (.ref f) = true) : HasFn K f x q st := ⟨oc, od, kV, dc, pm, an, cd, ct, sl, l, c, k⟩

/-- what K says of a class of errors -/
structure Kc (K : PySem.W.Frag) (x : Str) (bm : List Value) (C : Addr) : Prop where
  ns : PySem.W.nsIn K mainGlobals x = some (some (.ref C))
  kC : PySem.W.keepIn K (.ref C) = true
  dct : PySem.W.hasDictIn K C = true
  ga : PySem.W.findIn K (.ref C) "__getattribute__" = some (some (.builtin "BaseException.__getattribute__"))
  gg : PySem.W.findIn K (.ref C) "__getattr__" = some none
  sb : PySem.W.subIn K (.ref C) (.type "BaseException") = some true
  cl : PySem.W.findIn K (.ref C) "__class__" = some (some (.builtin "object.__class__"))
  gs : PySem.W.specialIn K (.builtin "object.__class__") "__get__" = some (some (.builtin "getset_descriptor.__get__"))
  tk : PySem.W.takesIn K (.builtin "object.__class__") = some true
  ob : PySem.W.mroIn K C (.type "object") = some true
  cd : ∃ cd, PySem.W.clsIn K C = some cd ∧ cd.mro = .ref C :: bm
  ty : PySem.W.typeIn K (.ref C) = some (.type "type")
theorem kc_is {K : PySem.W.Frag} {x : Str} {bm : List Value} {C : Addr} {cd : ClassData} (a1 : PySem.W.nsIn K mainGlobals x = some (some (.ref C))) (a2 : PySem.W.keepIn K (.ref C) = true) (a3 : PySem.W.hasDictIn K C = true)
    (a4 : PySem.W.findIn K (.ref C) "__getattribute__" = some (some (.builtin "BaseException.__getattribute__"))) (a5 : PySem.W.findIn K (.ref C) "__getattr__" = some none) (a6 : PySem.W.subIn K (.ref C) (.type "BaseException") = some true) (a7 : PySem.W.findIn K (.ref C) "__class__" = some (some (.builtin "object.__class__")))
    (a8 : PySem.W.specialIn K (.builtin "object.__class__") "__get__" = some (some (.builtin "getset_descriptor.__get__"))) (a9 : PySem.W.takesIn K (.builtin "object.__class__") = some true) (a10 : PySem.W.mroIn K C (.type "object") = some true) (a11 : PySem.W.clsIn K C = some cd) (a12 : cd.mro = .ref C :: bm) (a13 : PySem.W.typeIn K (.ref C) = some (.type "type")) : Kc K x bm C :=
  ⟨a1, a2, a3, a4, a5, a6, a7, a8, a9, a10, ⟨cd, a11, a12⟩, a13⟩
theorem Kc.R {K : PySem.W.Frag} {x : Str} {bm : List Value} {C : Addr} (G : Kc K x bm C) : Xr K C := ⟨G.ga, G.gg, G.sb, G.dct, G.cl, G.gs, G.tk, G.ob⟩
/-- what it says of one with an own __init__ -/
structure Ki (K : PySem.W.Frag) (C : Addr) (bm : List Value) (nw : String) (fI : Addr) : Prop where
  ini : PySem.W.excInitIn K C bm nw = true
  ov : PySem.W.excOver K C bm = true
  sa : PySem.W.findIn K (.ref C) "__setattr__" = some (some (.builtin "object.__setattr__"))
  iC : PySem.W.findIn K (.ref C) "__init__" = some (some (.ref fI))
  tI : PySem.W.typeIn K (.ref fI) = some (.type "function")
theorem tk_of {K : PySem.W.Frag} {C : Addr} {f : Str} (h : PySem.W.findIn K (.ref C) f = some none) : PySem.W.takerIn K C f = some none := by
  unfold PySem.W.takerIn
  rw [h]
  rfl
section
variable {P : Program} {w : World} {K : PySem.W.Frag} {mg : Str → Option Value} {base : Heap}
theorem e1_of {x f : Str} {bm : List Value} {nw : String} {C fI : Addr} {fd : FuncData} (G : Kc K x bm C) (N : Ki K C bm nw fI) (hm : mg x = some (.ref C)) (no : PySem.W.findIn K (.ref C) f = some none) (ok : FnOk P w K mg base CX0 1 fI fd ["self", f] (spI1 K bm nw f)) (b : Binds K fd ["self", f] []) (kb : KBinds K fd ["self", f] [f] g1 gV1) : E1 P w K mg base x f bm nw C :=
  ⟨hm, ⟨N.ini, N.ov, N.sa, G.kC, G.dct⟩, G.R, tk_of no, no, ⟨fI, fd, ok, N.iC, N.tI, b⟩, ⟨fI, fd, ok, N.iC, N.tI, kb⟩, G.cd, G.ty⟩
end
theorem does_of4 {P : Program} {w : World} {K : PySem.W.Frag} {mg : Str → Option Value} {base : Heap} {f : Addr} {fd : FuncData} {ps : List Str} {k : Nat} {sp : Sp} (F : FnOk P w K mg base CX0 k f fd ps sp) (hb : Binds K fd ps []) (hk : k ≤ 4) (kp : PySem.W.keepIn K (.ref f) = true) : Does P w K mg base 4 f sp := by
  refine ⟨?_, kp⟩
  have R := F.raw hb .nil
  intro A outer s H us vs Q E hr e0 r hs
  exact R A outer s H us vs Q E (hr.mono hk) e0 r (show sp (vs ++ []) H Q E by rw [List.append_nil]; exact hs)
theorem walkXT {l : PySem.W.OpenLaw} {n : Nat} {q : Program} {loose : List Str} {XP : (Str → Option Value) → Heap → Prop} {YP : World → Heap → Prop} {d : DefRec} {sp : PySem.W.Frag → Addr → List V → Hp → VK → Prop} {x : Str}
    (hn : l.most = some n) (hn2 : n ≤ sizeLine) (hdf : d.params.defaults = [])
    (F : ∀ (w : World) (mg : Str → Option Value) (fa : Addr) (h : Heap), YP w h → h.Ns mainGlobals mg → mg d.name = some (.ref fa) →
      ∃ (K : PySem.W.Frag) (fd : FuncData) (c p : Addr), K.In h ∧ h.get? p = some { cls := .none, data := .fields #[] } ∧ K.lookup p = none ∧ PySem.W.CodeHd h c p ∧ (∀ (s : Shared) (u : Value), BindsTo s fd ⟨[u], []⟩ [(x, u)]) ∧ ∀ base : Heap, K.In base → base.Ns mainGlobals mg → TabB base mg c p → LawRun l.prog w K mg base fa fd x (sp K p))
    (want : ∀ (K : PySem.W.Frag) (p : Addr) (H : Hp) (a : Addr) (ns : List Int), ns.length ≤ n → H p = some (.tbl #[]) → SqL K H a (ns.map V.int) → sp K p [.ref a] H (fun v _ => v = .bl true)) : PySem.W.WalkO q loose XP YP l.row.toRowW d [] (fun f vs => PySem.call f vs) := by
  refine Att.attach_call hn hdf ?_
  intro w s0 s1 mg mb fa o pm cd doc a vs ns G Y ho hd hcd hmg hobj hints hlen hg
  obtain ⟨K, fd, c, p, KX, tb, off, ch, hb, run⟩ := F w mg fa _ Y G.T.g hmg
  exact law_callGT KX G.T.g G.T.b G.T.builtins G.T.nolimit hg hobj tb off ch G.T.bmain hints (Nat.le_trans hlen hn2) run hb (fun H hP hS => want _ _ H a ns hlen hP hS)

theorem hole_of {K : PySem.W.Frag} {hA : Addr} {od : Option Addr} {its : Array Value} {n : Nat} {sl : Array (Option Value)} (lw : K.lookup hA = some ⟨.type "tuple", od, .seq its n, sl⟩) (v : Vals [V.str "hole"] its.toList) : ∀ H, SqT K H hA [.str "hole"] := fun H => by
  refine .inr ⟨_, _, _, lw, rfl, rfl, ?_, v⟩
  have e2 : its.size = its.toList.length := by simp
  rw [e2, ← v.length]
  exact (by decide : 1 ≤ sizeLine)
theorem all_mk {l : PySem.W.OpenLaw} {w : World} {K : PySem.W.Frag} {h : Heap} {mg : Str → Option Value} {fa C gI bA fA hA f1 f2 f3 f4 f5 f6 f7 f8 f9 f10 f11 f12 f13 f14 f15 f16 f17 f18 f19 f20 f21 f22 f23 f24 f25 f26 f27 f28 f29 f30 f31 f32 f33 f34 : Addr} {esB esF : Array DictEntry} {nB nF : Nat} (X : K.In h) (G : h.Ns mainGlobals mg) (hfa : mg "law" = some (.ref fa))
    (a1 : PySem.W.nsIn K mainGlobals "is_word" = some (some (.ref f1))) (u1 : HasFn K f1 "is_word" "is_word" s_is_word)
    (a2 : PySem.W.nsIn K mainGlobals "is_name" = some (some (.ref f2))) (u2 : HasFn K f2 "is_name" "is_name" s_is_name)
    (a3 : PySem.W.nsIn K mainGlobals "is_integer" = some (some (.ref f3))) (u3 : HasFn K f3 "is_integer" "is_integer" s_is_integer)
    (a4 : PySem.W.nsIn K mainGlobals "parts_in" = some (some (.ref f4))) (u4 : HasFn K f4 "parts_in" "parts_in" s_parts_in)
    (a5 : PySem.W.nsIn K mainGlobals "parts_in_name" = some (some (.ref f5))) (u5 : HasFn K f5 "parts_in_name" "parts_in_name" s_parts_in_name)
    (a6 : PySem.W.nsIn K mainGlobals "parts_in_whole" = some (some (.ref f6))) (u6 : HasFn K f6 "parts_in_whole" "parts_in_whole" s_parts_in_whole)
    (a7 : PySem.W.nsIn K mainGlobals "parts_in_text" = some (some (.ref f7))) (u7 : HasFn K f7 "parts_in_text" "parts_in_text" s_parts_in_text)
    (a8 : PySem.W.nsIn K mainGlobals "parts_in_use" = some (some (.ref f8))) (u8 : HasFn K f8 "parts_in_use" "parts_in_use" s_parts_in_use)
    (a9 : PySem.W.nsIn K mainGlobals "parts_in_given" = some (some (.ref f9))) (u9 : HasFn K f9 "parts_in_given" "parts_in_given" s_parts_in_given)
    (a10 : PySem.W.nsIn K mainGlobals "parts_in_let" = some (some (.ref f10))) (u10 : HasFn K f10 "parts_in_let" "parts_in_let" s_parts_in_let)
    (a11 : PySem.W.nsIn K mainGlobals "parts_in_match" = some (some (.ref f11))) (u11 : HasFn K f11 "parts_in_match" "parts_in_match" s_parts_in_match)
    (a12 : PySem.W.nsIn K mainGlobals "is_whole" = some (some (.ref f12))) (u12 : HasFn K f12 "is_whole" "is_whole" s_is_whole)
    (a13 : PySem.W.nsIn K mainGlobals "is_text" = some (some (.ref f13))) (u13 : HasFn K f13 "is_text" "is_text" s_is_text)
    (a14 : PySem.W.nsIn K mainGlobals "are_rows" = some (some (.ref f14))) (u14 : HasFn K f14 "are_rows" "are_rows" s_are_rows)
    (a15 : PySem.W.nsIn K mainGlobals "are_different_names" = some (some (.ref f15))) (u15 : HasFn K f15 "are_different_names" "are_different_names" s_are_different_names)
    (a16 : PySem.W.nsIn K mainGlobals "part_at" = some (some (.ref f16))) (u16 : HasFn K f16 "part_at" "part_at" s_part_at)
    (a17 : PySem.W.nsIn K mainGlobals "with_parts" = some (some (.ref f17))) (u17 : HasFn K f17 "with_parts" "with_parts" s_with_parts)
    (a18 : PySem.W.nsIn K mainGlobals "with_holes" = some (some (.ref f18))) (u18 : HasFn K f18 "with_holes" "with_holes" s_with_holes)
    (a19 : PySem.W.nsIn K mainGlobals "is_around" = some (some (.ref f19))) (u19 : HasFn K f19 "is_around" "is_around" s_is_around)
    (a20 : PySem.W.nsIn K mainGlobals "cut" = some (some (.ref f20))) (u20 : HasFn K f20 "cut" "cut" s_cut)
    (a21 : PySem.W.nsIn K mainGlobals "_law_begin" = some (some (.ref f21))) (u21 : HasFn K f21 "_law_begin" "_law_begin" s__law_begin)
    (a22 : PySem.W.nsIn K mainGlobals "_law_draw" = some (some (.ref f22))) (u22 : HasFn K f22 "_law_draw" "_law_draw" s__law_draw)
    (a23 : PySem.W.nsIn K mainGlobals "_law_pick" = some (some (.ref f23))) (u23 : HasFn K f23 "_law_pick" "_law_pick" s__law_pick)
    (a24 : PySem.W.nsIn K mainGlobals "_law_parts_of" = some (some (.ref f24))) (u24 : HasFn K f24 "_law_parts_of" "_law_parts_of" s__law_parts_of)
    (a25 : PySem.W.nsIn K mainGlobals "_law_rebuilt" = some (some (.ref f25))) (u25 : HasFn K f25 "_law_rebuilt" "_law_rebuilt" s__law_rebuilt)
    (a26 : PySem.W.nsIn K mainGlobals "_law_spots" = some (some (.ref f26))) (u26 : HasFn K f26 "_law_spots" "_law_spots" s__law_spots)
    (a27 : PySem.W.nsIn K mainGlobals "_law_holed" = some (some (.ref f27))) (u27 : HasFn K f27 "_law_holed" "_law_holed" s__law_holed)
    (a28 : PySem.W.nsIn K mainGlobals "_law_ends" = some (some (.ref f28))) (u28 : HasFn K f28 "_law_ends" "_law_ends" s__law_ends)
    (a29 : PySem.W.nsIn K mainGlobals "_law_loose" = some (some (.ref f29))) (u29 : HasFn K f29 "_law_loose" "_law_loose" s__law_loose)
    (a30 : PySem.W.nsIn K mainGlobals "_law_chosen" = some (some (.ref f30))) (u30 : HasFn K f30 "_law_chosen" "_law_chosen" s__law_chosen)
    (a31 : PySem.W.nsIn K mainGlobals "_law_cut" = some (some (.ref f31))) (u31 : HasFn K f31 "_law_cut" "_law_cut" s__law_cut)
    (a32 : PySem.W.nsIn K mainGlobals "_law_refusal" = some (some (.ref f32))) (u32 : HasFn K f32 "_law_refusal" "_law_refusal" s__law_refusal)
    (a33 : PySem.W.nsIn K mainGlobals "_law_met" = some (some (.ref f33))) (u33 : HasFn K f33 "_law_met" "_law_met" s__law_met)
    {oc0 kV0 dc0 pm0 ct0 : Value} {od0 an0 : Option Addr} {sl0 : Array (Option Value)} {cL pt : Addr} (a34 : PySem.W.nsIn K mainGlobals "law" = some (some (.ref f34))) (l0 : K.lookup f34 = some ⟨oc0, od0, .func (PySem.W.fnOf "law" "law" (defArgs s_law) (defBody s_law) (defScope s_law) .none kV0 dc0 pm0 an0 (.ref cL) ct0), sl0⟩) (c0 : PySem.W.codeIn K (.ref cL) "law" = true) (k0 : PySem.W.keepIn K (.ref f34) = true) (hc : PySem.W.codeHdIn K cL pt = true)
    (z0 : PySem.W.nsIn K mainGlobals "len" = some none) (z1 : PySem.W.nsIn K mainGlobals "int" = some none) (z2 : PySem.W.nsIn K mainGlobals "list" = some none) (z3 : PySem.W.nsIn K mainGlobals "tuple" = some none) (z4 : PySem.W.nsIn K mainGlobals "dict" = some none) (z5 : PySem.W.nsIn K mainGlobals "repr" = some none) (z6 : PySem.W.nsIn K mainGlobals "range" = some none) (z7 : PySem.W.nsIn K mainGlobals "zip" = some none) (z8 : PySem.W.nsIn K mainGlobals "sorted" = some none) (z9 : PySem.W.nsIn K mainGlobals "isinstance" = some none) (z10 : PySem.W.nsIn K mainGlobals "all" = some none) (z11 : PySem.W.nsIn K mainGlobals "str" = some none) (z12 : PySem.W.nsIn K mainGlobals "tuple" = some none) (z13 : PySem.W.nsIn K mainGlobals "bool" = some none) (z14 : PySem.W.nsIn K mainGlobals "int" = some none) (z15 : PySem.W.nsIn K mainGlobals "ord" = some none) (z16 : PySem.W.nsIn K mainGlobals "abs" = some none) (z17 : PySem.W.nsIn K mainGlobals "max" = some none) (z18 : PySem.W.nsIn K mainGlobals "set" = some none) (z19 : PySem.W.nsIn K mainGlobals "enumerate" = some none) (z20 : PySem.W.nsIn K mainGlobals "any" = some none) (z21 : PySem.W.nsIn K mainGlobals "LookupError" = some none)
    {uL uO uX : Value} (aL : PySem.W.nsIn K mainGlobals "LONGEST" = some (some uL)) (rL : RelV (.int 8) uL) (aO : PySem.W.nsIn K mainGlobals "BOUND" = some (some uO)) (rO : RelV (.int (10 ^ 30)) uO) (aX : PySem.W.nsIn K mainGlobals "LONGEST_TEXT" = some (some uX)) (rX : RelV (.int 200) uX)
    (aB : PySem.W.nsIn K mainGlobals "BARRED" = some (some (.ref bA))) (lB : K.lookup bA = some ⟨.type "dict", none, .dict esB nB, #[]⟩) (kB : PySem.W.KeysLit w.params esB.toList) (wB : (bA == sysModules) = false) (vB : esB.toList.map keyNm = barL.map some)
    (aF : PySem.W.nsIn K mainGlobals "FORMS" = some (some (.ref fA))) (lF : K.lookup fA = some ⟨.type "dict", none, .dict esF nF, #[]⟩) (kF : PySem.W.KeysLit w.params esF.toList) (wF : (fA == sysModules) = false) (vF : esF.toList.map keyNm = formL.map some)
    (y0 : PySem.W.nsIn K fA "name" = some (some (.ref f5)))
    (y1 : PySem.W.nsIn K fA "whole" = some (some (.ref f6)))
    (y2 : PySem.W.nsIn K fA "text" = some (some (.ref f7)))
    (y3 : PySem.W.nsIn K fA "use" = some (some (.ref f8)))
    (y4 : PySem.W.nsIn K fA "given" = some (some (.ref f9)))
    (y5 : PySem.W.nsIn K fA "let" = some (some (.ref f10)))
    (y6 : PySem.W.nsIn K fA "match" = some (some (.ref f11)))
    (aH : PySem.W.nsIn K mainGlobals "HOLE" = some (some (.ref hA))) {odH : Option Addr} {itH : Array Value} {nH : Nat} {slH : Array (Option Value)} (lH : K.lookup hA = some ⟨.type "tuple", odH, .seq itH nH, slH⟩) (vH : Vals [V.str "hole"] itH.toList)
    (q : Kc K "OutOfTerm" mroL C) (p : Ki K C mroL "LookupError.__new__" gI) (v : HasFn K gI "__init__" "OutOfTerm.__init__" s_OutOfTerm___init__) (no : PySem.W.findIn K (.ref C) "place" = some none) :
    ∃ (fd : FuncData) (c : Addr), PySem.W.CodeHd h c pt ∧ (∀ (s : Shared) (v : Value), BindsTo s fd ⟨[v], []⟩ [("_law_script", v)]) ∧ ∀ base : Heap, K.In base → base.Ns mainGlobals mg → TabB base mg c pt → LawRun l.prog w K mg base fa fd "_law_script" (spLaw K pt) := by
  have e := hfa.symm.trans (PySem.W.mg_of X G a34)
  cases e
  have B : Bl mg := ⟨PySem.W.mg_none_of X G z0, PySem.W.mg_none_of X G z1, PySem.W.mg_none_of X G z2, PySem.W.mg_none_of X G z3, PySem.W.mg_none_of X G z4, PySem.W.mg_none_of X G z5, PySem.W.mg_none_of X G z6, PySem.W.mg_none_of X G z7, PySem.W.mg_none_of X G z8⟩
  have B9 : Bl9 mg := ⟨PySem.W.mg_none_of X G z9, PySem.W.mg_none_of X G z10, PySem.W.mg_none_of X G z11, PySem.W.mg_none_of X G z12, PySem.W.mg_none_of X G z13, PySem.W.mg_none_of X G z14, PySem.W.mg_none_of X G z15, PySem.W.mg_none_of X G z16, PySem.W.mg_none_of X G z17⟩
  have M : Mn K w mg bA esB nB := ⟨⟨_, PySem.W.mg_of X G aL, rL⟩, ⟨_, PySem.W.mg_of X G aB, rfl⟩, ⟨lB, kB, wB⟩, has_of lB vB, ⟨_, PySem.W.mg_of X G aO, rO⟩, ⟨_, PySem.W.mg_of X G aX, rX⟩, PySem.W.mg_none_of X G z18⟩
  have HM : Hm K mg hA := ⟨⟨_, PySem.W.mg_of X G aH, rfl⟩, hole_of lH vH, PySem.W.mg_none_of X G z19⟩
  have HN : Hn mg := ⟨PySem.W.mg_none_of X G z19, PySem.W.mg_none_of X G z20⟩
  have LE : mg "LookupError" = none := PySem.W.mg_none_of X G z21
  obtain ⟨oc1, od1, kV1, dc1, pm1, an1, cd1, ct1, sl1, l1, c1, k1⟩ := u1
  obtain ⟨oc2, od2, kV2, dc2, pm2, an2, cd2, ct2, sl2, l2, c2, k2⟩ := u2
  obtain ⟨oc3, od3, kV3, dc3, pm3, an3, cd3, ct3, sl3, l3, c3, k3⟩ := u3
  obtain ⟨oc4, od4, kV4, dc4, pm4, an4, cd4, ct4, sl4, l4, c4, k4⟩ := u4
  obtain ⟨oc5, od5, kV5, dc5, pm5, an5, cd5, ct5, sl5, l5, c5, k5⟩ := u5
  obtain ⟨oc6, od6, kV6, dc6, pm6, an6, cd6, ct6, sl6, l6, c6, k6⟩ := u6
  obtain ⟨oc7, od7, kV7, dc7, pm7, an7, cd7, ct7, sl7, l7, c7, k7⟩ := u7
  obtain ⟨oc8, od8, kV8, dc8, pm8, an8, cd8, ct8, sl8, l8, c8, k8⟩ := u8
  obtain ⟨oc9, od9, kV9, dc9, pm9, an9, cd9, ct9, sl9, l9, c9, k9⟩ := u9
  obtain ⟨oc10, od10, kV10, dc10, pm10, an10, cd10, ct10, sl10, l10, c10, k10⟩ := u10
  obtain ⟨oc11, od11, kV11, dc11, pm11, an11, cd11, ct11, sl11, l11, c11, k11⟩ := u11
  obtain ⟨oc12, od12, kV12, dc12, pm12, an12, cd12, ct12, sl12, l12, c12, k12⟩ := u12
  obtain ⟨oc13, od13, kV13, dc13, pm13, an13, cd13, ct13, sl13, l13, c13, k13⟩ := u13
  obtain ⟨oc14, od14, kV14, dc14, pm14, an14, cd14, ct14, sl14, l14, c14, k14⟩ := u14
  obtain ⟨oc15, od15, kV15, dc15, pm15, an15, cd15, ct15, sl15, l15, c15, k15⟩ := u15
  obtain ⟨oc16, od16, kV16, dc16, pm16, an16, cd16, ct16, sl16, l16, c16, k16⟩ := u16
  obtain ⟨oc17, od17, kV17, dc17, pm17, an17, cd17, ct17, sl17, l17, c17, k17⟩ := u17
  obtain ⟨oc18, od18, kV18, dc18, pm18, an18, cd18, ct18, sl18, l18, c18, k18⟩ := u18
  obtain ⟨oc19, od19, kV19, dc19, pm19, an19, cd19, ct19, sl19, l19, c19, k19⟩ := u19
  obtain ⟨oc20, od20, kV20, dc20, pm20, an20, cd20, ct20, sl20, l20, c20, k20⟩ := u20
  obtain ⟨oc21, od21, kV21, dc21, pm21, an21, cd21, ct21, sl21, l21, c21, k21⟩ := u21
  obtain ⟨oc22, od22, kV22, dc22, pm22, an22, cd22, ct22, sl22, l22, c22, k22⟩ := u22
  obtain ⟨oc23, od23, kV23, dc23, pm23, an23, cd23, ct23, sl23, l23, c23, k23⟩ := u23
  obtain ⟨oc24, od24, kV24, dc24, pm24, an24, cd24, ct24, sl24, l24, c24, k24⟩ := u24
  obtain ⟨oc25, od25, kV25, dc25, pm25, an25, cd25, ct25, sl25, l25, c25, k25⟩ := u25
  obtain ⟨oc26, od26, kV26, dc26, pm26, an26, cd26, ct26, sl26, l26, c26, k26⟩ := u26
  obtain ⟨oc27, od27, kV27, dc27, pm27, an27, cd27, ct27, sl27, l27, c27, k27⟩ := u27
  obtain ⟨oc28, od28, kV28, dc28, pm28, an28, cd28, ct28, sl28, l28, c28, k28⟩ := u28
  obtain ⟨oc29, od29, kV29, dc29, pm29, an29, cd29, ct29, sl29, l29, c29, k29⟩ := u29
  obtain ⟨oc30, od30, kV30, dc30, pm30, an30, cd30, ct30, sl30, l30, c30, k30⟩ := u30
  obtain ⟨oc31, od31, kV31, dc31, pm31, an31, cd31, ct31, sl31, l31, c31, k31⟩ := u31
  obtain ⟨oc32, od32, kV32, dc32, pm32, an32, cd32, ct32, sl32, l32, c32, k32⟩ := u32
  obtain ⟨oc33, od33, kV33, dc33, pm33, an33, cd33, ct33, sl33, l33, c33, k33⟩ := u33
  have F1 := fun_mk (st := s_is_word) l1 c1 k1
  have m1 := PySem.W.mg_of X G a1
  have F2 := fun_mk (st := s_is_name) l2 c2 k2
  have m2 := PySem.W.mg_of X G a2
  have F3 := fun_mk (st := s_is_integer) l3 c3 k3
  have m3 := PySem.W.mg_of X G a3
  have F4 := fun_mk (st := s_parts_in) l4 c4 k4
  have m4 := PySem.W.mg_of X G a4
  have F5 := fun_mk (st := s_parts_in_name) l5 c5 k5
  have m5 := PySem.W.mg_of X G a5
  have F6 := fun_mk (st := s_parts_in_whole) l6 c6 k6
  have m6 := PySem.W.mg_of X G a6
  have F7 := fun_mk (st := s_parts_in_text) l7 c7 k7
  have m7 := PySem.W.mg_of X G a7
  have F8 := fun_mk (st := s_parts_in_use) l8 c8 k8
  have m8 := PySem.W.mg_of X G a8
  have F9 := fun_mk (st := s_parts_in_given) l9 c9 k9
  have m9 := PySem.W.mg_of X G a9
  have F10 := fun_mk (st := s_parts_in_let) l10 c10 k10
  have m10 := PySem.W.mg_of X G a10
  have F11 := fun_mk (st := s_parts_in_match) l11 c11 k11
  have m11 := PySem.W.mg_of X G a11
  have F12 := fun_mk (st := s_is_whole) l12 c12 k12
  have m12 := PySem.W.mg_of X G a12
  have F13 := fun_mk (st := s_is_text) l13 c13 k13
  have m13 := PySem.W.mg_of X G a13
  have F14 := fun_mk (st := s_are_rows) l14 c14 k14
  have m14 := PySem.W.mg_of X G a14
  have F15 := fun_mk (st := s_are_different_names) l15 c15 k15
  have m15 := PySem.W.mg_of X G a15
  have F16 := fun_mk (st := s_part_at) l16 c16 k16
  have m16 := PySem.W.mg_of X G a16
  have F17 := fun_mk (st := s_with_parts) l17 c17 k17
  have m17 := PySem.W.mg_of X G a17
  have F18 := fun_mk (st := s_with_holes) l18 c18 k18
  have m18 := PySem.W.mg_of X G a18
  have F19 := fun_mk (st := s_is_around) l19 c19 k19
  have m19 := PySem.W.mg_of X G a19
  have F20 := fun_mk (st := s_cut) l20 c20 k20
  have m20 := PySem.W.mg_of X G a20
  have F21 := fun_mk (st := s__law_begin) l21 c21 k21
  have m21 := PySem.W.mg_of X G a21
  have F22 := fun_mk (st := s__law_draw) l22 c22 k22
  have m22 := PySem.W.mg_of X G a22
  have F23 := fun_mk (st := s__law_pick) l23 c23 k23
  have m23 := PySem.W.mg_of X G a23
  have F24 := fun_mk (st := s__law_parts_of) l24 c24 k24
  have m24 := PySem.W.mg_of X G a24
  have F25 := fun_mk (st := s__law_rebuilt) l25 c25 k25
  have m25 := PySem.W.mg_of X G a25
  have F26 := fun_mk (st := s__law_spots) l26 c26 k26
  have m26 := PySem.W.mg_of X G a26
  have F27 := fun_mk (st := s__law_holed) l27 c27 k27
  have m27 := PySem.W.mg_of X G a27
  have F28 := fun_mk (st := s__law_ends) l28 c28 k28
  have m28 := PySem.W.mg_of X G a28
  have F29 := fun_mk (st := s__law_loose) l29 c29 k29
  have m29 := PySem.W.mg_of X G a29
  have F30 := fun_mk (st := s__law_chosen) l30 c30 k30
  have m30 := PySem.W.mg_of X G a30
  have F31 := fun_mk (st := s__law_cut) l31 c31 k31
  have m31 := PySem.W.mg_of X G a31
  have F32 := fun_mk (st := s__law_refusal) l32 c32 k32
  have m32 := PySem.W.mg_of X G a32
  have F33 := fun_mk (st := s__law_met) l33 c33 k33
  have m33 := PySem.W.mg_of X G a33
  have F34 := fun_mk (st := s_law) l0 c0 k0
  refine ⟨PySem.W.fnOf "law" "law" (defArgs s_law) (defBody s_law) (defScope s_law) .none kV0 dc0 pm0 an0 (.ref cL) ct0, cL, PySem.W.codeHd_of_K X hc, fun s v => .of_eq rfl, fun base _ _ TB => ?_⟩
  have EO : E1 l.prog w K mg base "OutOfTerm" "place" mroL "LookupError.__new__" C := by
    obtain ⟨_, _, kV, dc, pm, an, cd, ct, _, lk, ck, kk⟩ := v
    have F := fun_mk (st := s_OutOfTerm___init__) lk ck kk
    exact e1_of q p (PySem.W.mg_of X G q.ns) no (i_OutOfTerm F) (F.binds (fun _ _ _ _ _ _ us hl => match us, hl with | [_, _], _ => rfl)) (kb1 (fun s a b => .of_eq rfl))
  have Dword := Fun.kn (P := l.prog) (w := w) (base := base) (k := 1) F1 m1 (ok_word F1 B B9 M) (fun _ _ _ _ _ _ us hl => match us, hl with | [_], _ => rfl)
  have Dname := Fun.kn (P := l.prog) (w := w) (base := base) (k := 2) F2 m2 (ok_name F2 M Dword) (fun _ _ _ _ _ _ us hl => match us, hl with | [_], _ => rfl)
  have Dint := Fun.kn (P := l.prog) (w := w) (base := base) (k := 1) F3 m3 (ok_int F3 B9) (fun _ _ _ _ _ _ us hl => match us, hl with | [_], _ => rfl)
  have Dwhole := Fun.kn (P := l.prog) (w := w) (base := base) (k := 2) F12 m12 (ok_whole F12 M Dint) (fun _ _ _ _ _ _ us hl => match us, hl with | [_], _ => rfl)
  have Dtext := Fun.kn (P := l.prog) (w := w) (base := base) (k := 1) F13 m13 (ok_text F13 B B9 M) (fun _ _ _ _ _ _ us hl => match us, hl with | [_], _ => rfl)
  have Drows := Fun.kn (P := l.prog) (w := w) (base := base) (k := 1) F14 m14 (ok_rows F14 B B9) (fun _ _ _ _ _ _ us hl => match us, hl with | [_, _], _ => rfl)
  have Ddif := Fun.kn (P := l.prog) (w := w) (base := base) (k := 3) F15 m15 (ok_dif F15 B B9 M Dname) (fun _ _ _ _ _ _ us hl => match us, hl with | [_], _ => rfl)
  have FM : Fm l.prog w K mg base fA esF nF := ⟨⟨_, PySem.W.mg_of X G aF, rfl⟩, ⟨lF, kF, wF⟩, has_of lF vF, ⟨_, ⟨_, _, _, lF, kF, y0, rfl⟩, does_of4 (P := l.prog) (w := w) (mg := mg) (base := base) (ok_fname F5 B Dname) (F5.binds (fun _ _ _ _ _ _ us hl => match us, hl with | [_], _ => rfl)) (by decide) k5⟩, ⟨_, ⟨_, _, _, lF, kF, y1, rfl⟩, does_of4 (P := l.prog) (w := w) (mg := mg) (base := base) (ok_fwhole F6 B Dwhole) (F6.binds (fun _ _ _ _ _ _ us hl => match us, hl with | [_], _ => rfl)) (by decide) k6⟩, ⟨_, ⟨_, _, _, lF, kF, y2, rfl⟩, does_of4 (P := l.prog) (w := w) (mg := mg) (base := base) (ok_ftext F7 B Dtext) (F7.binds (fun _ _ _ _ _ _ us hl => match us, hl with | [_], _ => rfl)) (by decide) k7⟩, ⟨_, ⟨_, _, _, lF, kF, y3, rfl⟩, does_of4 (P := l.prog) (w := w) (mg := mg) (base := base) (ok_fuse F8 B) (F8.binds (fun _ _ _ _ _ _ us hl => match us, hl with | [_], _ => rfl)) (by decide) k8⟩, ⟨_, ⟨_, _, _, lF, kF, y4, rfl⟩, does_of4 (P := l.prog) (w := w) (mg := mg) (base := base) (ok_fgiv F9 B Dname) (F9.binds (fun _ _ _ _ _ _ us hl => match us, hl with | [_], _ => rfl)) (by decide) k9⟩, ⟨_, ⟨_, _, _, lF, kF, y5, rfl⟩, does_of4 (P := l.prog) (w := w) (mg := mg) (base := base) (ok_flet F10 B Drows Ddif) (F10.binds (fun _ _ _ _ _ _ us hl => match us, hl with | [_], _ => rfl)) (by decide) k10⟩, ⟨_, ⟨_, _, _, lF, kF, y6, rfl⟩, does_of4 (P := l.prog) (w := w) (mg := mg) (base := base) (ok_fmat F11 B B9 Dname Drows Ddif) (F11.binds (fun _ _ _ _ _ _ us hl => match us, hl with | [_], _ => rfl)) (by decide) k11⟩⟩
  have Dparts := Fun.kn (P := l.prog) (w := w) (base := base) (k := 5) F4 m4 (ok_parts F4 B B9 FM) (fun _ _ _ _ _ _ us hl => match us, hl with | [_], _ => rfl)
  have Dat := Fun.knX (P := l.prog) (w := w) (base := base) (k := 6) F16 m16 (ok_at F16 B B9 EO Dparts Dint) (fun _ _ _ _ _ _ us hl => match us, hl with | [_, _], _ => rfl)
  have Dwith := Fun.kn (P := l.prog) (w := w) (base := base) (k := 1) F17 m17 (ok_with F17 B) (fun _ _ _ _ _ _ us hl => match us, hl with | [_, _], _ => rfl)
  have Dh0 := Fun.kn (P := l.prog) (w := w) (base := base) (k := 6) (sp := spHoles K 0) F18 m18 (F18.ok sc_with_holes (fun vs H Q E h => by obtain ⟨_, _, _, _, _, _, _, _, _, hn, _⟩ := h; exact absurd hn (Nat.not_lt_zero _)) (fun cdv A outer s H vs Q E hr h => by obtain ⟨_, _, _, _, _, _, _, _, _, hn, _⟩ := h; exact absurd hn (Nat.not_lt_zero _))) (fun _ _ _ _ _ _ us hl => match us, hl with | [_, _], _ => rfl)
  have Dh1 := Fun.kn (P := l.prog) (w := w) (base := base) (k := 7) F18 m18 (ok_holes (n := 0) (k := 6) (by decide) F18 B HM Dparts Dwith Dh0) (fun _ _ _ _ _ _ us hl => match us, hl with | [_, _], _ => rfl)
  have Dh2 := Fun.kn (P := l.prog) (w := w) (base := base) (k := 8) F18 m18 (ok_holes (n := 1) (k := 7) (by decide) F18 B HM Dparts Dwith Dh1) (fun _ _ _ _ _ _ us hl => match us, hl with | [_, _], _ => rfl)
  have Dh3 := Fun.kn (P := l.prog) (w := w) (base := base) (k := 9) F18 m18 (ok_holes (n := 2) (k := 8) (by decide) F18 B HM Dparts Dwith Dh2) (fun _ _ _ _ _ _ us hl => match us, hl with | [_, _], _ => rfl)
  have Dh4 := Fun.kn (P := l.prog) (w := w) (base := base) (k := 10) F18 m18 (ok_holes (n := 3) (k := 9) (by decide) F18 B HM Dparts Dwith Dh3) (fun _ _ _ _ _ _ us hl => match us, hl with | [_, _], _ => rfl)
  have Dh5 := Fun.kn (P := l.prog) (w := w) (base := base) (k := 11) F18 m18 (ok_holes (n := 4) (k := 10) (by decide) F18 B HM Dparts Dwith Dh4) (fun _ _ _ _ _ _ us hl => match us, hl with | [_, _], _ => rfl)
  have Dh6 := Fun.kn (P := l.prog) (w := w) (base := base) (k := 12) F18 m18 (ok_holes (n := 5) (k := 11) (by decide) F18 B HM Dparts Dwith Dh5) (fun _ _ _ _ _ _ us hl => match us, hl with | [_, _], _ => rfl)
  have Daround := Fun.kn (P := l.prog) (w := w) (base := base) (k := 1) F19 m19 (ok_around F19 B) (fun _ _ _ _ _ _ us hl => match us, hl with | [_, _], _ => rfl)
  have Dcut : KnSX l.prog w K mg base 13 "cut" (spStar 1 (spCut0 C K 6)) := ⟨f20, ok_cut (kh := 12) (n := 6) (by decide) F20 B HN EO (fun _ _ _ _ _ _ us rest hl => match us, rest, hl with | [_], [], _ => rfl | [_], _ :: _, _ => rfl) Dat Daround Dh6, m20, k20⟩
  have Dbegin := Fun.kn (P := l.prog) (w := w) (base := base) (k := 1) F21 m21 (ok_begin F21) (fun _ _ _ _ _ _ us hl => match us, hl with | [_], _ => rfl)
  have Ddraw := Fun.kn (P := l.prog) (w := w) (base := base) (k := 1) F22 m22 (ok_draw F22 B) (fun _ _ _ _ _ _ us hl => match us, hl with | [_, _], _ => rfl)
  have Dpick := Fun.kn (P := l.prog) (w := w) (base := base) (k := 2) F23 m23 (ok_pick F23 B Ddraw) (fun _ _ _ _ _ _ us hl => match us, hl with | [_, _], _ => rfl)
  have Dlp := Fun.kn (P := l.prog) (w := w) (base := base) (k := 1) F24 m24 (ok_lparts F24 B) (fun _ _ _ _ _ _ us hl => match us, hl with | [_], _ => rfl)
  have Dreb := Fun.kn (P := l.prog) (w := w) (base := base) (k := 1) F25 m25 (ok_reb F25 B) (fun _ _ _ _ _ _ us hl => match us, hl with | [_, _], _ => rfl)
  have Dspots := Fun.kn (P := l.prog) (w := w) (base := base) (k := 2) F26 m26 (ok_lspots F26 B Dlp) (fun _ _ _ _ _ _ us hl => match us, hl with | [_], _ => rfl)
  have Dl0 := Fun.kn (P := l.prog) (w := w) (base := base) (k := 1) (sp := spHoled 0) F27 m27 (F27.ok sc__law_holed (fun vs H Q E h => by obtain ⟨_, _, _, _, _, _, _, _, hn, _⟩ := h; exact absurd hn (Nat.not_lt_zero _)) (fun cdv A outer s H vs Q E hr h => by obtain ⟨_, _, _, _, _, _, _, _, hn, _⟩ := h; exact absurd hn (Nat.not_lt_zero _))) (fun _ _ _ _ _ _ us hl => match us, hl with | [_, _], _ => rfl)
  have Dl1 := Fun.kn (P := l.prog) (w := w) (base := base) (k := 2) F27 m27 (ok_holed (n := 0) (k := 1) (by decide) F27 B Dlp Dreb Dl0) (fun _ _ _ _ _ _ us hl => match us, hl with | [_, _], _ => rfl)
  have Dl2 := Fun.kn (P := l.prog) (w := w) (base := base) (k := 3) F27 m27 (ok_holed (n := 1) (k := 2) (by decide) F27 B Dlp Dreb Dl1) (fun _ _ _ _ _ _ us hl => match us, hl with | [_, _], _ => rfl)
  have Dl3 := Fun.kn (P := l.prog) (w := w) (base := base) (k := 4) F27 m27 (ok_holed (n := 2) (k := 3) (by decide) F27 B Dlp Dreb Dl2) (fun _ _ _ _ _ _ us hl => match us, hl with | [_, _], _ => rfl)
  have Dl4 := Fun.kn (P := l.prog) (w := w) (base := base) (k := 5) F27 m27 (ok_holed (n := 3) (k := 4) (by decide) F27 B Dlp Dreb Dl3) (fun _ _ _ _ _ _ us hl => match us, hl with | [_, _], _ => rfl)
  have Dl5 := Fun.kn (P := l.prog) (w := w) (base := base) (k := 6) F27 m27 (ok_holed (n := 4) (k := 5) (by decide) F27 B Dlp Dreb Dl4) (fun _ _ _ _ _ _ us hl => match us, hl with | [_, _], _ => rfl)
  have Dl6 := Fun.kn (P := l.prog) (w := w) (base := base) (k := 7) F27 m27 (ok_holed (n := 5) (k := 6) (by decide) F27 B Dlp Dreb Dl5) (fun _ _ _ _ _ _ us hl => match us, hl with | [_, _], _ => rfl)
  have Dends := Fun.kn (P := l.prog) (w := w) (base := base) (k := 1) F28 m28 (ok_ends F28 B) (fun _ _ _ _ _ _ us hl => match us, hl with | [_, _], _ => rfl)
  have Do0 := Fun.kn (P := l.prog) (w := w) (base := base) (k := 2) (sp := spLoose K 0) F29 m29 (F29.ok sc__law_loose (fun vs H Q E h => by obtain ⟨_, _, _, _, _, _, _, _, _, _, hn, _⟩ := h; exact absurd hn (Nat.not_lt_zero _)) (fun cdv A outer s H vs Q E hr h => by obtain ⟨_, _, _, _, _, _, _, _, _, _, hn, _⟩ := h; exact absurd hn (Nat.not_lt_zero _))) (fun _ _ _ _ _ _ us hl => match us, hl with | [_, _, _], _ => rfl)
  have Do1 := Fun.kn (P := l.prog) (w := w) (base := base) (k := 3) F29 m29 (ok_loose (n := 0) (k := 2) (by decide) F29 B Ddraw Dpick Do0) (fun _ _ _ _ _ _ us hl => match us, hl with | [_, _, _], _ => rfl)
  have Do2 := Fun.kn (P := l.prog) (w := w) (base := base) (k := 4) F29 m29 (ok_loose (n := 1) (k := 3) (by decide) F29 B Ddraw Dpick Do1) (fun _ _ _ _ _ _ us hl => match us, hl with | [_, _, _], _ => rfl)
  have Do3 := Fun.kn (P := l.prog) (w := w) (base := base) (k := 5) F29 m29 (ok_loose (n := 2) (k := 4) (by decide) F29 B Ddraw Dpick Do2) (fun _ _ _ _ _ _ us hl => match us, hl with | [_, _, _], _ => rfl)
  have Do4 := Fun.kn (P := l.prog) (w := w) (base := base) (k := 6) F29 m29 (ok_loose (n := 3) (k := 5) (by decide) F29 B Ddraw Dpick Do3) (fun _ _ _ _ _ _ us hl => match us, hl with | [_, _, _], _ => rfl)
  have Do5 := Fun.kn (P := l.prog) (w := w) (base := base) (k := 7) F29 m29 (ok_loose (n := 4) (k := 6) (by decide) F29 B Ddraw Dpick Do4) (fun _ _ _ _ _ _ us hl => match us, hl with | [_, _, _], _ => rfl)
  have Dchosen := Fun.kn (P := l.prog) (w := w) (base := base) (k := 3) F30 m30 (ok_chosen F30 B Ddraw Dpick Dspots) (fun _ _ _ _ _ _ us hl => match us, hl with | [_, _], _ => rfl)
  have Dlcut := Fun.knX (P := l.prog) (w := w) (base := base) (k := 14) F31 m31 (ok_lcut F31 B Dcut) (fun _ _ _ _ _ _ us hl => match us, hl with | [_, _], _ => rfl)
  have Dref : KnG l.prog w K mg base 3 "_law_refusal" spRefusal := ⟨f32, ok_refusal F32 B (F32.binds (fun _ _ _ _ _ _ us hl => match us, hl with | [_, _], _ => rfl)) Dspots Dends, m32, k32⟩
  exact law_run F34 rfl TB B B9 LE EO F33 m33 (F33.binds (fun _ _ _ _ _ _ us hl => match us, hl with | [_], _ => rfl)) Dbegin Ddraw Do5 Dchosen Dref Dl6 Dlcut
theorem ex_of {l : PySem.W.OpenLaw} {w : World} {K : PySem.W.Frag} {h : Heap} {mg : Str → Option Value} {fa pt : Addr} (KX : K.In h) (T8 : h.get? pt = some { cls := .none, data := .fields #[] }) (off : K.lookup pt = none)
    (r : ∃ (fd : FuncData) (c : Addr), PySem.W.CodeHd h c pt ∧ (∀ (s : Shared) (v : Value), BindsTo s fd ⟨[v], []⟩ [("_law_script", v)]) ∧ ∀ base : Heap, K.In base → base.Ns mainGlobals mg → TabB base mg c pt → LawRun l.prog w K mg base fa fd "_law_script" (spLaw K pt)) :
    ∃ (K : PySem.W.Frag) (fd : FuncData) (c p : Addr), K.In h ∧ h.get? p = some { cls := .none, data := .fields #[] } ∧ K.lookup p = none ∧ PySem.W.CodeHd h c p ∧ (∀ (s : Shared) (u : Value), BindsTo s fd ⟨[u], []⟩ [("_law_script", u)]) ∧ ∀ base : Heap, K.In base → base.Ns mainGlobals mg → TabB base mg c p → LawRun l.prog w K mg base fa fd "_law_script" (spLaw K p) := by
  obtain ⟨fd, c, h1, h2, h3⟩ := r
  exact ⟨K, fd, c, pt, KX, T8, off, h1, h2, h3⟩
end L3

set_option maxHeartbeats 4000000
open PySem PySem.W PySem.Calls PyProof.Rows in
set_option maxRecDepth 100000 in
set_option maxHeartbeats 0 in
theorem PySem.Challenge.cw_leastneeds_k79_cuts_of_terms_holds : PySem.Challenge.rw_leastneeds_k79_cuts_of_terms.Holds := by
  w_on; o_law; k_head; (case hw => w_witness2)
  k_fill
  refine L3.walkXT (l := PySem.Challenge.rw_leastneeds_k79_cuts_of_terms) (n := 63) (x := "_law_script") (sp := fun K p => L3.spLaw K p) rfl (by decide) rfl ?F (fun K p H a ns _ hP hS => ⟨a, ns, rfl, hS, hP, fun _ => rfl⟩)
  case F =>
    intro w mg fa h Y G hmg
    have KX := km_in_of Y
    have T8 := km_tabs_of Y _ List.mem_cons_self
    refine' L3.ex_of (l := PySem.Challenge.rw_leastneeds_k79_cuts_of_terms) KX T8 ?off (L3.all_mk (l := PySem.Challenge.rw_leastneeds_k79_cuts_of_terms) KX G hmg ?a1 ?u1 ?a2 ?u2 ?a3 ?u3 ?a4 ?u4 ?a5 ?u5 ?a6 ?u6 ?a7 ?u7 ?a8 ?u8 ?a9 ?u9 ?a10 ?u10 ?a11 ?u11 ?a12 ?u12 ?a13 ?u13 ?a14 ?u14 ?a15 ?u15 ?a16 ?u16 ?a17 ?u17 ?a18 ?u18 ?a19 ?u19 ?a20 ?u20 ?a21 ?u21 ?a22 ?u22 ?a23 ?u23 ?a24 ?u24 ?a25 ?u25 ?a26 ?u26 ?a27 ?u27 ?a28 ?u28 ?a29 ?u29 ?a30 ?u30 ?a31 ?u31 ?a32 ?u32 ?a33 ?u33 ?a34 ?l0 ?c0 ?k0 ?hcd ?z0 ?z1 ?z2 ?z3 ?z4 ?z5 ?z6 ?z7 ?z8 ?z9 ?z10 ?z11 ?z12 ?z13 ?z14 ?z15 ?z16 ?z17 ?z18 ?z19 ?z20 ?z21 ?aL ?rL ?aO ?rO ?aX ?rX ?aB ?lB ?kB ?wB ?vB ?aF ?lF ?kF ?wF ?vF ?y0 ?y1 ?y2 ?y3 ?y4 ?y5 ?y6 ?aH ?lH ?vH ?cQ ?cP ?vI ?cNo)
    (case off => rfl)
    (case a1 => k_is)
    (case u1 => refine' L3.fn_is ?l ?c ?k; (case l => k_is); (case c => k_is); (case k => k_is))
    (case a2 => k_is)
    (case u2 => refine' L3.fn_is ?l ?c ?k; (case l => k_is); (case c => k_is); (case k => k_is))
    (case a3 => k_is)
    (case u3 => refine' L3.fn_is ?l ?c ?k; (case l => k_is); (case c => k_is); (case k => k_is))
    (case a4 => k_is)
    (case u4 => refine' L3.fn_is ?l ?c ?k; (case l => k_is); (case c => k_is); (case k => k_is))
    (case a5 => k_is)
    (case u5 => refine' L3.fn_is ?l ?c ?k; (case l => k_is); (case c => k_is); (case k => k_is))
    (case a6 => k_is)
    (case u6 => refine' L3.fn_is ?l ?c ?k; (case l => k_is); (case c => k_is); (case k => k_is))
    (case a7 => k_is)
    (case u7 => refine' L3.fn_is ?l ?c ?k; (case l => k_is); (case c => k_is); (case k => k_is))
    (case a8 => k_is)
    (case u8 => refine' L3.fn_is ?l ?c ?k; (case l => k_is); (case c => k_is); (case k => k_is))
    (case a9 => k_is)
    (case u9 => refine' L3.fn_is ?l ?c ?k; (case l => k_is); (case c => k_is); (case k => k_is))
    (case a10 => k_is)
    (case u10 => refine' L3.fn_is ?l ?c ?k; (case l => k_is); (case c => k_is); (case k => k_is))
    (case a11 => k_is)
    (case u11 => refine' L3.fn_is ?l ?c ?k; (case l => k_is); (case c => k_is); (case k => k_is))
    (case a12 => k_is)
    (case u12 => refine' L3.fn_is ?l ?c ?k; (case l => k_is); (case c => k_is); (case k => k_is))
    (case a13 => k_is)
    (case u13 => refine' L3.fn_is ?l ?c ?k; (case l => k_is); (case c => k_is); (case k => k_is))
    (case a14 => k_is)
    (case u14 => refine' L3.fn_is ?l ?c ?k; (case l => k_is); (case c => k_is); (case k => k_is))
    (case a15 => k_is)
    (case u15 => refine' L3.fn_is ?l ?c ?k; (case l => k_is); (case c => k_is); (case k => k_is))
    (case a16 => k_is)
    (case u16 => refine' L3.fn_is ?l ?c ?k; (case l => k_is); (case c => k_is); (case k => k_is))
    (case a17 => k_is)
    (case u17 => refine' L3.fn_is ?l ?c ?k; (case l => k_is); (case c => k_is); (case k => k_is))
    (case a18 => k_is)
    (case u18 => refine' L3.fn_is ?l ?c ?k; (case l => k_is); (case c => k_is); (case k => k_is))
    (case a19 => k_is)
    (case u19 => refine' L3.fn_is ?l ?c ?k; (case l => k_is); (case c => k_is); (case k => k_is))
    (case a20 => k_is)
    (case u20 => refine' L3.fn_is ?l ?c ?k; (case l => k_is); (case c => k_is); (case k => k_is))
    (case a21 => k_is)
    (case u21 => refine' L3.fn_is ?l ?c ?k; (case l => k_is); (case c => k_is); (case k => k_is))
    (case a22 => k_is)
    (case u22 => refine' L3.fn_is ?l ?c ?k; (case l => k_is); (case c => k_is); (case k => k_is))
    (case a23 => k_is)
    (case u23 => refine' L3.fn_is ?l ?c ?k; (case l => k_is); (case c => k_is); (case k => k_is))
    (case a24 => k_is)
    (case u24 => refine' L3.fn_is ?l ?c ?k; (case l => k_is); (case c => k_is); (case k => k_is))
    (case a25 => k_is)
    (case u25 => refine' L3.fn_is ?l ?c ?k; (case l => k_is); (case c => k_is); (case k => k_is))
    (case a26 => k_is)
    (case u26 => refine' L3.fn_is ?l ?c ?k; (case l => k_is); (case c => k_is); (case k => k_is))
    (case a27 => k_is)
    (case u27 => refine' L3.fn_is ?l ?c ?k; (case l => k_is); (case c => k_is); (case k => k_is))
    (case a28 => k_is)
    (case u28 => refine' L3.fn_is ?l ?c ?k; (case l => k_is); (case c => k_is); (case k => k_is))
    (case a29 => k_is)
    (case u29 => refine' L3.fn_is ?l ?c ?k; (case l => k_is); (case c => k_is); (case k => k_is))
    (case a30 => k_is)
    (case u30 => refine' L3.fn_is ?l ?c ?k; (case l => k_is); (case c => k_is); (case k => k_is))
    (case a31 => k_is)
    (case u31 => refine' L3.fn_is ?l ?c ?k; (case l => k_is); (case c => k_is); (case k => k_is))
    (case a32 => k_is)
    (case u32 => refine' L3.fn_is ?l ?c ?k; (case l => k_is); (case c => k_is); (case k => k_is))
    (case a33 => k_is)
    (case u33 => refine' L3.fn_is ?l ?c ?k; (case l => k_is); (case c => k_is); (case k => k_is))
    (case a34 => k_is)
    (case l0 => k_is)
    (case c0 => k_is)
    (case k0 => k_is)
    (case hcd => kernel_rfl)
    (case z0 => k_is)
    (case z1 => k_is)
    (case z2 => k_is)
    (case z3 => k_is)
    (case z4 => k_is)
    (case z5 => k_is)
    (case z6 => k_is)
    (case z7 => k_is)
    (case z8 => k_is)
    (case z9 => k_is)
    (case z10 => k_is)
    (case z11 => k_is)
    (case z12 => k_is)
    (case z13 => k_is)
    (case z14 => k_is)
    (case z15 => k_is)
    (case z16 => k_is)
    (case z17 => k_is)
    (case z18 => k_is)
    (case z19 => k_is)
    (case z20 => k_is)
    (case z21 => k_is)
    (case aL => k_is)
    (case rL => exact ⟨_, rfl⟩)
    (case aO => k_is)
    (case rO => exact ⟨_, rfl⟩)
    (case aX => k_is)
    (case rX => exact ⟨_, rfl⟩)
    (case aB => k_is)
    (case lB => k_is)
    (case kB => exact ⟨⟨_, _, rfl, rfl⟩, ⟨⟨_, _, rfl, rfl⟩, ⟨⟨_, _, rfl, rfl⟩, ⟨⟨_, _, rfl, rfl⟩, ⟨⟨_, _, rfl, rfl⟩, ⟨⟨_, _, rfl, rfl⟩, ⟨⟨_, _, rfl, rfl⟩, ⟨⟨_, _, rfl, rfl⟩, ⟨⟨_, _, rfl, rfl⟩, ⟨⟨_, _, rfl, rfl⟩, ⟨⟨_, _, rfl, rfl⟩, ⟨⟨_, _, rfl, rfl⟩, ⟨⟨_, _, rfl, rfl⟩, ⟨⟨_, _, rfl, rfl⟩, ⟨⟨_, _, rfl, rfl⟩, ⟨⟨_, _, rfl, rfl⟩, ⟨⟨_, _, rfl, rfl⟩, trivial⟩⟩⟩⟩⟩⟩⟩⟩⟩⟩⟩⟩⟩⟩⟩⟩⟩)
    (case wB => rfl)
    (case vB => rfl)
    (case aF => k_is)
    (case lF => k_is)
    (case kF => exact ⟨⟨_, _, rfl, rfl⟩, ⟨⟨_, _, rfl, rfl⟩, ⟨⟨_, _, rfl, rfl⟩, ⟨⟨_, _, rfl, rfl⟩, ⟨⟨_, _, rfl, rfl⟩, ⟨⟨_, _, rfl, rfl⟩, ⟨⟨_, _, rfl, rfl⟩, ⟨⟨_, _, rfl, rfl⟩, trivial⟩⟩⟩⟩⟩⟩⟩⟩)
    (case wF => rfl)
    (case vF => rfl)
    (case y0 => k_is)
    (case y1 => k_is)
    (case y2 => k_is)
    (case y3 => k_is)
    (case y4 => k_is)
    (case y5 => k_is)
    (case y6 => k_is)
    (case aH => k_is)
    (case lH => k_is)
    (case vH => exact .cons ⟨_, rfl⟩ .nil)
    (case cQ => refine' L3.kc_is ?a1 ?a2 ?a3 ?a4 ?a5 ?a6 ?a7 ?a8 ?a9 ?a10 ?a11 ?a12 ?a13; (case a1 => k_is); (case a2 => k_is); (case a3 => k_is); (case a4 => k_is); (case a5 => k_is); (case a6 => k_is); (case a7 => k_is); (case a8 => k_is); (case a9 => k_is); (case a10 => k_is); (case a11 => k_is); (case a12 => rfl); (case a13 => k_is))
    (case cP => refine' L3.Ki.mk ?b1 ?b2 ?b3 ?b4 ?b5; (case b1 => kx_is); (case b2 => kx_is); (case b3 => k_is); (case b4 => k_is); (case b5 => k_is))
    (case vI => refine' L3.fn_is ?l ?c ?k; (case l => k_is); (case c => k_is); (case k => k_is))
    (case cNo => k_is)
