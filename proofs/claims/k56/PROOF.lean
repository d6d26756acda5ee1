import PyProof.Rows.All
import Wide.All
import OpenK.AllK
import Wide.FinOn
import HandS.ForMost
import HandS.Flow
import HandS.Small
import HandS.SetKeys
import HandS.Zip
import HandS.Style
import HandS.More
import HandS.Deep
import HandS.Wide
import PySem.Challenge.RW_leastneeds_k56_primitives
import KE.KDictZip
import HandS.ListItems
import HandS.DictComp
import PyProof.ReprLen
import PyProof.StrLawsRepr
import HandS.Dict
import PyProof.EqKinds
import HandS.IsInst
import HandS.StrMore
import HandS.HeadHook3
import HandS.Steps
import HandS.Walk
import HandS.Text
import PyProof.NeKinds
import HandS.Rev
import HandS.Star
import HandS.ExcInit
import HandS.ExcField
import KE.KExcInit
import KE.KExcIs
import HandS.Exc
import HandS.ExcValue
import KE.GoesEnum
import KE.GoesMore
import HandS.Iter
import HandS.TupAny
import HandS.WordsExc
import HandS.Conv
import KE.KDictList
import PyProof.Rows.StrMeet
import HandS.OwnEq
import PyProof.InstNe
import OpenK.KMore
import HandS.Codes
import HandS.TupMul
import PyProof.StrOps2
import HandS.TryMany
import PyProof.CallFns
import HandS.ExcIs
import HandS.Lambda
import KE.IntTextLaws
import PyProof.ReprText
import PyProof.Rows.InDataRows
import HandS.EndTab
import HandS.ClsMeth
import KE.KExcLine
import HandS.HeadHook4
set_option Elab.async false
set_option linter.all false
set_option maxRecDepth 100000
set_option maxHeartbeats 4000000
namespace L3
open PySem L2
/-! ### a def that is known by its name -/
section
variable {P : Program} {w : World} {K : PySem.W.Frag} {mg : Str → Option Value} {base : Heap}
structure Kn (P : Program) (w : World) (K : PySem.W.Frag) (mg : Str → Option Value) (base : Heap) (k : Nat) (x : Str) (ps : List Str) (sp : Sp) : Prop where
  ex : ∃ (f : Addr) (fd : FuncData), FnOk P w K mg base CX0 k f fd ps sp ∧ mg x = some (.ref f) ∧ PySem.W.keepIn K (.ref f) = true ∧ Binds K fd ps []
end
section
variable {X : Cx} {x : Str} {k : Nat} {ps : List Str} {sp : Sp} {e : Expr} {es : List Expr} {t : TA} {p pos : Pos}
theorem pe_kn (D : Kn X.prog X.w X.K X.mg X.base k x ps sp) (hr : Room k X.A) (ha : PA X (e :: es) t) (hg : Gl X x := by rfl) (hdb : (x == ("__debug__" : Str)) = false := by decide)
    (he : starEach (e :: es) X.env = (false, eval e X.env) :: starEach es X.env := by rfl) (hpl : (backTo pos (starEach es X.env)).any (·.1) = false := by rfl) :
    PE X (.Call (.Name x p) (e :: es) [] pos) (tCall sp [] E0 t) := by
  obtain ⟨f, fd, F, hm, hk, hb⟩ := D.ex
  exact pe_call F hr hg hm hk hb .nil pass0 ha hdb he hpl
theorem pe_kn0 (D : Kn X.prog X.w X.K X.mg X.base k x ps sp) (hr : Room k X.A) (hg : Gl X x := by rfl) (hdb : (x == ("__debug__" : Str)) = false := by decide) :
    PE X (.Call (.Name x p) [] [] pos) (tCall sp [] E0 tNil) := by
  obtain ⟨f, fd, F, hm, hk, hb⟩ := D.ex
  exact pe_call0 F hr hg hm hk hb .nil pass0 hdb
end
/-- built-in names that the text leaves alone -/
structure Bl (mg : Str → Option Value) : Prop where
  len : mg "len" = none
  int : mg "int" = none
  list : mg "list" = none
  tuple : mg "tuple" = none
  dict : mg "dict" = none
  repr : mg "repr" = none
  range : mg "range" = none
  zip : mg "zip" = none
  sorted : mg "sorted" = none

/-! ### the tape -/
/-- all but the object at t is kept -/
def Ext (t : Addr) (H H' : Hp) : Prop := ∀ b o, b ≠ t → H b = some o → H' b = some o
theorem Ext.refl (t : Addr) (H : Hp) : Ext t H H := fun _ _ _ h => h
theorem Ext.trans {t : Addr} {H H1 H2 : Hp} (a : Ext t H H1) (b : Ext t H1 H2) : Ext t H H2 := fun c o n h => b c o n (a c o n h)
theorem Ext.new {t p : Addr} {H : Hp} {o : HO} (h : H p = none) : Ext t H (upd H p o) := fun b u _ e => by
  rw [upd_ne (ne_of_none e h)]
  exact e
theorem Ext.put {t : Addr} {H : Hp} {o : HO} : Ext t H (upd H t o) := fun b u n e => by
  rw [upd_ne n]
  exact e
theorem same_ext {t : Addr} {H H' : Hp} (h : Same H H') : Ext t H H' := fun b o _ e => h b o e
theorem same_new {p : Addr} {H : Hp} {o : HO} (h : H p = none) : Same H (upd H p o) := fun b u e => by
  rw [upd_ne (ne_of_none e h)]
  exact e
def tp (c : Addr) (p l : Int) : List (Key × V) := [(.inr "cells", .ref c), (.inr "place", .int p), (.inr "left", .int l)]
theorem tp_cells (c : Addr) (p l : Int) : valV (tp c p l) (.inr "cells") = some (.ref c) := by rfl
theorem tp_place (c : Addr) (p l : Int) : valV (tp c p l) (.inr "place") = some (.int p) := by rfl
theorem tp_left (c : Addr) (p l : Int) : valV (tp c p l) (.inr "left") = some (.int l) := by rfl
theorem tp_putP (c : Addr) (p l q : Int) : putK (tp c p l) (.inr "place") (.int q) = tp c q l := by rfl
theorem tp_putL (c : Addr) (p l q : Int) : putK (tp c p l) (.inr "left") (.int q) = tp c p q := by rfl
/-- at t a tape stands, its cells at c, from which b more cells may be taken -/
def Tape (K : PySem.W.Frag) (H : Hp) (t c : Addr) (b : Nat) : Prop :=
  ∃ (p l : Int) (ns : List Int), H t = some (.dK (tp c p l)) ∧ SqL K H c (ns.map V.int) ∧ c ≠ t ∧ 0 < ns.length ∧ ns.length ≤ 63 ∧ 0 ≤ p ∧ p + b ≤ 1000000 ∧ 0 ≤ l
theorem Tape.less {K : PySem.W.Frag} {H : Hp} {t c : Addr} {b b' : Nat} (h : Tape K H t c b) (hb : b' ≤ b) : Tape K H t c b' := by
  obtain ⟨p, l, ns, h1, h2, h3, h4, h5, h6, h7, h8⟩ := h
  exact ⟨p, l, ns, h1, h2, h3, h4, h5, h6, by omega, h8⟩
theorem SqL.same {K : PySem.W.Frag} {H H' : Hp} {a : Addr} {xs : List V} (h : SqL K H a xs) (k : ∀ o, H a = some o → H' a = some o) : SqL K H' a xs := by
  rcases h with (h | ⟨o, h⟩) | h
  · exact .inl (.inl (k _ h))
  · exact .inl (.inr ⟨o, k _ h⟩)
  · exact .inr h
theorem SqL.ext {K : PySem.W.Frag} {t : Addr} {H H' : Hp} {a : Addr} {xs : List V} (h : SqL K H a xs) (e : Ext t H H') (n : a ≠ t) : SqL K H' a xs := SqL.same h fun o q => e a o n q
/-- the tape is untouched -/
theorem Tape.same {K : PySem.W.Frag} {H H' : Hp} {t c : Addr} {b : Nat} (h : Tape K H t c b) (k : Same H H') : Tape K H' t c b := by
  obtain ⟨p, l, ns, h1, h2, h3, h4, h5, h6, h7, h8⟩ := h
  exact ⟨p, l, ns, k _ _ h1, k.seq h2, h3, h4, h5, h6, h7, h8⟩
theorem Tape.new {K : PySem.W.Frag} {H : Hp} {t c : Addr} {b : Nat} {q : Addr} {o : HO} (h : Tape K H t c b) (n : H q = none) : Tape K (upd H q o) t c b := h.same (same_new n)
theorem Tape.dict {K : PySem.W.Frag} {H : Hp} {t c : Addr} {b : Nat} (h : Tape K H t c b) : ∃ kvs, H t = some (.dK kvs) := by
  obtain ⟨p, l, ns, h1, _⟩ := h
  exact ⟨_, h1⟩
theorem Tape.ne {K : PySem.W.Frag} {H : Hp} {t c : Addr} {b : Nat} (h : Tape K H t c b) {l : Addr} (n : H l = none) : l ≠ t := fun e => by
  obtain ⟨kvs, q⟩ := h.dict
  rw [e, q] at n
  cases n
theorem Ext.free {t : Addr} {H H' : Hp} (e : Ext t H H') {l : Addr} (n : l ≠ t) (h : H' l = none) : H l = none := by
  cases q : H l with
  | none => rfl
  | some o =>
    rw [e l o n q] at h
    cases h
/-- an object D that was not there at H0 is stored into -/
theorem Tape.put {K : PySem.W.Frag} {H0 H : Hp} {t c : Addr} {b0 b : Nat} {D : Addr} {o : HO} (h0 : Tape K H0 t c b0) (e : Ext t H0 H) (h : Tape K H t c b) (n : H0 D = none) : Tape K (upd H D o) t c b := by
  have nt : t ≠ D := (h0.ne n).symm
  obtain ⟨_, _, ns, _, g2, g3, g4, g5, _⟩ := h0
  obtain ⟨p, l, _, h1, _, _, _, _, h6, h7, h8⟩ := h
  refine ⟨p, l, ns, by rw [upd_ne nt]; exact h1, SqL.same g2 fun u q => ?_, g3, g4, g5, h6, h7, h8⟩
  rw [upd_ne (ne_of_none q n)]
  exact e _ _ g3 q
theorem Ext.upd {t : Addr} {H0 H : Hp} {D : Addr} {o : HO} (e : Ext t H0 H) (n : H0 D = none) : Ext t H0 (upd H D o) := fun q u h1 h2 => by
  rw [upd_ne (ne_of_none h2 n)]
  exact e q u h1 h2
end L3

namespace L3
open PySem L2
theorem slz {n : Nat} (h : Nat.ble n 1000 = true) : n ≤ sizeLine := Nat.le_of_lt (small1000 (Nat.le_of_ble_eq_true h))
theorem iT {c : Bool} {A B : Prop} (h : c = true) (a : A) : if c = true then A else B := by
  rw [if_pos h]
  exact a
theorem iF {c : Bool} {A B : Prop} (h : c = false) (b : B) : if c = true then A else B := by
  rw [h]
  exact iteF b
theorem tg_aa : decide (V.str ("apply" : Str) = V.str ("apply" : Str)) = true := decide_eq_true rfl
theorem tg_va : decide (V.str ("var" : Str) = V.str ("apply" : Str)) = false := by decide +kernel
theorem tg_ca : decide (V.str ("con" : Str) = V.str ("apply" : Str)) = false := by decide +kernel
theorem tg_vv : decide (V.str ("var" : Str) = V.str ("var" : Str)) = true := decide_eq_true rfl
theorem tg_cv : decide (V.str ("con" : Str) = V.str ("var" : Str)) = false := by decide +kernel
theorem tg_av : decide (V.str ("apply" : Str) = V.str ("var" : Str)) = false := by decide +kernel
theorem tg_ac : decide (V.str ("apply" : Str) = V.str ("con" : Str)) = false := by decide +kernel
theorem tg_vc : decide (V.str ("var" : Str) = V.str ("con" : Str)) = false := by decide +kernel
theorem tg_cc : decide (V.str ("con" : Str) = V.str ("con" : Str)) = true := decide_eq_true rfl
/-! ### kinds -/
inductive Kd where
  | var (x : Str) | con (x : Str) | app (a b : Kd)
  deriving DecidableEq
def Kd.tag : Kd → Str
  | .var _ => "var" | .con _ => "con" | .app _ _ => "apply"
/-- a word of 1 to 8 letters from a to z -/
def Wok (x : Str) : Prop := 1 ≤ x.length ∧ x.length ≤ 8 ∧ ∀ c ∈ x.cps.toList, 97 ≤ c ∧ c ≤ 122
/-- at most n deep, of words -/
def Kd.fit : Nat → Kd → Prop
  | _, .var x => Wok x
  | _, .con x => Wok x
  | 0, .app _ _ => False
  | n + 1, .app a b => Kd.fit n a ∧ Kd.fit n b
theorem Kd.fit_mono : ∀ {k : Kd} {n m : Nat}, n ≤ m → Kd.fit n k → Kd.fit m k
  | .var _, n, m, _, h => by cases n <;> cases m <;> exact h
  | .con _, n, m, _, h => by cases n <;> cases m <;> exact h
  | .app a b, 0, _, _, h => h.elim
  | .app a b, n + 1, 0, e, _ => absurd e (by omega)
  | .app a b, n + 1, m + 1, e, h => ⟨Kd.fit_mono (by omega) h.1, Kd.fit_mono (by omega) h.2⟩
theorem Kd.fit_app {n : Nat} {a b : Kd} (h : Kd.fit n (.app a b)) : ∃ m, n = m + 1 ∧ Kd.fit m a ∧ Kd.fit m b := by
  cases n with
  | zero => exact h.elim
  | succ m => exact ⟨m, rfl, h.1, h.2⟩
def KdAt (H : Hp) : V → Kd → Prop
  | v, .var x => ∃ a, v = .ref a ∧ H a = some (.tup [.str "var", .str x])
  | v, .con x => ∃ a, v = .ref a ∧ H a = some (.tup [.str "con", .str x])
  | v, .app k l => ∃ a u z, v = .ref a ∧ H a = some (.tup [.str "apply", u, z]) ∧ KdAt H u k ∧ KdAt H z l
/-- tuples stay -/
def Tups (H H' : Hp) : Prop := ∀ b xs, H b = some (.tup xs) → H' b = some (.tup xs)
theorem same_tups {H H' : Hp} (h : Same H H') : Tups H H' := fun b xs e => h b _ e
theorem Tups.trans {H H1 H2 : Hp} (a : Tups H H1) (b : Tups H1 H2) : Tups H H2 := fun c xs e => b c xs (a c xs e)
theorem Tups.put {H : Hp} {d : Addr} {o u : HO} (h : H d = some o) (n : ∀ xs, o ≠ .tup xs) : Tups H (upd H d u) := fun b xs e => by
  rw [upd_ne (fun q => by rw [q, h] at e; exact n xs (Option.some.inj e))]
  exact e
theorem Tups.new {H : Hp} {d : Addr} {u : HO} (h : H d = none) : Tups H (upd H d u) := same_tups (same_new h)
theorem Ext.tups {K : PySem.W.Frag} {t c : Addr} {b : Nat} {H H' : Hp} (e : Ext t H H') (h : Tape K H t c b) : Tups H H' := fun q xs z => by
  obtain ⟨kvs, hk⟩ := h.dict
  exact e q _ (ne_of z hk (by intro r; cases r)) z
theorem KdAt.tups {H H' : Hp} (h : Tups H H') : ∀ {k : Kd} {v : V}, KdAt H v k → KdAt H' v k
  | .var _, _, ⟨a, e, q⟩ => ⟨a, e, h _ _ q⟩
  | .con _, _, ⟨a, e, q⟩ => ⟨a, e, h _ _ q⟩
  | .app _ _, _, ⟨a, u, z, e, q, h1, h2⟩ => ⟨a, u, z, e, h _ _ q, KdAt.tups h h1, KdAt.tups h h2⟩
/-- the tuple of a kind, and its first item -/
theorem KdAt.top {H : Hp} : ∀ {k : Kd} {v : V}, KdAt H v k → ∃ a xs, v = .ref a ∧ H a = some (.tup xs) ∧ xs[0]? = some (.str k.tag)
  | .var _, _, ⟨a, e, q⟩ => ⟨a, _, e, q, rfl⟩
  | .con _, _, ⟨a, e, q⟩ => ⟨a, _, e, q, rfl⟩
  | .app _ _, _, ⟨a, u, z, e, q, _⟩ => ⟨a, _, e, q, rfl⟩
def Kd.dat : Kd → PyData
  | .var x => .tuple [.str "var", .str x]
  | .con x => .tuple [.str "con", .str x]
  | .app a b => .tuple [.str "apply", a.dat, b.dat]
theorem KdAt.dp {K : PySem.W.Frag} {H : Hp} : ∀ {k : Kd} {v : V}, KdAt H v k → Dp K H v k.dat
  | .var x, _, ⟨a, e, q⟩ => by subst e; exact .tup (SqT.of q) (.cons (.str _) (.cons (.str _) .nil))
  | .con x, _, ⟨a, e, q⟩ => by subst e; exact .tup (SqT.of q) (.cons (.str _) (.cons (.str _) .nil))
  | .app _ _, _, ⟨a, u, z, e, q, h1, h2⟩ => by subst e; exact .tup (SqT.of q) (.cons (.str _) (.cons h1.dp (.cons h2.dp .nil)))
theorem ne_vc : ¬ (("var" : Str) = "con") := by decide +kernel
theorem ne_cv : ¬ (("con" : Str) = "var") := by decide +kernel
theorem ne_va : ¬ (("var" : Str) = "apply") := by decide +kernel
theorem ne_av : ¬ (("apply" : Str) = "var") := by decide +kernel
theorem ne_ca : ¬ (("con" : Str) = "apply") := by decide +kernel
theorem ne_ac : ¬ (("apply" : Str) = "con") := by decide +kernel
theorem str_beq (x y : Str) : (x == y) = decide (x = y) := by
  rw [Bool.eq_iff_iff]
  simp
theorem eqv_tt (xs ys : List PyData) : PyData.eqv (.tuple xs) (.tuple ys) = PyData.eqvAll xs ys := by rw [PyData.eqv]
theorem eqv_cc (x y : PyData) (xs ys : List PyData) : PyData.eqvAll (x :: xs) (y :: ys) = (PyData.eqv x y && PyData.eqvAll xs ys) := by rw [PyData.eqvAll]
theorem eqv_nn : PyData.eqvAll [] [] = true := by rw [PyData.eqvAll]
theorem eqv_nc (y : PyData) (ys : List PyData) : PyData.eqvAll [] (y :: ys) = false := by rw [PyData.eqvAll]
theorem eqv_cn (y : PyData) (ys : List PyData) : PyData.eqvAll (y :: ys) [] = false := by rw [PyData.eqvAll]
theorem eqv_ss (x y : Str) : PyData.eqv (.str x) (.str y) = decide (x = y) := by rw [PyData.eqv]; exact str_beq x y
theorem Kd.eqv (a b : Kd) : PyData.eqv a.dat b.dat = decide (a = b) := by
  induction a generalizing b with
  | var x =>
    cases b with
    | var y => simp only [Kd.dat, eqv_tt, eqv_cc, eqv_ss, eqv_nn, decide_true, Bool.true_and, Bool.and_true, Kd.var.injEq]
    | con y => simp only [Kd.dat, eqv_tt, eqv_cc, eqv_ss, decide_eq_false ne_vc, Bool.false_and, reduceCtorEq, decide_false]
    | app c d => simp only [Kd.dat, eqv_tt, eqv_cc, eqv_ss, decide_eq_false ne_va, Bool.false_and, reduceCtorEq, decide_false]
  | con x =>
    cases b with
    | con y => simp only [Kd.dat, eqv_tt, eqv_cc, eqv_ss, eqv_nn, decide_true, Bool.true_and, Bool.and_true, Kd.con.injEq]
    | var y => simp only [Kd.dat, eqv_tt, eqv_cc, eqv_ss, decide_eq_false ne_cv, Bool.false_and, reduceCtorEq, decide_false]
    | app c d => simp only [Kd.dat, eqv_tt, eqv_cc, eqv_ss, decide_eq_false ne_ca, Bool.false_and, reduceCtorEq, decide_false]
  | app a1 a2 h1 h2 =>
    cases b with
    | var y => simp only [Kd.dat, eqv_tt, eqv_cc, eqv_ss, decide_eq_false ne_av, Bool.false_and, reduceCtorEq, decide_false]
    | con y => simp only [Kd.dat, eqv_tt, eqv_cc, eqv_ss, decide_eq_false ne_ac, Bool.false_and, reduceCtorEq, decide_false]
    | app c d =>
      simp only [Kd.dat, eqv_tt, eqv_cc, eqv_ss, eqv_nn, h1, h2, decide_true, Bool.true_and, Bool.and_true, Kd.app.injEq, Bool.decide_and]
theorem SqL.extT {K : PySem.W.Frag} {t c : Addr} {b : Nat} {H H' : Hp} {a : Addr} {xs : List V} (h : SqL K H a xs) (hT : Tape K H t c b) (e : Ext t H H') : SqL K H' a xs := by
  obtain ⟨kvs, hk⟩ := hT.dict
  rcases h with (h | ⟨o, h⟩) | h
  · exact .inl (.inl (e _ _ (ne_of h hk (by intro r; cases r)) h))
  · exact .inl (.inr ⟨o, e _ _ (ne_of h hk (by intro r; cases r)) h⟩)
  · exact .inr h
theorem Wok.str {x : Str} (h : Wok x) : PyData.strOk x = true := by
  unfold PyData.strOk
  rw [Array.all_eq_true']
  intro c hc
  have := h.2.2 c (by simpa using hc)
  exact decide_eq_true (by omega)
theorem Kd.lay : ∀ {k : Kd} {n : Nat}, Kd.fit n k → k.dat.canLay0 = true ∧ k.dat.depth ≤ n + 1
  | .var x, n, h => by
    have w : Wok x := by cases n <;> exact h
    refine ⟨?_, ?_⟩
    · simp only [Kd.dat, PyData.canLay0, PyData.canLayAll0, w.str, Bool.and_true]
      decide +kernel
    · simp [Kd.dat, PyData.depth, PyData.depthAll]
  | .con x, n, h => by
    have w : Wok x := by cases n <;> exact h
    refine ⟨?_, ?_⟩
    · simp only [Kd.dat, PyData.canLay0, PyData.canLayAll0, w.str, Bool.and_true]
      decide +kernel
    · simp [Kd.dat, PyData.depth, PyData.depthAll]
  | .app a b, n, h => by
    obtain ⟨m, rfl, h1, h2⟩ := Kd.fit_app h
    obtain ⟨a1, a2⟩ := Kd.lay h1
    obtain ⟨b1, b2⟩ := Kd.lay h2
    refine ⟨?_, ?_⟩
    · simp only [Kd.dat, PyData.canLay0, PyData.canLayAll0, a1, b1, Bool.and_true]
      decide +kernel
    · simp only [Kd.dat, PyData.depth, PyData.depthAll]
      omega
theorem Kd.shaped {k : Kd} {n : Nat} (h : Kd.fit n k) (hn : n ≤ 60) : SeqAt.shaped k.dat = true := by
  obtain ⟨h1, h2⟩ := Kd.lay h
  unfold SeqAt.shaped
  rw [h1, Bool.true_and]
  exact decide_eq_true (by omega)
/-- a list of words -/
theorem dp_words {K : PySem.W.Frag} {H : Hp} : ∀ ws : List Str, DpAll K H (ws.map V.str) (ws.map PyData.str)
  | [] => .nil
  | _ :: r => .cons (.str _) (dp_words r)
theorem lay_words : ∀ {ws : List Str}, (∀ x ∈ ws, Wok x) → PyData.canLayAll0 (ws.map PyData.str) = true ∧ PyData.depthAll (ws.map PyData.str) = 0
  | [], _ => ⟨by simp [PyData.canLayAll0], by simp [PyData.depthAll]⟩
  | x :: r, h => by
    obtain ⟨h1, h2⟩ := lay_words (ws := r) fun y hy => h y (List.mem_cons_of_mem _ hy)
    refine ⟨?_, ?_⟩
    · simp only [List.map_cons, PyData.canLayAll0, PyData.canLay0, (h x List.mem_cons_self).str, h1, Bool.true_and]
    · simp only [List.map_cons, PyData.depthAll, PyData.depth, h2]; rfl
theorem shaped_words {ws : List Str} (h : ∀ x ∈ ws, Wok x) : SeqAt.shaped (.list (ws.map PyData.str)) = true := by
  obtain ⟨h1, h2⟩ := lay_words h
  unfold SeqAt.shaped
  simp only [PyData.canLay0, h1, PyData.depth, h2]
  decide
theorem shaped_nil : SeqAt.shaped (.list []) = true := by decide
/-! ### rows of kinds, dicts of kinds -/
abbrev KdsAt (H : Hp) : List V → List Kd → Prop := Paired (KdAt H)
theorem paired_get {α β : Type} {F : α → β → Prop} : ∀ {xs : List α} {ys : List β} {i : Nat} {x : α}, Paired F xs ys → xs[i]? = some x → ∃ y, ys[i]? = some y ∧ F x y
  | _, _, _, _, .nil, e => by simp at e
  | _, _, 0, _, .cons r _, e => by simp at e; subst e; exact ⟨_, rfl, r⟩
  | _, _, i + 1, x, .cons _ t, e => by
    obtain ⟨y, h1, h2⟩ := paired_get (i := i) (x := x) t (by simpa using e)
    exact ⟨y, by simpa using h1, h2⟩
theorem paired_map {α β : Type} {F G : α → β → Prop} (h : ∀ a b, F a b → G a b) : ∀ {xs : List α} {ys : List β}, Paired F xs ys → Paired G xs ys
  | _, _, .nil => .nil
  | _, _, .cons r t => .cons (h _ _ r) (paired_map h t)
theorem KdsAt.tups {H H' : Hp} (h : Tups H H') {xs : List V} {ks : List Kd} (r : KdsAt H xs ks) : KdsAt H' xs ks := paired_map (fun _ _ q => KdAt.tups h q) r
theorem KdsAt.dp {K : PySem.W.Frag} {H : Hp} : ∀ {xs : List V} {ks : List Kd}, KdsAt H xs ks → DpAll K H xs (ks.map Kd.dat)
  | _, _, .nil => .nil
  | _, _, .cons r t => .cons r.dp (KdsAt.dp t)
abbrev By := List (Str × Kd)
def lk (by' : By) (x : Str) : Option Kd := (by'.find? fun p => decide (p.1 = x)).map (·.2)
theorem lk_nil (x : Str) : lk [] x = none := rfl
theorem lk_pos {p : Str × Kd} {r : By} {x : Str} (e : p.1 = x) : lk (p :: r) x = some p.2 := by simp [lk, List.find?_cons, e]
theorem lk_neg {p : Str × Kd} {r : By} {x : Str} (e : ¬ p.1 = x) : lk (p :: r) x = lk r x := by simp [lk, List.find?_cons, e]
abbrev ByAt (H : Hp) : List (Key × V) → By → Prop := Paired fun p q => p.1 = .inr q.1 ∧ KdAt H p.2 q.2
theorem ByAt.tups {H H' : Hp} (h : Tups H H') {kvs : List (Key × V)} {by' : By} (r : ByAt H kvs by') : ByAt H' kvs by' := paired_map (fun _ _ q => ⟨q.1, KdAt.tups h q.2⟩) r
theorem ByAt.get {H : Hp} (x : Str) : ∀ {kvs : List (Key × V)} {by' : By}, ByAt H kvs by' → (valV kvs (.inr x) = none ∧ lk by' x = none) ∨ ∃ v k, valV kvs (.inr x) = some v ∧ lk by' x = some k ∧ KdAt H v k
  | _, _, .nil => .inl ⟨rfl, rfl⟩
  | p :: kvs, q :: by', .cons r t => by
    by_cases e : q.1 = x
    · exact .inr ⟨p.2, q.2, valV_pos (by rw [r.1, e]), lk_pos e, r.2⟩
    · have e' : ¬ p.1 = (.inr x : Key) := by
        rw [r.1]
        intro z
        exact e (Sum.inr.inj z)
      rw [valV_neg e', lk_neg e]
      exact ByAt.get x t
def Kd.put (by' : By) : Kd → Kd
  | .var x => (lk by' x).getD (.var x)
  | .con x => .con x
  | .app a b => .app (a.put by') (b.put by')
def conK (x : Str) (ks : List Kd) : Kd := ks.foldl Kd.app (.con x)
theorem conK_snoc (x : Str) (ks : List Kd) (k : Kd) : conK x (ks ++ [k]) = .app (conK x ks) k := by
  unfold conK
  rw [List.foldl_append]
  rfl
theorem Kd.fit_put {by' : By} {m : Nat} (hb : ∀ x k, lk by' x = some k → Kd.fit m k) : ∀ {k : Kd} {n : Nat}, Kd.fit n k → Kd.fit (n + m) (k.put by')
  | .var x, n, h => by
    have w : Wok x := by cases n <;> exact h
    show Kd.fit (n + m) ((lk by' x).getD (.var x))
    cases e : lk by' x with
    | none =>
      show Kd.fit (n + m) (.var x)
      generalize n + m = j
      cases j <;> exact w
    | some k => exact Kd.fit_mono (by omega) (hb x k e)
  | .con x, n, h => by
    have w : Wok x := by cases n <;> exact h
    show Kd.fit (n + m) (.con x)
    generalize n + m = j
    cases j <;> exact w
  | .app a b, n, h => by
    obtain ⟨j, rfl, h1, h2⟩ := Kd.fit_app h
    show Kd.fit (j + 1 + m) (.app (a.put by') (b.put by'))
    rw [show j + 1 + m = j + m + 1 by omega]
    exact ⟨Kd.fit_put hb h1, Kd.fit_put hb h2⟩
theorem fitV {n : Nat} {x : Str} (w : Wok x) : Kd.fit n (.var x) := by cases n <;> exact w
theorem fitC {n : Nat} {x : Str} (w : Wok x) : Kd.fit n (.con x) := by cases n <;> exact w
theorem wok_of_var {n : Nat} {x : Str} (h : Kd.fit n (.var x)) : Wok x := by cases n <;> exact h
theorem wok_of_con {n : Nat} {x : Str} (h : Kd.fit n (.con x)) : Wok x := by cases n <;> exact h
theorem fit_fold {j : Nat} : ∀ {ks : List Kd} {h : Kd} {i : Nat}, Kd.fit i h → (∀ k ∈ ks, Kd.fit j k) → j ≤ i → Kd.fit (i + ks.length) (ks.foldl Kd.app h)
  | [], h, i, h1, _, _ => h1
  | k :: r, h, i, h1, h2, h3 => by
    have q : Kd.fit (i + 1) (.app h k) := ⟨h1, Kd.fit_mono h3 (h2 k List.mem_cons_self)⟩
    have z := fit_fold (ks := r) q (fun y hy => h2 y (List.mem_cons_of_mem _ hy)) (by omega)
    rw [List.length_cons, show i + (r.length + 1) = i + 1 + r.length by omega]
    exact z
theorem fit_conK {j : Nat} {x : Str} {ks : List Kd} (w : Wok x) (h : ∀ k ∈ ks, Kd.fit j k) : Kd.fit (j + ks.length) (conK x ks) := fit_fold (fitC w) h (Nat.le_refl _)
theorem eqv_ll (xs ys : List PyData) : PyData.eqv (.list xs) (.list ys) = PyData.eqvAll xs ys := by rw [PyData.eqv]
theorem words_ne {ws : List Str} : (!PyData.eqv (.list (ws.map PyData.str)) (.list [])) = !ws.isEmpty := by
  rw [eqv_ll]
  cases ws with
  | nil => rw [List.map_nil, eqv_nn]; rfl
  | cons x r => rw [List.map_cons, eqv_cn]; rfl
/-- rows (word, how many parts) -/
def ConsAt (K : PySem.W.Frag) (H : Hp) (l : Addr) : Prop := ∃ xs, SqL K H l xs ∧ 0 < xs.length ∧ xs.length < 1000 ∧ ∀ v ∈ xs, ∃ (a : Addr) (x : Str) (m : Nat), v = .ref a ∧ H a = some (.tup [.str x, .int (m : Int)]) ∧ m ≤ 2 ∧ Wok x
theorem ConsAt.ext {K : PySem.W.Frag} {t c : Addr} {b : Nat} {H H' : Hp} {l : Addr} (h : ConsAt K H l) (hT : Tape K H t c b) (e : Ext t H H') : ConsAt K H' l := by
  obtain ⟨xs, h1, h2, h3, h4⟩ := h
  refine ⟨xs, SqL.extT h1 hT e, h2, h3, fun v hv => ?_⟩
  obtain ⟨a, x, m, e1, e2, e3, e4⟩ := h4 v hv
  exact ⟨a, x, m, e1, Ext.tups e hT _ _ e2, e3, e4⟩
/-- the variables of kinds are among some words -/
def Kd.of (ws : List Str) : Kd → Prop
  | .var x => x ∈ ws
  | .con _ => True
  | .app a b => Kd.of ws a ∧ Kd.of ws b
theorem of_fold {ws : List Str} : ∀ {ks : List Kd} {h : Kd}, Kd.of ws h → (∀ k ∈ ks, Kd.of ws k) → Kd.of ws (ks.foldl Kd.app h)
  | [], _, h1, _ => h1
  | k :: r, h, h1, h2 => of_fold (ks := r) (h := .app h k) ⟨h1, h2 k List.mem_cons_self⟩ fun y hy => h2 y (List.mem_cons_of_mem _ hy)
theorem of_conK {ws : List Str} {x : Str} {ks : List Kd} (h : ∀ k ∈ ks, Kd.of ws k) : Kd.of ws (conK x ks) := of_fold (h := .con x) trivial h
/-! ### recursion -/
theorem fn_false {P : Program} {w : World} {K : PySem.W.Frag} {mg : Str → Option Value} {base : Heap} {f : Addr} {fd : FuncData} {ps : List Str} : FnOk P w K mg base CX0 0 f fd ps (fun _ _ _ _ => False) :=
  ⟨fun _ _ _ _ h => h.elim, fun _ _ _ _ _ _ _ _ _ _ _ _ _ h => h.elim⟩
end L3

namespace L3
open PySem L2
def topS (i : Nat) : Stmt := PySem.Challenge.pw_leastneeds_k56_primitives.main.body.getD i (.Pass ⟨0, 0, 0, 0⟩)
theorem cdiv_big {i j : Int} (h : 0 < j) (h2 : j ≤ 1000000000000000000000000000000) : CDivW i j := by
  refine wide_div (b := 100) h ?_ (by omega) (by omega)
  have e : (2:Nat) ^ 100 = 1267650600228229401496703205376 := by decide
  rw [e]
  omega
section
variable {P : Program} {w : World} {K : PySem.W.Frag} {mg : Str → Option Value} {base : Heap}

abbrev s__law_begin : Stmt := topS 75
abbrev N__law_begin : List Str := ["_law_script"]
theorem sc__law_begin : FnScope N__law_begin ["_law_script"] (defScope s__law_begin) := ⟨rfl, rfl, rfl, by decide +kernel, rfl, by decide +kernel, by decide +kernel⟩
def spBegin (K : PySem.W.Frag) : Sp := fun vs H Q _ => ∃ (a : Addr) (ns : List Int), vs = [.ref a] ∧ SqL K H a (ns.map V.int) ∧ ∀ (H' : Hp) (t c : Addr), Same H H' → H t = none → Tape K H' t c 1000000 → Q (.ref t) H'
theorem cut63 (ns : List Int) : cutV (ns.map V.int) none (some 63) = (ns.take 63).map V.int := by
  unfold cutV
  rw [HT.sIx_none, show (63 : Int) = ((63 : Nat) : Int) from rfl, HT.sIx_nat, List.drop_zero, List.length_map, Nat.sub_zero, List.map_take]
  by_cases h : 63 ≤ ns.length
  · rw [Nat.min_eq_left h]
  · rw [Nat.min_eq_right (by omega), List.take_of_length_le (by simp), List.take_of_length_le (by simp; omega)]
theorem ok_begin {f : Addr} {fd : FuncData} (F : Fun K "_law_begin" "_law_begin" s__law_begin f fd) : FnOk P w K mg base CX0 1 f fd ["_law_script"] (spBegin K) := by
  refine F.ok sc__law_begin (fun vs H Q E h => ?_) (fun cdv A outer s H vs Q E hr h => ?_)
  · obtain ⟨a, ns, rfl, _⟩ := h
    rfl
  · obtain ⟨a, ns, rfl, hS, k⟩ := h
    refine ⟨_, (pss_one (ps_ret (pe_disp (pps_cons pe_str (pe_orT (pe_slice sl_list (pv 0) po_none (po_some pe_int)) (pe_one (pe_lst (pa_cons pe_int pa_nil)))) (pps_cons pe_str pe_int (pps_cons pe_str pe_int pps_nil))) (by rfl) (by rfl) (fun z => by cases z) (by decide)))), ?_⟩
    intro t ht
    have s0 : Same H (upd H t (.dK [])) := same_new ht
    refine ⟨_, rfl, _, rfl, a, _, rfl, s0.seq hS, fun q hq => ?_⟩
    rw [cut63]
    have nq : t ≠ q := fun e => by
      rw [← e, upd_same] at hq
      cases hq
    have s1 : Same (upd H t (.dK [])) (upd (upd H t (.dK [])) q (.lst ((ns.take 63).map V.int))) := same_new hq
    -- what stands at the end
    have fin : ∀ (H2 : Hp) (c : Addr) (ms : List Int), Same (upd H t (.dK [])) H2 → H2 c = some (.lst (ms.map V.int)) → c ≠ t → 0 < ms.length → ms.length ≤ 63 →
        H2 t = some (.dK []) ∧ ∃ kvs : List (Key × V), [(V.str "cells", V.ref c), (V.str "place", V.int 0), (V.str "left", V.int 0)] = kvs.map (fun kv => (kV kv.1, kv.2)) ∧ kvs.length ≤ 15 ∧ Q (.ref t) (upd H2 t (.dK (mergeK [] kvs))) := by
      intro H2 c ms h2 hc nc h0 h63
      refine ⟨h2 _ _ upd_same, tp c 0 0, rfl, by show 3 ≤ 15; decide, ?_⟩
      refine k _ t c (fun b o e => ?_) ht ⟨0, 0, ms, ?_, SqL.of ?_, nc, h0, h63, by omega, by omega, by omega⟩
      · have n : b ≠ t := ne_of_none e ht
        rw [upd_ne n]
        exact h2 _ _ (s0 _ _ e)
      · rw [upd_same]
        rfl
      · rw [upd_ne nc]
        exact hc
    refine ⟨_, .inl ⟨_, SqL.of upd_same, rfl⟩, ?_⟩
    cases hns : ns.take 63 with
    | nil =>
      rw [hns] at s1
      refine iteF ?_
      refine ⟨by decide, fun r hr2 => ?_⟩
      refine fin _ r [0] (s1.trans (same_new hr2)) upd_same (fun e => ?_) (by decide) (by decide)
      rw [e, upd_ne nq, upd_same] at hr2
      cases hr2
    | cons z zs =>
      refine iteT ?_
      refine fin _ q (z :: zs) (by rw [← hns]; exact s1) (by rw [upd_same]) nq.symm (Nat.zero_lt_succ _) ?_
      rw [← hns, List.length_take]
      omega

/-! ### a number from the tape -/
abbrev s__law_draw : Stmt := topS 76
abbrev N__law_draw : List Str := ["_law_tape", "_law_many", "_law_place", "_law_count", "_law_cell", "_law_found"]
theorem sc__law_draw : FnScope N__law_draw ["_law_tape", "_law_many"] (defScope s__law_draw) := ⟨rfl, rfl, rfl, by decide +kernel, rfl, by decide +kernel, by decide +kernel⟩
theorem get_left {H : Hp} {t c : Addr} {p l : Int} (h : H t = some (.dK (tp c p l))) : DGet H t (.str "left") (some (.int l)) := DGet.k (k := .inr "left") h
theorem get_place {H : Hp} {t c : Addr} {p l : Int} (h : H t = some (.dK (tp c p l))) : DGet H t (.str "place") (some (.int p)) := DGet.k (k := .inr "place") h
theorem get_cells {H : Hp} {t c : Addr} {p l : Int} (h : H t = some (.dK (tp c p l))) : DGet H t (.str "cells") (some (.ref c)) := DGet.k (k := .inr "cells") h
theorem put_left {H : Hp} {t c : Addr} {p l q : Int} (h : H t = some (.dK (tp c p l))) : DPut H t (.str "left") (.int q) (upd H t (.dK (tp c p q))) := DPut.k (k := .inr "left") (v := .int q) h (by show 3 < sizeLine; decide)
theorem put_place {H : Hp} {t c : Addr} {p l q : Int} (h : H t = some (.dK (tp c p l))) : DPut H t (.str "place") (.int q) (upd H t (.dK (tp c q l))) := DPut.k (k := .inr "place") (v := .int q) h (by show 3 < sizeLine; decide)
def spDraw (K : PySem.W.Frag) : Sp := fun vs H Q _ => ∃ (t c : Addr) (n : Int) (b : Nat), vs = [.ref t, .int n] ∧ 1 ≤ n ∧ n ≤ 1000000000000000000000000000000 ∧ Tape K H t c (b + 1) ∧
  ∀ (H' : Hp) (r : Int), Ext t H H' → Tape K H' t c b → 0 ≤ r → r < n → Q (.int r) H'
theorem ok_draw {f : Addr} {fd : FuncData} (F : Fun K "_law_draw" "_law_draw" s__law_draw f fd) (B : Bl mg) : FnOk P w K mg base CX0 1 f fd ["_law_tape", "_law_many"] (spDraw K) := by
  refine F.ok sc__law_draw (fun vs H Q E h => ?_) (fun cdv A outer s H vs Q E hr h => ?_)
  · obtain ⟨t, c, n, b, rfl, _⟩ := h
    rfl
  · obtain ⟨t, c, n, b, rfl, hn1, hn2, ⟨p, l, ns, h1, h2, h3, h4, h5, h6, h7, h8⟩, k⟩ := h
    have hu := hu_of hr
    refine ⟨_, (pss_cons (ps_if (pt_cmpR op_lt (pe_dget hu (pv 0) pe_str (fun _ _ => rfl)) (pv 1) (nomark _))
  (pss_cons (ps_par (i := 2) (j := 3) (by rfl) sc__law_draw.nd rfl rfl (by decide) rfl rfl (pa_cons (pe_dget hu (pv 0) pe_str (fun _ _ => rfl)) (pa_cons (pe_callB call_len (by rfl) B.len PySem.boot_len (pa_cons (pe_dget hu (pv 0) pe_str (fun _ _ => rfl)) pa_nil)) pa_nil)) (by rfl))
  (pss_cons (ps_asg (pe_tup (pa_cons (pe_ix ix_list (pe_dget hu (pv 0) pe_str (fun _ _ => rfl)) (pe_op op_mod (pe_callTy call_int1 (by rfl) B.int (by decide +kernel) (pa_cons (pv 2) pa_nil)) (pv 3)) (fun _ _ => rfl)) (pa_cons (pe_op op_add (pv 2) pe_int) pa_nil))) (pg_tup (by rfl) (pgs_cons (pg_name (i := 4) sc__law_draw.nd rfl (Or.inl rfl)) (pgs_cons (pg_sub (pv 0) pe_str (set_dict hu)) pgs_nil))))
  (pss_cons (ps_dput hu (pv 0) pe_str (pe_op op_mod (pe_callTy call_int1 (by rfl) B.int (by decide +kernel) (pa_cons (pe_op op_pow (pe_op op_add (pe_op op_add (pe_op op_mod (pe_callTy call_int1 (by rfl) B.int (by decide +kernel) (pa_cons (pv 4) pa_nil)) pe_int) (pe_op op_mul pe_int (pv 2))) pe_int) pe_int) pa_nil)) (pe_op op_add (pe_op op_pow pe_int pe_int) pe_int)) rfl)
  (pss_one (ps_if (PW.pt (pw_and (pt_cmpR op_ge (pv 4) (pe_op op_pow pe_int pe_int) (nomark _)) (pw_and1 (pt_cmpR op_lt (pv 2) (pv 3) (nomark _)))))
  (pss_one (ps_dput hu (pv 0) pe_str (pe_op op_sub (pv 4) (pe_op op_pow pe_int pe_int)) rfl))
  pss_nil)))))
  pss_nil)
  (pss_cons (ps_asg (pe_tup (pa_cons (pe_op op_mod (pe_callTy call_int1 (by rfl) B.int (by decide +kernel) (pa_cons (pe_dget hu (pv 0) pe_str (fun _ _ => rfl)) pa_nil)) (pv 1)) (pa_cons (pe_op op_fdivW (pe_dget hu (pv 0) pe_str (fun _ _ => rfl)) (pv 1)) pa_nil))) (pg_tup (by rfl) (pgs_cons (pg_name (i := 5) sc__law_draw.nd rfl (Or.inl rfl)) (pgs_cons (pg_sub (pv 0) pe_str (set_dict hu)) pgs_nil))))
  (pss_one (ps_ret (pv 5))))), ?_⟩
    -- the last two rows, from any tape
    have fin : ∀ (H1 : Hp) (p l : Int) (v2 v3 v4 : Option V), Ext t H H1 → H1 t = some (.dK (tp c p l)) → SqL K H1 c (ns.map V.int) → 0 ≤ p → p + b ≤ 1000000 → 0 ≤ l →
        tSeq (tAsg (tTup (tCons (tOp (rI (fun _ j => 0 < j) fun i j => .int (i % j)) (tCB (fun xs H Q => (∃ i, xs = [.int i] ∧ Q (.int i) H) ∨ ∃ k, xs = [.bl k] ∧ Q (.int (if k then 1 else 0)) H) (tCons (tDGet (tVar 0) (tC (.str "left"))) tNil)) (tVar 1)) (tCons (tOp (rI CDivW fun i j => .int (i / j)) (tDGet (tVar 0) (tC (.str "left"))) (tVar 1)) tNil)))
          (gTup K 2 (gCons (gName 5) (gCons (gSub (tVar 0) (tC (.str "left")) rSetD) gNil)))) (tRet (tVar 5)) { nx := fun _ H' => Q .non H', rt := Q } [some (.ref t), some (.int n), v2, v3, v4, none] H1 := by
      intro H1 p l v2 v3 v4 e1 g1 g2 g3 g4 g5
      refine ⟨_, rfl, _, _, rfl, get_left g1, .inl ⟨_, rfl, _, rfl, _, _, rfl, rfl, (by omega), ?_⟩⟩
      refine ⟨_, rfl, _, _, rfl, get_left g1, _, rfl, _, _, rfl, rfl, cdiv_big (by omega) (by omega), slz rfl, fun q hq => ?_⟩
      have nq : t ≠ q := ne_of_none g1 hq
      refine ⟨q, _, rfl, SqT.of upd_same, rfl, _, _, rfl, _, _, rfl, _, rfl, t, _, rfl, put_left (by rw [upd_ne nq]; exact g1), rfl, ?_⟩
      refine ⟨_, rfl, ?_⟩
      have e2 : Ext t H (upd H1 q (.tup [.int (l % n), .int (l / n)])) := e1.trans (Ext.new hq)
      refine k _ _ (e2.trans Ext.put) ⟨p, l / n, ns, upd_same, (SqL.ext g2 ((Ext.new hq).trans Ext.put) h3), h3, h4, h5, g3, g4, Int.ediv_nonneg g5 (by omega)⟩ (Int.emod_nonneg _ (by omega)) (Int.emod_lt_of_pos _ (by omega))
    refine ⟨_, rfl, _, _, rfl, get_left h1, _, rfl, _, _, rfl, rfl, _, rfl, ?_⟩
    refine ite2 (fun hc => ?_) (fun hc => ?_)
    · refine ⟨_, rfl, _, _, rfl, get_place h1, _, rfl, _, _, rfl, get_cells h1, _, _, rfl, .inl ⟨_, h2, rfl⟩, _, _, rfl, ?_⟩
      have hm : p % ((ns.map V.int).length : Int) = ((p % ((ns.map V.int).length : Int)).toNat : Int) := (Int.toNat_of_nonneg (Int.emod_nonneg _ (by rw [List.length_map]; omega))).symm
      have hlt : (p % ((ns.map V.int).length : Int)).toNat < ns.length := by
        have := Int.emod_lt_of_pos p (show (0 : Int) < ((ns.map V.int).length : Int) by rw [List.length_map]; omega)
        rw [List.length_map] at this ⊢
        omega
      refine ⟨_, rfl, _, _, rfl, get_cells h1, _, rfl, .inl ⟨_, rfl, _, rfl, _, _, rfl, rfl, (by rw [List.length_map]; omega), c, _, _, V.int (ns[(p % ((ns.map V.int).length : Int)).toNat]), rfl, rfl, h2, at_of hm (by rw [List.getElem?_map, List.getElem?_eq_getElem hlt]; rfl), ?_⟩⟩
      generalize ns[(p % ((ns.map V.int).length : Int)).toNat] = cell
      refine ⟨_, rfl, _, _, rfl, rfl, slz rfl, fun q hq => ?_⟩
      have nq : t ≠ q := ne_of_none h1 hq
      have g0 : (upd H q (.tup [.int cell, .int (p + 1)])) t = some (.dK (tp c p l)) := by rw [upd_ne nq]; exact h1
      refine ⟨q, _, rfl, SqT.of upd_same, rfl, _, _, rfl, _, _, rfl, _, rfl, t, _, rfl, put_place g0, rfl, ?_⟩
      have e1 : Ext t H (upd (upd H q (.tup [.int cell, .int (p + 1)])) t (.dK (tp c (p + 1) l))) := (Ext.new hq).trans Ext.put
      have hu1 : 0 ≤ cell % 2147483629 := Int.emod_nonneg _ (by decide)
      have hu2 : cell % 2147483629 < 2147483629 := Int.emod_lt_of_pos _ (by decide)
      refine ⟨_, rfl, .inl ⟨_, rfl, _, _, rfl, rfl, (show (0 : Int) < 2147483629 by decide), _, rfl, _, _, rfl, rfl, .inr ⟨by omega, by omega⟩, _, _, rfl, rfl, _, _, rfl, rfl, ?_⟩⟩
      refine ⟨_, _, rfl, rfl, ⟨by decide, by decide, ?_⟩, .inl ⟨_, rfl, ?_⟩⟩
      · show (cell % 2147483629 + 39373 * p + 69621).natAbs < 2 ^ 64
        omega
      generalize (cell % 2147483629 + 39373 * p + 69621) ^ (19 : Int).toNat = big
      refine ⟨_, _, rfl, rfl, ⟨by decide, by decide, by decide⟩, _, _, rfl, rfl, _, _, rfl, rfl, (show (0 : Int) < 10 ^ (52 : Int).toNat + 97 by decide +kernel), ?_⟩
      refine ⟨_, rfl, t, _, rfl, put_left upd_same, ?_⟩
      have hl : 0 ≤ big % (10 ^ (52 : Int).toNat + 97) := Int.emod_nonneg _ (by decide +kernel)
      generalize big % (10 ^ (52 : Int).toNat + 97) = l2 at hl ⊢
      have e3 : Ext t H (upd (upd (upd H q (.tup [.int cell, .int (p + 1)])) t (.dK (tp c (p + 1) l))) t (.dK (tp c (p + 1) l2))) := e1.trans Ext.put
      refine ⟨_, rfl, _, _, rfl, rfl, ⟨by decide, by decide, by decide⟩, _, _, rfl, rfl, _, rfl, ?_⟩
      refine ite2 (fun hc1 => ?_) (fun hc1 => ?_)
      · refine ⟨_, rfl, _, rfl, _, _, rfl, rfl, _, rfl, ?_⟩
        refine ite2 (fun hc2 => ?_) (fun hc2 => ?_)
        · refine ⟨_, rfl, _, _, rfl, rfl, ⟨by decide, by decide, by decide⟩, _, _, rfl, rfl, ?_⟩
          refine ⟨_, rfl, t, _, rfl, put_left upd_same, ?_⟩
          have hc3 : (10 : Int) ^ (18 : Int).toNat ≤ cell := of_decide_eq_true hc1
          exact fin _ (p + 1) _ _ _ _ (e3.trans Ext.put) upd_same (SqL.ext h2 (e3.trans Ext.put) h3) (by omega) (by omega) (by omega)
        · exact fin _ (p + 1) _ _ _ _ e3 upd_same (SqL.ext h2 e3 h3) (by omega) (by omega) hl
      · refine iteF ?_
        exact fin _ (p + 1) _ _ _ _ e3 upd_same (SqL.ext h2 e3 h3) (by omega) (by omega) hl
    · exact fin H p l none none none (Ext.refl _ _) h1 h2 h6 (by omega) h8
end
end L3

namespace L3
open PySem L2
theorem atN_of {xs : List Nat} {i : Int} {j : Nat} {v : Nat} (hj : i = (j : Int)) (h : xs[j]? = some v) : atI xs i = some v := by
  subst hj
  have hl := (List.getElem?_eq_some_iff.mp h).1
  unfold atI ixN
  rw [if_pos (by omega)]
  first
    | rw [if_pos (by omega)]; simpa using h
    | simpa [hl] using h
theorem ix_orLS {X : Cx} : IxR X (fun x y H Q => rIxL X.K x y H Q ∨ rIxS x y H Q) := by
  intro value slice pins s σ H x y v u Q I rx ry h hs
  rcases h with h | h
  · exact ix_list value slice pins s σ H x y v u Q I rx ry h hs
  · exact ix_str value slice pins s σ H x y v u Q I rx ry h hs
section
variable {P : Program} {w : World} {K : PySem.W.Frag} {mg : Str → Option Value} {base : Heap}
theorem Fun.kn {x : Str} {st : Stmt} {f : Addr} {fd : FuncData} {k : Nat} {ps : List Str} {sp : Sp} (F : Fun K x x st f fd) (hm : mg x = some (.ref f)) (h : FnOk P w K mg base CX0 k f fd ps sp)
    (b : ∀ (kV doc pm : Value) (an : Option Addr) (cdv ct : Value) (us : List Value), us.length = ps.length → bindArgs (PySem.W.fnOf x x (defArgs st) (defBody st) (defScope st) .none kV doc pm an cdv ct) ⟨us, []⟩ = pure (ps.zip us)) : Kn P w K mg base k x ps sp :=
  ⟨f, fd, h, hm, F.kp, F.binds b⟩
abbrev s__law_pick : Stmt := topS 77
abbrev N__law_pick : List Str := ["_law_tape", "_law_items"]
theorem sc__law_pick : FnScope N__law_pick ["_law_tape", "_law_items"] (defScope s__law_pick) := ⟨rfl, rfl, rfl, by decide +kernel, rfl, by decide +kernel, by decide +kernel⟩
def spPick (K : PySem.W.Frag) : Sp := fun vs H Q _ => ∃ (t c l : Addr) (xs : List V) (b : Nat), vs = [.ref t, .ref l] ∧ SqL K H l xs ∧ 0 < xs.length ∧ xs.length < 1000000 ∧ Tape K H t c (b + 1) ∧
  ∀ (H' : Hp) (v : V), Ext t H H' → Tape K H' t c b → v ∈ xs → Q v H'
def spPick2 (K : PySem.W.Frag) : Sp := fun vs H Q E => spPick K vs H Q E ∨ ∃ (t c : Addr) (x : Str) (b : Nat), vs = [.ref t, .str x] ∧ 0 < x.length ∧ x.length < 1000 ∧ Tape K H t c (b + 1) ∧
  ∀ (H' : Hp) (z : Nat), Ext t H H' → Tape K H' t c b → z ∈ x.cps.toList → Q (.str ⟨#[z]⟩) H'
theorem ok_pick2 {f : Addr} {fd : FuncData} (F : Fun K "_law_pick" "_law_pick" s__law_pick f fd) (B : Bl mg) (D__law_draw : Kn P w K mg base 1 "_law_draw" ["_law_tape", "_law_many"] (spDraw K)) : FnOk P w K mg base CX0 2 f fd ["_law_tape", "_law_items"] (spPick2 K) := by
  refine F.ok sc__law_pick (fun vs H Q E h => ?_) (fun cdv A outer s H vs Q E hr h => ?_)
  · rcases h with ⟨t, c, l, xs, b, rfl, _⟩ | ⟨t, c, x, b, rfl, _⟩ <;> rfl
  · have hr__law_draw : Room 1 _ := hr
    refine ⟨_, (pss_one (ps_ret (pe_ix ix_orLS (pv 1) (pe_kn D__law_draw hr__law_draw (pa_cons (pv 0) (pa_cons (pe_callB call_len (by rfl) B.len PySem.boot_len (pa_cons (pv 1) pa_nil)) pa_nil))) (fun _ _ => rfl)))), ?_⟩
    rcases h with ⟨t, c, l, xs, b, rfl, h1, h2, h3, h4, k⟩ | ⟨t, c, x, b, rfl, h1, h2, h4, k⟩
    · refine ⟨_, rfl, _, rfl, _, rfl, _, _, rfl, .inl ⟨_, h1, rfl⟩, t, c, _, b, rfl, by omega, by omega, h4, fun H' r e1 e2 r1 r2 => ?_⟩
      have hj : r = (r.toNat : Int) := (Int.toNat_of_nonneg r1).symm
      have hlt : r.toNat < xs.length := by omega
      exact .inl ⟨l, xs, r, xs[r.toNat], rfl, rfl, SqL.extT h1 h4 e1, at_of hj (List.getElem?_eq_getElem hlt), k H' _ e1 e2 (List.getElem_mem hlt)⟩
    · refine ⟨_, rfl, _, rfl, _, rfl, _, _, rfl, ⟨by rw [sizeLine_eq]; omega, rfl⟩, t, c, _, b, rfl, by omega, by omega, h4, fun H' r e1 e2 r1 r2 => ?_⟩
      have hj : r = (r.toNat : Int) := (Int.toNat_of_nonneg r1).symm
      have hlt : r.toNat < x.cps.toList.length := by
        have : x.length = x.cps.toList.length := by simp [Str.length]
        omega
      exact .inr ⟨x, r, x.cps.toList[r.toNat], rfl, rfl, by rw [sizeLine_eq]; omega, atN_of hj (List.getElem?_eq_getElem hlt), k H' _ e1 e2 (List.getElem_mem hlt)⟩
end
end L3

namespace L3
open PySem L2
/-! ### variables in order -/
def addV (fs : List Str) (x : Str) : List Str := if x ∈ fs then fs else fs ++ [x]
def Kd.vs : Kd → List Str → List Str
  | .var x, fs => addV fs x
  | .con _, fs => fs
  | .app a b, fs => b.vs (a.vs fs)
def vsL : List Kd → List Str → List Str
  | [], fs => fs
  | k :: r, fs => vsL r (k.vs fs)
def Kd.size : Kd → Nat
  | .var _ => 1
  | .con _ => 1
  | .app a b => a.size + b.size + 1
def sizeL : List Kd → Nat
  | [] => 0
  | k :: r => k.size + sizeL r
theorem Kd.size_pos (k : Kd) : 0 < k.size := by cases k <;> simp [Kd.size]
theorem eqV_str (x y : Str) : eqV (.str y) (.str x) = decide (y = x) := str_beq y x
theorem inV_words (x : Str) : ∀ fs : List Str, inV (.str x) (fs.map V.str) = decide (x ∈ fs)
  | [] => rfl
  | y :: r => by
    have ih := inV_words x r
    unfold inV at ih ⊢
    rw [List.map_cons, List.any_cons, ih, eqV_str]
    by_cases h : y = x
    · subst h
      simp
    · have h2 : ¬ x = y := fun e => h e.symm
      simp [h, h2]
theorem flat_words : ∀ fs : List Str, (fs.map V.str).all flatV = true
  | [] => rfl
  | _ :: r => by
    rw [List.map_cons, List.all_cons, flat_words r]
    rfl
/-- the last of a row -/
theorem paired_last {α β : Type} {F : α → β → Prop} : ∀ {xs : List α} {ys : List β} {y : β}, Paired F xs (ys ++ [y]) → ∃ xs0 x, xs = xs0 ++ [x] ∧ Paired F xs0 ys ∧ F x y
  | [], [], _, h => nomatch h
  | [], _ :: _, _, h => nomatch h
  | x :: xs, [], y, .cons r t => by
    cases t
    exact ⟨[], x, rfl, .nil, r⟩
  | x :: xs, z :: ys, y, .cons r t => by
    obtain ⟨xs0, w, e, h1, h2⟩ := paired_last (ys := ys) t
    exact ⟨x :: xs0, w, by rw [e]; rfl, .cons r h1, h2⟩
theorem paired_snoc {α β : Type} {F : α → β → Prop} {xs : List α} {ys : List β} {x : α} {y : β} (h : Paired F xs ys) (r : F x y) : Paired F (xs ++ [x]) (ys ++ [y]) := Paired.snoc h r
theorem paired_rev {α β : Type} {F : α → β → Prop} : ∀ {xs : List α} {ys : List β}, Paired F xs ys → Paired F xs.reverse ys.reverse
  | _, _, .nil => .nil
  | _, _, .cons r t => by
    rw [List.reverse_cons, List.reverse_cons]
    exact Paired.snoc (paired_rev t) r
theorem kds_snoc : ∀ ks : List Kd, ks ≠ [] → ∃ ks0 k, ks = ks0 ++ [k] := fun ks h => ⟨ks.dropLast, ks.getLast h, (List.dropLast_concat_getLast h).symm⟩
theorem shaped_kds {ks : List Kd} (h : ∀ k ∈ ks, k.fit 60) : SeqAt.shaped (.list (ks.map Kd.dat)) = true := by
  have key : ∀ ks : List Kd, (∀ k ∈ ks, k.fit 60) → PyData.canLayAll0 (ks.map Kd.dat) = true ∧ PyData.depthAll (ks.map Kd.dat) ≤ 61 := by
    intro ks
    induction ks with
    | nil => intro _; exact ⟨by simp [PyData.canLayAll0], by simp [PyData.depthAll]⟩
    | cons k r ih =>
      intro h
      obtain ⟨h1, h2⟩ := ih fun y hy => h y (List.mem_cons_of_mem _ hy)
      obtain ⟨h3, h4⟩ := Kd.lay (h k List.mem_cons_self)
      refine ⟨by simp only [List.map_cons, PyData.canLayAll0, h3, h1, Bool.true_and], ?_⟩
      simp only [List.map_cons, PyData.depthAll]
      omega
  obtain ⟨h1, h2⟩ := key ks h
  unfold SeqAt.shaped
  simp only [PyData.canLay0, h1, PyData.depth, Bool.true_and]
  exact decide_eq_true (by omega)
theorem kds_ne {ks : List Kd} : (!PyData.eqv (.list (ks.map Kd.dat)) (.list [])) = !ks.isEmpty := by
  rw [eqv_ll]
  cases ks with
  | nil => rw [List.map_nil, eqv_nn]; rfl
  | cons x r => rw [List.map_cons, eqv_cn]; rfl
/-! ### matching -/
def Kd.mt : Kd → Kd → By → Bool × By
  | .var x, k, b => match lk b x with
    | some k' => (decide (k' = k), b)
    | none => (true, b ++ [(x, k)])
  | .con x, k, b => (decide (Kd.con x = k), b)
  | .app a c, .app d e, b => if (a.mt d b).1 = true then c.mt e (a.mt d b).2 else (false, (a.mt d b).2)
  | .app _ _, .var _, b => (false, b)
  | .app _ _, .con _, b => (false, b)
def mtL : List Kd → List Kd → By → Option By
  | p :: ps, k :: ks, b => if (p.mt k b).1 = true then mtL ps ks (p.mt k b).2 else none
  | _, _, b => some b
def mtP : List (Kd × Kd) → By → Option By
  | [], b => some b
  | (p, k) :: r, b => if (p.mt k b).1 = true then mtP r (p.mt k b).2 else none
theorem mtP_zip : ∀ (ps ks : List Kd) (b : By), mtP (ps.zip ks) b = mtL ps ks b
  | [], _, _ => rfl
  | _ :: _, [], _ => rfl
  | p :: ps, k :: ks, b => by
    show (if (p.mt k b).1 = true then mtP (ps.zip ks) (p.mt k b).2 else none) = if (p.mt k b).1 = true then mtL ps ks (p.mt k b).2 else none
    rw [mtP_zip ps ks]
theorem mtP_app (a c d e : Kd) (r : List (Kd × Kd)) (b : By) : mtP ((.app a c, .app d e) :: r) b = mtP ((a, d) :: (c, e) :: r) b := by
  show (if ((Kd.app a c).mt (.app d e) b).1 = true then mtP r ((Kd.app a c).mt (.app d e) b).2 else none) = if (a.mt d b).1 = true then (if (c.mt e (a.mt d b).2).1 = true then mtP r (c.mt e (a.mt d b).2).2 else none) else none
  by_cases h : (a.mt d b).1 = true
  · have q : (Kd.app a c).mt (.app d e) b = c.mt e (a.mt d b).2 := by simp only [Kd.mt, if_pos h]
    rw [if_pos h, q]
  · have q : (Kd.app a c).mt (.app d e) b = (false, (a.mt d b).2) := by simp only [Kd.mt, if_neg h]
    rw [if_neg h, q]
    rfl
theorem lk_snoc {b : By} {x : Str} {k : Kd} (h : lk b x = none) (y : Str) : lk (b ++ [(x, k)]) y = if y = x then some k else lk b y := by
  induction b with
  | nil =>
    by_cases e : x = y
    · rw [if_pos e.symm]
      exact lk_pos e
    · rw [if_neg (fun z => e z.symm)]
      exact lk_neg e
  | cons p r ih =>
    have hk : ¬ p.1 = x := fun z => by rw [lk_pos z] at h; cases h
    rw [lk_neg hk] at h
    rw [List.cons_append]
    by_cases e : p.1 = y
    · rw [lk_pos e, lk_pos e, if_neg (fun z => hk (e.trans z))]
    · rw [lk_neg e, lk_neg e, ih h]
theorem lk_mem {b : By} {x : Str} {k : Kd} (h : lk b x = some k) : (x, k) ∈ b := by
  induction b with
  | nil => cases h
  | cons p r ih =>
    by_cases e : p.1 = x
    · rw [lk_pos e] at h
      have : p = (x, k) := by
        obtain ⟨p1, p2⟩ := p
        have e' : p1 = x := e
        have h' : p2 = k := Option.some.inj h
        rw [e', h']
      rw [this]
      exact List.mem_cons_self
    · rw [lk_neg e] at h
      exact List.mem_cons_of_mem _ (ih h)
/-- what matching adds -/
theorem Kd.mt_grow {m : Nat} : ∀ (p k : Kd) (b : By), k.fit m → (∀ q ∈ b, q.2.fit m) → (p.mt k b).2.length ≤ b.length + p.size ∧ ∀ q ∈ (p.mt k b).2, q.2.fit m
  | .var x, k, b, hk, hb => by
    simp only [Kd.mt]
    cases e : lk b x with
    | some k' => exact ⟨Nat.le_add_right _ _, hb⟩
    | none =>
      refine ⟨by simp [Kd.size], fun q hq => ?_⟩
      rcases List.mem_append.mp hq with h | h
      · exact hb q h
      · rw [List.mem_singleton.mp h]
        exact hk
  | .con x, k, b, hk, hb => ⟨Nat.le_add_right _ _, hb⟩
  | .app a c, .app d e, b, hk, hb => by
    obtain ⟨j, rfl, h1, h2⟩ := Kd.fit_app hk
    have h1' := Kd.fit_mono (Nat.le_succ j) h1
    have h2' := Kd.fit_mono (Nat.le_succ j) h2
    obtain ⟨g1, g2⟩ := Kd.mt_grow a d b h1' hb
    obtain ⟨g3, g4⟩ := Kd.mt_grow c e (a.mt d b).2 h2' g2
    simp only [Kd.mt]
    by_cases h : (a.mt d b).1 = true
    · rw [if_pos h]
      refine ⟨?_, g4⟩
      simp only [Kd.size]
      omega
    · rw [if_neg h]
      refine ⟨?_, g2⟩
      simp only [Kd.size]
      omega
  | .app _ _, .var _, b, _, hb => ⟨Nat.le_add_right _ _, hb⟩
  | .app _ _, .con _, b, _, hb => ⟨Nat.le_add_right _ _, hb⟩
/-- the names, as the variables come -/
def names (b : By) : List Str := b.map (·.1)
theorem lk_names (b : By) (x : Str) : (lk b x).isSome = decide (x ∈ names b) := by
  induction b with
  | nil => rfl
  | cons p r ih =>
    by_cases e : p.1 = x
    · rw [lk_pos e]
      simp [names, e]
    · rw [lk_neg e, ih]
      have e' : ¬ x = p.1 := fun z => e z.symm
      have q : names (p :: r) = p.1 :: names r := rfl
      rw [q]
      simp [e']
theorem Kd.mt_names : ∀ (p k : Kd) (b : By), (p.mt k b).1 = true → names (p.mt k b).2 = p.vs (names b)
  | .var x, k, b, h => by
    have hn := lk_names b x
    simp only [Kd.mt, Kd.vs, addV] at h ⊢
    cases e : lk b x with
    | some k' =>
      rw [e] at hn
      have : x ∈ names b := of_decide_eq_true hn.symm
      simp only [this, if_true]
    | none =>
      rw [e] at hn
      have : ¬ x ∈ names b := of_decide_eq_false hn.symm
      rw [if_neg this]
      simp [names]
  | .con x, k, b, _ => rfl
  | .app a c, .app d e, b, h => by
    simp only [Kd.mt, Kd.vs] at h ⊢
    by_cases h1 : (a.mt d b).1 = true
    · rw [if_pos h1] at h ⊢
      rw [Kd.mt_names c e _ h, Kd.mt_names a d b h1]
    · rw [if_neg h1] at h
      cases h
  | .app _ _, .var _, b, h => by simp [Kd.mt] at h
  | .app _ _, .con _, b, h => by simp [Kd.mt] at h
theorem mtL_names : ∀ (ps ks : List Kd) (b c : By), ps.length = ks.length → mtL ps ks b = some c → names c = vsL ps (names b)
  | [], [], b, c, _, h => by cases h; rfl
  | [], _ :: _, _, _, h, _ => by cases h
  | _ :: _, [], _, _, h, _ => by cases h
  | p :: ps, k :: ks, b, c, hl, h => by
    simp only [mtL] at h
    by_cases h1 : (p.mt k b).1 = true
    · rw [if_pos h1] at h
      rw [mtL_names ps ks _ c (Nat.succ.inj hl) h, Kd.mt_names p k b h1]
      rfl
    · rw [if_neg h1] at h
      cases h
end L3

/-! repr of nested data; a law's own run, where nothing else is being shown -/
namespace L3
open PySem PySem.Spec PyProof.Rows L2
section
variable {X : Cx}
/-- repr of a list or tuple of nested data -/
def rRepr (K : PySem.W.Frag) : List V → Hp → VK → Prop := fun xs H Q => ∃ (a : Addr) (d : PyData), xs = [.ref a] ∧ Dp K H (.ref a) d ∧ d.showable = true ∧ d.hasDict = false ∧ d.depth ≤ 60 ∧ d.shown.length ≤ sizeLine ∧ Q (.str d.shown) H
theorem call_reprD (hg : X.A.guards = some []) (hu : X.A.units + 64 < cLine) : CallR X (.builtin "repr") (rRepr X.K) := by
  intro pins s σ H xs us Q I r h
  obtain ⟨a, d, rfl, hd, hs, hn, hdep, hsz, q⟩ := h
  obtain ⟨u, rfl, rx⟩ := vals1 r
  obtain rfl : u = Value.ref a := rx
  obtain ⟨as, hr⟩ := Dp.reads I d _ _ hd (show RelV (.ref a) (.ref a) from rfl)
  exact repr_of_reads' hr hs (fun z => by rw [hn] at z; cases z) hg (by omega) (fun _ _ e => e) (fun h' u tk hk => ⟨.str d.shown, H, I.kept (t' := tk) hk, ⟨u, rfl⟩, q⟩) hsz
end
/-- the law's own def, called by nobody -/
def LawRun (P : Program) (w : World) (K : PySem.W.Frag) (mg : Str → Option Value) (base : Heap) (f : Addr) (fd : FuncData) (x : Str) (sp : List V → Hp → VK → Prop) : Prop :=
  ∀ (s : Shared) (H : Hp) (args : Args) (u : Value) (v : V) (Q : VK), Env0 P w K mg base callerA [] s H → BindsTo s fd args [(x, u)] → RelV v u → sp [v] H Q → codeAny (model P w) callerA (.call (.ref f) args) (CR CX0 [] P w H s Q E0) s
section
variable {P : Program} {w : World} {K : PySem.W.Frag} {mg : Str → Option Value} {base : Heap}
theorem lawRun_of {st : Stmt} {f : Addr} {fd : FuncData} {N : List Str} {k : Nat} {x : Str} {sp : List V → Hp → VK → Prop} (F : Fun K "law" "law" st f fd) (S : FnScope N [x] (defScope st)) (hroom : Room (k + 1) callerA)
    (hbody : ∀ (cdv : Value) (s : Shared) (H : Hp) (v : V) (Q : VK), Room k (callerA.deeper (envOfC "law" (defScope st) s.heap.objs.size f cdv)) → sp [v] H Q →
      ∃ t, PSs (cxOf CX0 P w K mg base N "law" (defScope st) f cdv callerA [] s H E0).nox (defBody st) t ∧ t { nx := fun _ H' => Q .non H', rt := Q } (start N [v]) H) : LawRun P w K mg base f fd x sp := by
  obtain ⟨oc, od, kV, doc, pm, an, cdv, ct, osl, rfl, lk, hcd⟩ := F.ex
  intro s H args u v Q e0 hb rv hsp
  have inK : K.In s.heap := e0.mod.kin.keeps fun b o z => (e0.bs b o z).1
  have noL : s.heap.NoLimit := e0.mod.nolimit.keeps fun b o z => (e0.bs b o z).1
  have kinds : ∀ y ∈ ([x].zip [u] : List (Str × Value)), (defScope st).names.lookup y.1 = some .local ∨ ((defScope st).names.lookup y.1 = some .cell ∧ ((cellsFrom (s.heap.objs.size + 1) (defScope st).names []).lookup y.1).isSome = true) := by
    rintro ⟨n, z⟩ hy
    rcases S.par n (List.of_mem_zip hy).1 with q | q
    · exact Or.inl q
    · exact Or.inr ⟨q, PySem.W.cellsFrom_some _ _ _ (Or.inl q)⟩
  refine codeAny_call_function (Room.depth hroom) (inK _ _ lk) rfl S.co S.gen rfl (PySem.W.codeRec_of inK hcd) (hb _ _ _ _ ?_)
  refine wpAny_newFunctionEnv_cells S.kind kinds fun env he s1 xx => ?_
  subst he
  refine ⟨noL.keeps xx.toInCall.keep, codeAny_func ?_⟩
  obtain ⟨t, ht, hq⟩ := hbody cdv s H v Q (Room.deeper hroom _) hsp
  have J : Inv (cxOf CX0 P w K mg base N "law" (defScope st) f cdv callerA [] s H E0) [] (start N [v]) H s1 := inv_start S rfl e0 rfl (Paired.cons rv .nil) xx
  refine wpAny_mono ((PSs.nox ht).run [] s1 (start N [v]) H _ J hq) (fun fl s' hs => ?_) (fun e s' hs => hs)
  cases fl with
  | next =>
    obtain ⟨σ', H', J', q⟩ := hs
    exact ⟨V.non, H', J'.os, J'.bare, J'.base, J'.hok, rfl, q⟩
  | ret z =>
    obtain ⟨v', σ', H', J', rz, q⟩ := hs
    exact ⟨v', H', J'.os, J'.bare, J'.base, J'.hok, rz, q⟩
  | brk =>
    obtain ⟨_, _, _, q⟩ := hs
    exact q.elim
  | cont =>
    obtain ⟨_, _, _, q⟩ := hs
    exact q.elim
end
section
variable {P : Program} {w : World} {K : PySem.W.Frag} {mg mb : Str → Option Value} {fa a : Addr} {fd : FuncData} {x : Str} {sp : List V → Hp → VK → Prop} {s1 : Shared} {vs : List Value} {ns : List Int}
/-- what the law's call has to come to -/
abbrev LawEnd (s1 : Shared) (r : Result) (s' : Shared) : Prop := r = .ok (.ret (.bool true)) ∧ OldK s1.heap s'.heap ∧ s'.os = s1.os ∧ AllBare s'.gens
theorem law_core (inK : K.In s1.heap) (gl : s1.heap.Ns mainGlobals mg) (bi : s1.heap.Ns builtinsNs mb) (bb : ∀ y : Str, y ≠ "__name__" → mb y = bootBuiltins y) (nl : s1.heap.NoLimit) (ng : s1.gens = #[])
    (ob : s1.heap.get? a = some { cls := .type "list", data := .seq vs.toArray }) (run : ∀ base : Heap, K.In base → base.Ns mainGlobals mg → LawRun P w K mg base fa fd x sp)
    (bind : ∀ (s : Shared) (u : Value), BindsTo s fd ⟨[u], []⟩ [(x, u)]) (want : ∀ H : Hp, Only H → SqL K H a (ns.map V.int) → sp [.ref a] H (fun v _ => v = .bl true))
    (H : Hp) (hO : Only H) (hS : SqL K H a (ns.map V.int)) (ok : HOk P w H s1.heap) (alone : ∀ b, H b ≠ none → b = a) (off : H a ≠ none → K.lookup a = none) :
    codeAny (model P w) callerA (.call (.ref fa) ⟨[.ref a], []⟩) (LawEnd s1) s1 := by
  -- a thing that is tracked is the script
  have isA : ∀ {b : Addr} {u : HO}, H b = some u → b = a := fun {b u} q => alone b (by rw [q]; simp)
  have hid : ∀ {b : Addr} {o : Obj}, s1.heap.get? b = some o → H b = none → (hidT s1.heap H).get? b = some o := fun z n => hidT_get z n
  have dictFree : ∀ {b : Addr} {o : Obj} {es : Array DictEntry} {ep : Nat}, s1.heap.get? b = some o → o.data = .dict es ep → H b = none := by
    intro b o es ep z dd
    cases q : H b with
    | none => rfl
    | some u =>
      have e' := isA q
      subst e'
      rw [ob] at z
      cases z
      have dd' : Data.seq vs.toArray _ = Data.dict es ep := dd
      cases dd'
  have nsH : ∀ {b : Addr} {m : Str → Option Value}, s1.heap.Ns b m → (hidT s1.heap H).Ns b m := by
    rintro b m ⟨o, es, ep, z, dd, r⟩
    exact ⟨o, es, ep, hid z (dictFree z dd), dd, r⟩
  have inH : K.In (hidT s1.heap H) := by
    intro b o z
    refine hid (inK b o z) ?_
    cases q : H b with
    | none => rfl
    | some u =>
      have e' := isA q
      subst e'
      rw [off (by rw [q]; simp)] at z
      cases z
  have md : Mod K mg (hidT s1.heap H) := by
    obtain ⟨mc, z1, z2⟩ := nl
    exact ⟨inH, nsH gl, ⟨mb, nsH bi, bb⟩, ⟨mc, nsH z1, z2⟩⟩
  have e0 : Env0 P w K mg (hidT s1.heap H) callerA [] s1 H := by
    refine ⟨rfl, md, fun b o z => of_hidT z, Nat.le_of_eq (hidT_size _ _), trivial, ?_, ok, .of_eq ng⟩
    intro b hb
    exact nomatch (show b ∈ ([] : List Addr) from hb)
  refine codeAny_mono (run _ inH (nsH gl) s1 H ⟨[.ref a], []⟩ (.ref a) (.ref a) _ e0 (bind s1 (.ref a)) rfl (want H hO hS)) fun r s' h => ?_
  cases r with
  | error e => exact h.elim
  | ok fl =>
    cases fl with
    | next => exact h.elim
    | brk => exact h.elim
    | cont => exact h.elim
    | ret u =>
      obtain ⟨v, H', os, bare, un, ok', r', q⟩ := h
      obtain rfl : v = .bl true := q
      obtain rfl : u = Value.bool true := r'
      refine ⟨rfl, OldK.of_keep fun b o z => ?_, os, bare⟩
      cases q : H b with
      | none => exact un.keep b o z q (fun y => nomatch (show b ∈ ([] : List Addr) from y)) (fun y => nomatch y)
      | some u =>
        rcases hO b with y | ⟨o2, xs, y⟩
        · rw [q] at y
          cases y
        · obtain ⟨z1, _⟩ := ok b _ y
          obtain ⟨z2, _⟩ := ok' b _ (un.frzs b o2 _ y)
          rw [z] at z1
          cases z1
          exact z2
theorem law_callG (inK : K.In s1.heap) (gl : s1.heap.Ns mainGlobals mg) (bi : s1.heap.Ns builtinsNs mb) (bb : ∀ y : Str, y ≠ "__name__" → mb y = bootBuiltins y) (nl : s1.heap.NoLimit) (ng : s1.gens = #[])
    (ob : s1.heap.get? a = some { cls := .type "list", data := .seq vs.toArray }) (hi : IntsAre vs ns) (hl : ns.length ≤ sizeLine) (run : ∀ base : Heap, K.In base → base.Ns mainGlobals mg → LawRun P w K mg base fa fd x sp)
    (bind : ∀ (s : Shared) (u : Value), BindsTo s fd ⟨[u], []⟩ [(x, u)]) (want : ∀ H : Hp, Only H → SqL K H a (ns.map V.int) → sp [.ref a] H (fun v _ => v = .bl true)) :
    codeAny (model P w) callerA (.call (.ref fa) ⟨[.ref a], []⟩) (LawEnd s1) s1 := by
  have rv := vals_ints hi
  cases hk : K.lookup a with
  | some o =>
    have z := inK a o hk
    rw [ob] at z
    cases z
    have hS : SqL K (fun _ => none) a (ns.map V.int) := Or.inr ⟨_, vs.toArray, _, hk, rfl, rfl, rfl, by rw [List.size_toArray, hi.length]; exact hl, by simpa using rv⟩
    exact law_core inK gl bi bb nl ng ob run bind want (fun _ => none) (fun _ => .inl rfl) hS (fun _ _ z => nomatch (show (none : Option HO) = some _ from z)) (fun _ z => (z rfl).elim) (fun z => (z rfl).elim)
  | none =>
    let fz : HO := .frz { cls := .type "list", data := .seq vs.toArray } (.lst (ns.map V.int))
    have at1 : upd (fun _ => none) a fz a = some fz := upd_same
    refine law_core inK gl bi bb nl ng ob run bind want (upd (fun _ => none) a fz) (fun b => ?_) (.inl (.inr ⟨_, at1⟩)) (fun b u z => ?_) (fun b z => ?_) fun _ => hk
    · by_cases hb : b = a
      · rw [hb, at1]
        exact .inr ⟨_, _, rfl⟩
      · exact .inl (upd_ne hb)
    · by_cases hb : b = a
      · subst hb
        rw [at1] at z
        cases z
        exact ⟨ob, by rw [List.length_map]; exact hl, vs, _, rv, ob⟩
      · rw [upd_ne hb] at z
        cases z
    · by_cases hb : b = a
      · exact hb
      · exact (z (upd_ne hb)).elim
end
/-- the end of a law whose own def is run by LawRun -/
theorem walkG {l : PySem.W.OpenLaw} {n : Nat} {q : Program} {loose : List Str} {XP : (Str → Option Value) → Heap → Prop} {YP : World → Heap → Prop} {d : DefRec} {K : Params → PySem.W.Frag} {sp : PySem.W.Frag → List V → Hp → VK → Prop} {x : Str}
    (hn : l.most = some n) (hn2 : n ≤ sizeLine) (hdf : d.params.defaults = []) (hY : ∀ (w : World) (h : Heap), YP w h → (K w.params).In h)
    (F : ∀ (w : World) (mg : Str → Option Value) (fa : Addr) (h : Heap), (K w.params).In h → h.Ns mainGlobals mg → mg d.name = some (.ref fa) →
      ∃ fd : FuncData, (∀ (s : Shared) (u : Value), BindsTo s fd ⟨[u], []⟩ [(x, u)]) ∧ ∀ base : Heap, (K w.params).In base → base.Ns mainGlobals mg → LawRun l.prog w (K w.params) mg base fa fd x (sp (K w.params)))
    (want : ∀ (K : PySem.W.Frag) (H : Hp) (a : Addr) (ns : List Int), ns.length ≤ n → SqL K H a (ns.map V.int) → sp K [.ref a] H (fun v _ => v = .bl true)) : PySem.W.WalkO q loose XP YP l.row.toRowW d [] (fun f vs => PySem.call f vs) := by
  refine Att.attach_call hn hdf ?_
  intro w s0 s1 mg mb fa o pm cd doc a vs ns G Y ho hd hcd hmg hobj hints hlen hg
  obtain ⟨fd, hb, run⟩ := F w mg fa _ (hY w _ Y) G.T.g hmg
  exact law_callG (hY w _ Y) G.T.g G.T.b G.T.builtins G.T.nolimit hg hobj hints (Nat.le_trans hlen hn2) run hb (fun H _ hS => want _ H a ns hlen hS)
end L3

/-! list(zip(a, b)) over two lists or two tuples of one length -/
namespace L3
open PySem PySem.Spec PyProof.Rows L2
section
variable {prog : Program} {w : World} {A : Around} {E : Value → Shared → Prop} {s : Shared} {z TI TO T i1 i2 l1 l2 : Addr} {f : Bool} {oT : Obj} {xs ys : Array Value}
/-- a zip of tuples whose last pair is still out gives the next pair -/
theorem zt_item {k1 k2 : Nat} {x y : Value} {Q : Option Value → Shared → Prop} (D : ZipApart z TI TO i1 i2 l1 l2) (hz : IsZipHeld s.heap z TI TO T f) (hT : s.heap.get? T = some oT) (hTI : IsPair s.heap TI (.ref i1) (.ref i2))
    (a1 : s.heap.IsTupleIter i1 l1 k1) (a2 : s.heap.IsTupleIter i2 l2 k2) (t1 : s.heap.IsTuple l1 xs) (t2 : s.heap.IsTuple l2 ys) (ex : xs[k1]? = some x) (ey : ys[k2]? = some y)
    (q : ∀ h', IsZipHeld h' z TI TO T true → h'.IsTupleIter i1 l1 (k1 + 1) → h'.IsTupleIter i2 l2 (k2 + 1) → IsPair h' s.heap.objs.size x y → h'.objs.size = s.heap.objs.size + 1 →
      (∀ b o, b ≠ z → b ≠ i1 → b ≠ i2 → s.heap.get? b = some o → h'.get? b = some o) → Q (some (.ref s.heap.objs.size)) { s with heap := h' }) : wpAny (model prog w) A (pyNext (.ref z)) Q E s := by
  have isZip : s.TypeIs (.ref z) "zip" := ⟨_, hz, rfl⟩
  have body : ∀ (A' : Around) (E' : Value → Shared → Prop), wpAny (model prog w) A' (Builtin.«zip.__next__» ⟨[.ref z], []⟩) (fun fin s' => ∃ v, fin = .done (.ret v) ∧ Q (some v) s') E' s := by
    intro A' E'
    show wpAny _ _ (field (.ref z) 2 >>= _) _ _ s
    refine wpAny_bind (wpAny_field (i := 2) hz rfl rfl ?_)
    show wpAny _ _ (field (.ref z) 3 >>= _) _ _ s
    refine wpAny_bind (wpAny_field (i := 3) hz rfl rfl (wpAny_bind (wpAny_seqItems hTI rfl ?_)))
    refine wpAny_bind (wpAny_tupleHeld_zip hz hT fun ha hza hsa => ?_)
    rw [if_neg Bool.false_ne_true]
    refine wpAny_bind ?_
    rw [← Array.forIn_toList]
    simp only [List.forIn_nil, List.forIn_cons]
    refine wpAny_bind (wpAny_bind (wpAny_holding (wpAny_bind (RZ.nextOf_tuple_item (a1.extBut hsa.extBut D.i1z) (t1.extBut hsa.extBut D.l1z) ex fun hb b1 hsb => wpAny_pure (wpAny_pure ?_)))))
    refine wpAny_bind (wpAny_bind (wpAny_holding (wpAny_bind (RZ.nextOf_tuple_item ((a2.extBut hsa.extBut D.i2z).extBut hsb.extBut D.i12.symm) ((t2.extBut hsa.extBut D.l2z).extBut hsb.extBut D.l2i1) ey fun hc c2 hsc => wpAny_pure (wpAny_pure ?_)))))
    refine wpAny_pure ?_
    show wpAny _ _ (newTuple [x, y] >>= _) _ _ _
    refine wpAny_bind (wpAny_newTuple ?_)
    have size3 : hc.objs.size = s.heap.objs.size := (hsc.1.trans hsb.1).trans hsa.1
    have stays : ∀ b o, b ≠ z → b ≠ i1 → b ≠ i2 → s.heap.get? b = some o → hc.get? b = some o := fun b o n1 n2 n3 e => hsc.extBut b o n3 (hsb.extBut b o n2 (hsa.extBut b o n1 e))
    have pz : IsZipHeld hc z TI TO T true := hsc.extBut z _ D.i2z.symm (hsb.extBut z _ D.i1z.symm hza)
    refine wpAny_pure ⟨_, rfl, ?_⟩
    have fresh : IsPair (hc.push { cls := .type "tuple", data := .seq #[x, y] }) hc.objs.size x y := Heap.get?_push_size _ rfl
    have one : (hc.push { cls := .type "tuple", data := .seq #[x, y] }).objs.size = hc.objs.size + 1 := Heap.size_push ..
    show Q (some (.ref hc.objs.size)) _
    rw [size3] at fresh one ⊢
    exact q _ (Heap.get?_push_of_some _ pz) ((b1.extBut hsc.extBut D.i12).at fun o e => Heap.get?_push_of_some _ e) (c2.at fun o e => Heap.get?_push_of_some _ e) fresh one fun b o n1 n2 n3 e => Heap.get?_push_of_some _ (stays b o n1 n2 n3 e)
  unfold pyNext
  refine wpAny_bind (wpAny_attempt (wpAny_callSpecial?_slot (name := Str.ofString "__next__") isZip F.slot_zip_next (wpAny_call_entry F.slot_zip_next isZip F.entry_zip_next ?_ (F.args_zip_next_1 _))))
  exact wpAny_mono (body _ _) (fun fin s' ⟨v, e, h⟩ => ⟨v, e, wpAny_pure h⟩) fun _ _ h => h
theorem zt_end {k1 : Nat} {Q : Option Value → Shared → Prop} (hh : A.handled = none) (D : ZipApart z TI TO i1 i2 l1 l2) (hz : IsZipHeld s.heap z TI TO T f) (hT : s.heap.get? T = some oT) (hTI : IsPair s.heap TI (.ref i1) (.ref i2))
    (a1 : s.heap.IsTupleIter i1 l1 k1) (t1 : s.heap.IsTuple l1 xs) (ex : xs[k1]? = none)
    (q : ∀ h', (∀ b o, b ≠ z → b ≠ i1 → b ≠ i2 → s.heap.get? b = some o → h'.get? b = some o) → Q none { s with heap := h' }) : wpAny (model prog w) A (pyNext (.ref z)) Q E s := by
  have isZip : s.TypeIs (.ref z) "zip" := ⟨_, hz, rfl⟩
  unfold pyNext
  refine wpAny_bind (wpAny_attempt (wpAny_callSpecial?_slot (name := Str.ofString "__next__") isZip F.slot_zip_next (wpAny_call_entry F.slot_zip_next isZip F.entry_zip_next ?_ (F.args_zip_next_1 _))))
  show wpAny _ _ (field (.ref z) 2 >>= _) _ _ s
  refine wpAny_bind (wpAny_field (i := 2) hz rfl rfl ?_)
  show wpAny _ _ (field (.ref z) 3 >>= _) _ _ s
  refine wpAny_bind (wpAny_field (i := 3) hz rfl rfl (wpAny_bind (wpAny_seqItems hTI rfl ?_)))
  refine wpAny_bind (wpAny_tupleHeld_zip hz hT fun ha hza hsa => ?_)
  rw [if_neg Bool.false_ne_true]
  refine wpAny_bind ?_
  rw [← Array.forIn_toList]
  simp only [List.forIn_nil, List.forIn_cons]
  refine wpAny_bind (wpAny_bind (wpAny_holding (wpAny_bind (RZ.nextOf_tuple_end (s := { s with heap := ha }) hh (a1.extBut hsa.extBut D.i1z) (t1.extBut hsa.extBut D.l1z) ex fun hb e hsb he => ?_))))
  obtain ⟨o, ho, hc⟩ := he
  refine wpAny_bind (wpAny_isInstance (T := "StopIteration") (b := true) ⟨o, ho, hc⟩ isSubtype_stop ?_)
  exact wpAny_pure (q hb fun b o n1 n2 _ e => hsb b o n2 (hsa.extBut b o n1 e))
end
/-! ### a zip as a source of pairs for a list S that is being made -/
structure PSrc (prog : Program) (w : World) (z : Addr) (wr : List Addr) (n : Nat) (pr : Nat → Value × Value) (St : Nat → Addr → Heap → Prop) : Prop where
  type : ∀ i S (s : Shared), St i S s.heap → s.TypeIs (.ref z) "zip"
  self : ∀ (A : Around) (E : Value → Shared → Prop) i S (s : Shared) (Q : Value → Shared → Prop), St i S s.heap → Q (.ref z) s → wpAny (model prog w) A (pyIter (.ref z)) Q E s
  keep : ∀ i S h h', St i S h → (∀ b o, b ≠ S → h.get? b = some o → h'.get? b = some o) → St i S h'
  item : ∀ (A : Around) (E : Value → Shared → Prop) i S (s : Shared) (Q : Option Value → Shared → Prop), i < n → S < s.heap.objs.size → St i S s.heap →
    (∀ h', St (i + 1) S h' → h'.get? s.heap.objs.size = some { cls := .type "tuple", data := .seq #[(pr i).1, (pr i).2] } → h'.objs.size = s.heap.objs.size + 1 → (∀ b o, b ∉ wr → s.heap.get? b = some o → h'.get? b = some o) → Q (some (.ref s.heap.objs.size)) { s with heap := h' }) →
    wpAny (model prog w) A (pyNext (.ref z)) Q E s
  done : ∀ (A : Around) (E : Value → Shared → Prop) S (s : Shared) (Q : Option Value → Shared → Prop), A.handled = none → St n S s.heap → (∀ h', (∀ b o, b ∉ wr → s.heap.get? b = some o → h'.get? b = some o) → Q none { s with heap := h' }) →
    wpAny (model prog w) A (pyNext (.ref z)) Q E s
/-- the pairs that are out -/
structure Outs (pr : Nat → Value × Value) (lo : Addr) (h : Heap) (as : List Addr) : Prop where
  rise : as.Pairwise (· < ·)
  above : ∀ a ∈ as, lo ≤ a
  pairs : ∀ (j : Nat) (a : Addr), as[j]? = some a → h.get? a = some { cls := .type "tuple", data := .seq #[(pr j).1, (pr j).2] }
section
variable {prog : Program} {w : World} {A : Around} {E : Value → Shared → Prop} {s : Shared} {R : Result → Shared → Prop} {z : Addr} {wr : List Addr} {n : Nat} {pr : Nat → Value × Value} {St : Nat → Addr → Heap → Prop}
theorem Outs.lt {lo : Addr} {h : Heap} {as : List Addr} (g : Outs pr lo h as) {a : Addr} (ha : a ∈ as) : a < h.objs.size := by
  obtain ⟨j, hj⟩ := List.mem_iff_getElem?.mp ha
  exact Heap.lt_size (g.pairs j a hj)
theorem zip_loop (W : PSrc prog w z wr n pr St) {S lo : Addr} (hh : A.handled = none) (wlo : ∀ b ∈ wr, b < lo) (Slo : S < lo) (Sw : S ∉ wr) (hn : n ≤ sizeLine) (res : Value) {h0 : Heap}
    (fin : ∀ h' tk acc c as, (∀ b o, b ≠ S → b ∉ wr → h0.get? b = some o → h'.get? b = some o) → h'.get? S = some { cls := .type "list", dict := none, data := .seq acc c, slots := #[] } → as.length = n → Outs pr lo h' as → acc.toList = as.map Value.ref →
      R (.ok (.ret res)) { s with heap := h', toks := tk }) :
    ∀ (m i : Nat) (h : Heap) (tk c : Nat) (acc : Array Value) (as : List Addr), n - i = m → i ≤ n → St i S h → (∀ b o, b ≠ S → b ∉ wr → h0.get? b = some o → h.get? b = some o) → h.get? S = some { cls := .type "list", dict := none, data := .seq acc c, slots := #[] } →
      acc.toList = as.map Value.ref → as.length = i → Outs pr lo h as → lo ≤ h.objs.size → codeAny (model prog w) A (.builtin "list.extend.loop" ⟨[.ref S, .ref z, res], []⟩) R { s with heap := h, toks := tk } := by
  intro m
  induction m with
  | zero =>
    intro i h tk c acc as e1 e2 st kp hS ha hl g hlo
    have ein : i = n := by omega
    subst ein
    refine codeAny_builtin PySem.F.entry_extend_loop ?_
    rw [Around.under_plainId PySem.F.plain_extend_loop _]
    show wpAny _ A.in1 (pyNext (.ref z) >>= _) _ _ _
    refine wpAny_bind (W.done A.in1 _ S { s with heap := h, toks := tk } _ hh st fun h' k => wpAny_pure ?_)
    exact fin h' tk acc c as (fun b o n1 n2 e => k b o n2 (kp b o n1 n2 e)) (k S _ Sw hS) hl ⟨g.rise, g.above, fun j a hj => k a _ (fun q => absurd (wlo a q) (Nat.not_lt.mpr (g.above a (List.mem_of_getElem? hj)))) (g.pairs j a hj)⟩ ha
  | succ m ih =>
    intro i h tk c acc as e1 e2 st kp hS ha hl g hlo
    have lt : i < n := by omega
    have sz : acc.size = i := by rw [← Array.length_toList, ha, List.length_map, hl]
    refine codeAny_builtin PySem.F.entry_extend_loop ?_
    rw [Around.under_plainId PySem.F.plain_extend_loop _]
    show wpAny _ A.in1 (pyNext (.ref z) >>= _) _ _ _
    have Slt : S < h.objs.size := Heap.lt_size hS
    refine wpAny_bind (W.item A.in1 _ i S { s with heap := h, toks := tk } _ lt Slt st fun h' st' tup one k => ?_)
    have hS' : h'.get? S = some { cls := .type "list", dict := none, data := .seq acc c, slots := #[] } := k S _ Sw hS
    have tup' : h'.get? h.objs.size = some { cls := .type "tuple", data := .seq #[(pr i).1, (pr i).2] } := tup
    have one' : h'.objs.size = h.objs.size + 1 := one
    have nS : h.objs.size ≠ S := Nat.ne_of_gt Slt
    have off : ∀ b o, b ≠ S → h'.get? b = some o → (h'.update S (Obj.mapSeq (·.push (Value.ref h.objs.size)))).get? b = some o := fun b o nb e => (Heap.get?_update_other _ _ (Ne.symm nb)).trans e
    show wpAny _ A.in1 (updateSeq S (·.push (Value.ref h.objs.size)) >>= _) _ _ _
    refine wpAny_bind ?_
    refine wpAny_updateSeq hS' rfl (wpAny_pure ⟨plainId_quiet PySem.F.plain_extend_loop _, ?_⟩) (by rw [sz]; omega) (by show (acc.push (Value.ref h.objs.size)).size ≤ sizeLine + 1; rw [Array.size_push, sz]; omega)
    refine ih (i + 1) _ tk _ (acc.push (Value.ref h.objs.size)) (as ++ [h.objs.size]) (by omega) lt (W.keep _ _ _ _ st' off) (fun b o n1 n2 e => off b o n1 (k b o n2 (kp b o n1 n2 e))) (Heap.get?_update_self _ hS' rfl)
      (by rw [Array.toList_push, ha, List.map_append]; rfl) (by rw [List.length_append, hl]; rfl) ⟨?_, ?_, ?_⟩ ?_
    · refine List.pairwise_append.mpr ⟨g.rise, List.pairwise_singleton _ _, ?_⟩
      intro a q b q'
      obtain rfl := List.mem_singleton.mp q'
      exact g.lt q
    · intro a q
      rcases List.mem_append.mp q with q | q
      · exact g.above a q
      · obtain rfl := List.mem_singleton.mp q
        exact hlo
    · intro j b hj
      by_cases jl : j < as.length
      · rw [List.getElem?_append_left jl] at hj
        have ab := g.above b (List.mem_of_getElem? hj)
        exact off b _ (Nat.ne_of_gt (Nat.lt_of_lt_of_le Slo ab)) (k b _ (fun q => absurd (wlo b q) (Nat.not_lt.mpr ab)) (g.pairs j b hj))
      · rw [List.getElem?_append_right (by omega)] at hj
        have j0 : j - as.length = 0 := by
          cases q : j - as.length with
          | zero => rfl
          | succ r => rw [q] at hj; simp at hj
        have ej : j = i := by omega
        rw [j0] at hj
        obtain rfl : h.objs.size = b := Option.some.inj hj
        rw [ej]
        exact off _ _ nS tup'
    · have e : (h'.update S (Obj.mapSeq (·.push (Value.ref h.objs.size)))).get? h.objs.size = _ := off _ _ nS tup'
      exact Nat.le_trans hlo (Nat.le_of_lt (Heap.lt_size e))
theorem nolen_zip : typeLookup (.type "zip") "__len__" = pure none := by rw [typeLookup_type, builtinLookup_eq_fast]; kernel_rfl
theorem nohint_zip : typeLookup (.type "zip") "__length_hint__" = pure none := by rw [typeLookup_type, builtinLookup_eq_fast]; kernel_rfl
/-- the list's end behind the call -/
def ListOut (n : Nat) (pr : Nat → Value × Value) (wr : List Addr) (lo : Addr) (s : Shared) (Q : Value → Shared → Prop) : Prop :=
  ∀ h' tk acc c as, (∀ b o, b ∉ wr → s.heap.get? b = some o → h'.get? b = some o) → h'.get? s.heap.objs.size = some { cls := .type "list", dict := none, data := .seq acc c, slots := #[] } → as.length = n → Outs pr lo h' as → acc.toList = as.map Value.ref →
    Q (.ref s.heap.objs.size) { s with heap := h', toks := tk }
theorem call_list_zip {Q : Value → Shared → Prop} (W : PSrc prog w z wr n pr St) (hh : A.handled = none) (st : ∀ h', (∀ b o, s.heap.get? b = some o → h'.get? b = some o) → St 0 s.heap.objs.size h') (wlt : ∀ b ∈ wr, b < s.heap.objs.size) (zlt : z < s.heap.objs.size) (hn : n ≤ sizeLine)
    (q : ListOut n pr wr (s.heap.objs.size + 1) s Q) : wpAny (model prog w) A (call (.type "list") [.ref z]) Q E s := by
  refine callType_codes (Q₁ := fun obj s' => obj = .ref s.heap.objs.size ∧ s' = { s with heap := s.heap.push { cls := .type "list", data := .seq #[] } }) PySem.F.called_list (PySem.F.typeCall_list_1 _) PySem.F.entry_list_init (code_list_new _ ⟨rfl, rfl⟩) ?_
  rintro obj s' ⟨rfl, rfl⟩
  have at0 : (s.heap.push { cls := .type "list", data := .seq #[] }).get? s.heap.objs.size = some { cls := .type "list", data := .seq #[] } := Heap.get?_push_size _ rfl
  refine ⟨⟨_, at0, rfl⟩, PySem.F.args_list_init_2 _ _, ?_⟩
  show wpAny _ A.in1.in1 (do let old ← Builtin.List.listItems (.ref s.heap.objs.size); Builtin.List.listUpdate (.ref s.heap.objs.size) (fun _ => #[]); letGo old.toList.reverse; Builtin.List.listExtendWith (.ref s.heap.objs.size) (.ref z) .none) _ _ _
  refine wpAny_bind ?_
  unfold Builtin.List.listItems
  refine wpAny_bind (wpAny_seqItems at0 rfl (wpAny_pure ?_))
  show wpAny _ A.in1.in1 (updateSeq s.heap.objs.size (fun _ => #[]) >>= fun _ => letGo (#[] : Array Value).toList.reverse >>= fun _ => Builtin.List.listExtendWith (.ref s.heap.objs.size) (.ref z) .none) _ _ _
  refine wpAny_bind (wpAny_updateSeq at0 rfl (wpAny_bind (wpAny_letGo ?_)))
  have at1 := Heap.get?_update_self (Obj.mapSeq (fun _ => (#[] : Array Value))) at0 rfl
  have k1 : ∀ b o, s.heap.get? b = some o → ((s.heap.push { cls := .type "list", data := .seq #[] }).update s.heap.objs.size (Obj.mapSeq (fun _ => (#[] : Array Value)))).get? b = some o :=
    fun b o e => (Heap.get?_update_other _ _ (Nat.ne_of_gt (Heap.lt_size e))).trans (Heap.get?_push_of_some _ e)
  have st1 := st _ k1
  have zz : (Value.type "zip" == Value.type "list") = false := by decide
  have zt : (Value.type "zip" == Value.type "tuple") = false := by decide
  have nsame : Builtin.List.listSameRef (.ref s.heap.objs.size) (.ref z) = false := by simp [Builtin.List.listSameRef, Nat.ne_of_gt zlt]
  unfold Builtin.List.listExtendWith
  refine wpAny_bind (wpAny_typeOf (W.type 0 _ { s with heap := (s.heap.push { cls := .type "list", data := .seq #[] }).update s.heap.objs.size (Obj.mapSeq (fun _ => (#[] : Array Value))) } st1) ?_)
  simp only [nsame, zz, zt, Bool.or_false, Bool.false_eq_true, if_false]
  refine wpAny_bind (W.self _ _ 0 _ _ _ st1 (wpAny_bind (wpAny_holding ?_)))
  have isz := W.type 0 _ { s with heap := (s.heap.push { cls := .type "list", data := .seq #[] }).update s.heap.objs.size (Obj.mapSeq (fun _ => (#[] : Array Value))) } st1
  unfold Builtin.List.listLengthHint
  refine wpAny_bind (wpAny_specialOf isz nolen_zip ?_)
  show wpAny _ A.in1.in1 (specialOf (Value.ref z) (Str.ofString "__length_hint__") >>= _) _ _ _
  refine wpAny_bind (wpAny_specialOf isz nohint_zip (wpAny_pure ?_))
  show wpAny _ A.in1.in1 (rule "list.extend.makes-room" >>= fun _ => Builtin.List.listTouch (.ref s.heap.objs.size) >>= fun _ => again (.builtin "list.extend.loop" ⟨[.ref s.heap.objs.size, .ref z, .none], []⟩)) _ _ _
  refine wpAny_bind (wpAny_rule (wpAny_bind ?_))
  show wpAny _ A.in1.in1 (updateSeq s.heap.objs.size (·.push .none) >>= fun _ => updateSeq s.heap.objs.size (·.pop)) _ _ _
  refine wpAny_bind (wpAny_updateSeq at1 rfl ?_)
  have at2 := Heap.get?_update_self (Obj.mapSeq (·.push Value.none)) at1 rfl
  refine wpAny_updateSeq (hz := by seq_fits) at2 rfl ?_
  have at3 := Heap.get?_update_self (Obj.mapSeq (·.pop)) at2 rfl
  have k3 : ∀ b o, s.heap.get? b = some o → ((((s.heap.push { cls := .type "list", data := .seq #[] }).update s.heap.objs.size (Obj.mapSeq (fun _ => (#[] : Array Value)))).update s.heap.objs.size (Obj.mapSeq (·.push Value.none))).update s.heap.objs.size (Obj.mapSeq (·.pop))).get? b = some o := by
    intro b o e
    have nb := Nat.ne_of_gt (Heap.lt_size e)
    exact (Heap.get?_update_other _ _ nb).trans ((Heap.get?_update_other _ _ nb).trans (k1 b o e))
  have big : s.heap.objs.size + 1 ≤ ((((s.heap.push { cls := .type "list", data := .seq #[] }).update s.heap.objs.size (Obj.mapSeq (fun _ => (#[] : Array Value)))).update s.heap.objs.size (Obj.mapSeq (·.push Value.none))).update s.heap.objs.size (Obj.mapSeq (·.pop))).objs.size := Heap.lt_size at3
  refine wpAny_pure ⟨plainId_quiet F.plain_extend_loop _, ?_⟩
  refine zip_loop (s := s) (A := A.in1) W (S := s.heap.objs.size) (lo := s.heap.objs.size + 1) (h0 := s.heap) hh (fun b q => Nat.lt_succ_of_lt (wlt b q)) (Nat.lt_succ_self _) (fun q => absurd (wlt _ q) (Nat.lt_irrefl _)) hn .none ?_ n 0 _ s.toks _ #[] [] rfl (Nat.zero_le _) (st _ k3) (fun b o _ _ e => k3 b o e) at3 rfl rfl ⟨List.Pairwise.nil, fun _ q => (nomatch q), fun j a q => by simp at q⟩ big
  intro h' tk acc c as kp hS hl g ha
  exact ⟨rfl, q h' tk acc c as (fun b o n2 e => kp b o (Nat.ne_of_lt (Heap.lt_size e)) n2 e) hS hl g ha⟩
end

theorem psrc_lists {prog : Program} {w : World} {z TI TO i1 i2 l1 l2 : Addr} (D : ZipApart z TI TO i1 i2 l1 l2) (xs ys : Array Value) (hn : xs.size = ys.size) : PSrc prog w z [z, TO, i1, i2] xs.size (fun i => (xs.getD i .none, ys.getD i .none))
    (fun i S h => IsPair h TI (.ref i1) (.ref i2) ∧ h.IsListIter i1 l1 i ∧ h.IsListIter i2 l2 i ∧ h.IsList l1 xs ∧ h.IsList l2 ys ∧ (S ≠ z ∧ S ≠ TI ∧ S ≠ TO ∧ S ≠ i1 ∧ S ≠ i2 ∧ S ≠ l1 ∧ S ≠ l2) ∧
      ((IsZip h z TI TO .none ∧ ∃ a b, IsPair h TO a b) ∨ ∃ T f oT, IsZipHeld h z TI TO T f ∧ h.get? T = some oT ∧ T ≠ z ∧ T ≠ i1 ∧ T ≠ i2 ∧ T ≠ S)) where
  type := by
    rintro i S s ⟨_, _, _, _, _, _, ⟨hz, _⟩ | ⟨T, f, oT, hz, _⟩⟩
    · exact ⟨_, hz, rfl⟩
    · exact ⟨_, hz, rfl⟩
  self := by
    rintro A E i S s Q ⟨_, _, _, _, _, _, ⟨hz, _⟩ | ⟨T, f, oT, hz, _⟩⟩ q
    · exact wpAny_pyIter_zip hz q
    · have isz : s.TypeIs (.ref z) "zip" := ⟨_, hz, rfl⟩
      exact wpAny_pyIter_slot isz F.slot_zip_iter (wpAny_call_entry F.slot_zip_iter isz F.entry_zip_iter (wpAny_pure ⟨_, rfl, "zip", _, isz, F.slot_zip_next.lookup, q⟩) (F.args_zip_iter_1 _))
  keep := by
    rintro i S h h' ⟨p, a1, a2, t1, t2, ⟨n1, n2, n3, n4, n5, n6, n7⟩, hz⟩ k
    refine ⟨k _ _ n2.symm p, a1.at fun o e => k _ o n4.symm e, a2.at fun o e => k _ o n5.symm e, t1.at fun o e => k _ o n6.symm e, t2.at fun o e => k _ o n7.symm e, ⟨n1, n2, n3, n4, n5, n6, n7⟩, ?_⟩
    rcases hz with ⟨hz, a, b, ho⟩ | ⟨T, f, oT, hz, hT, r1, r2, r3, r4⟩
    · exact .inl ⟨k _ _ n1.symm hz, a, b, k _ _ n3.symm ho⟩
    · exact .inr ⟨T, f, oT, k _ _ n1.symm hz, k _ _ r4 hT, r1, r2, r3, r4⟩
  item := by
    rintro A E i S s Q lt Slt ⟨p, a1, a2, t1, t2, ns, hz⟩ q
    have ex : xs[i]? = some (xs.getD i .none) := by simp [Array.getD, lt]
    have ey : ys[i]? = some (ys.getD i .none) := by
      have : i < ys.size := by omega
      simp [Array.getD, this]
    have new : ∀ {b o}, s.heap.get? b = some o → s.heap.objs.size ≠ b := fun e => Nat.ne_of_gt (Heap.lt_size e)
    have ni1 : s.heap.objs.size ≠ i1 := let ⟨_, e, _⟩ := a1; new e
    have ni2 : s.heap.objs.size ≠ i2 := let ⟨_, e, _⟩ := a2; new e
    rcases hz with ⟨hz, a, b, ho⟩ | ⟨T, f, oT, hz, hT, r1, r2, r3, r4⟩
    · refine wpAny_pyNext_zip_item D hz p ho a1 a2 t1 t2 ex ey fun h' c1 c2 c3 c4 c5 c6 k => ?_
      refine q h' ⟨k _ _ D.TIz D.TITO D.TIi1 D.TIi2 p, c3, c4, t1.at fun o e => k _ o D.l1z D.l1TO D.l1i1 D.l1i2 e, t2.at fun o e => k _ o D.l2z D.l2TO D.l2i1 D.l2i2 e, ns, .inr ⟨s.heap.objs.size, false, _, c1, c5, new hz, ni1, ni2, Nat.ne_of_gt Slt⟩⟩ c5 c6 fun b o nb e => ?_
      simp only [List.mem_cons, List.not_mem_nil, or_false, not_or] at nb
      exact k b o nb.1 nb.2.1 nb.2.2.1 nb.2.2.2 e
    · refine wpAny_pyNext_zip_item_held D hz hT p a1 a2 t1 t2 ex ey fun h' c1 c3 c4 c5 c6 k => ?_
      refine q h' ⟨k _ _ D.TIz D.TIi1 D.TIi2 p, c3, c4, t1.at fun o e => k _ o D.l1z D.l1i1 D.l1i2 e, t2.at fun o e => k _ o D.l2z D.l2i1 D.l2i2 e, ns, .inr ⟨T, true, oT, c1, k _ _ r1 r2 r3 hT, r1, r2, r3, r4⟩⟩ c5 c6 fun b o nb e => ?_
      simp only [List.mem_cons, List.not_mem_nil, or_false, not_or] at nb
      exact k b o nb.1 nb.2.2.1 nb.2.2.2 e
  done := by
    rintro A E S s Q hh ⟨p, a1, a2, t1, t2, ns, hz⟩ q
    have ex : xs[xs.size]? = none := by simp
    rcases hz with ⟨hz, a, b, ho⟩ | ⟨T, f, oT, hz, hT, r1, r2, r3, r4⟩
    · refine wpAny_pyNext_zip_end hh D hz p ho a1 a2 t1 t2 (.inl ex) fun h' k => q h' fun b o nb e => ?_
      simp only [List.mem_cons, List.not_mem_nil, or_false, not_or] at nb
      exact k b o nb.1 nb.2.1 nb.2.2.1 nb.2.2.2 e
    · refine wpAny_pyNext_zip_end_held hh D hz hT p a1 a2 t1 t2 (.inl ex) fun h' k => q h' fun b o nb e => ?_
      simp only [List.mem_cons, List.not_mem_nil, or_false, not_or] at nb
      exact k b o nb.1 nb.2.2.1 nb.2.2.2 e

theorem psrc_tuples {prog : Program} {w : World} {z TI TO i1 i2 l1 l2 : Addr} (D : ZipApart z TI TO i1 i2 l1 l2) (xs ys : Array Value) (hn : xs.size = ys.size) : PSrc prog w z [z, TO, i1, i2] xs.size (fun i => (xs.getD i .none, ys.getD i .none))
    (fun i S h => IsPair h TI (.ref i1) (.ref i2) ∧ h.IsTupleIter i1 l1 i ∧ h.IsTupleIter i2 l2 i ∧ h.IsTuple l1 xs ∧ h.IsTuple l2 ys ∧ (S ≠ z ∧ S ≠ TI ∧ S ≠ TO ∧ S ≠ i1 ∧ S ≠ i2 ∧ S ≠ l1 ∧ S ≠ l2) ∧
      ((IsZip h z TI TO .none ∧ ∃ a b, IsPair h TO a b) ∨ ∃ T f oT, IsZipHeld h z TI TO T f ∧ h.get? T = some oT ∧ T ≠ z ∧ T ≠ i1 ∧ T ≠ i2 ∧ T ≠ S)) where
  type := by
    rintro i S s ⟨_, _, _, _, _, _, ⟨hz, _⟩ | ⟨T, f, oT, hz, _⟩⟩
    · exact ⟨_, hz, rfl⟩
    · exact ⟨_, hz, rfl⟩
  self := by
    rintro A E i S s Q ⟨_, _, _, _, _, _, ⟨hz, _⟩ | ⟨T, f, oT, hz, _⟩⟩ q
    · exact wpAny_pyIter_zip hz q
    · have isz : s.TypeIs (.ref z) "zip" := ⟨_, hz, rfl⟩
      exact wpAny_pyIter_slot isz F.slot_zip_iter (wpAny_call_entry F.slot_zip_iter isz F.entry_zip_iter (wpAny_pure ⟨_, rfl, "zip", _, isz, F.slot_zip_next.lookup, q⟩) (F.args_zip_iter_1 _))
  keep := by
    rintro i S h h' ⟨p, a1, a2, t1, t2, ⟨n1, n2, n3, n4, n5, n6, n7⟩, hz⟩ k
    refine ⟨k _ _ n2.symm p, a1.at fun o e => k _ o n4.symm e, a2.at fun o e => k _ o n5.symm e, t1.at fun o e => k _ o n6.symm e, t2.at fun o e => k _ o n7.symm e, ⟨n1, n2, n3, n4, n5, n6, n7⟩, ?_⟩
    rcases hz with ⟨hz, a, b, ho⟩ | ⟨T, f, oT, hz, hT, r1, r2, r3, r4⟩
    · exact .inl ⟨k _ _ n1.symm hz, a, b, k _ _ n3.symm ho⟩
    · exact .inr ⟨T, f, oT, k _ _ n1.symm hz, k _ _ r4 hT, r1, r2, r3, r4⟩
  item := by
    rintro A E i S s Q lt Slt ⟨p, a1, a2, t1, t2, ns, hz⟩ q
    have ex : xs[i]? = some (xs.getD i .none) := by simp [Array.getD, lt]
    have ey : ys[i]? = some (ys.getD i .none) := by
      have : i < ys.size := by omega
      simp [Array.getD, this]
    have new : ∀ {b o}, s.heap.get? b = some o → s.heap.objs.size ≠ b := fun e => Nat.ne_of_gt (Heap.lt_size e)
    have ni1 : s.heap.objs.size ≠ i1 := let ⟨_, e, _⟩ := a1; new e
    have ni2 : s.heap.objs.size ≠ i2 := let ⟨_, e, _⟩ := a2; new e
    rcases hz with ⟨hz, a, b, ho⟩ | ⟨T, f, oT, hz, hT, r1, r2, r3, r4⟩
    · refine RZ.pyNext_zipT_item D hz p ho a1 a2 t1 t2 ex ey fun h' c1 c2 c3 c4 c5 c6 k => ?_
      refine q h' ⟨k _ _ D.TIz D.TITO D.TIi1 D.TIi2 p, c3, c4, t1.at fun o e => k _ o D.l1z D.l1TO D.l1i1 D.l1i2 e, t2.at fun o e => k _ o D.l2z D.l2TO D.l2i1 D.l2i2 e, ns, .inr ⟨s.heap.objs.size, false, _, c1, c5, new hz, ni1, ni2, Nat.ne_of_gt Slt⟩⟩ c5 c6 fun b o nb e => ?_
      simp only [List.mem_cons, List.not_mem_nil, or_false, not_or] at nb
      exact k b o nb.1 nb.2.1 nb.2.2.1 nb.2.2.2 e
    · refine zt_item D hz hT p a1 a2 t1 t2 ex ey fun h' c1 c3 c4 c5 c6 k => ?_
      refine q h' ⟨k _ _ D.TIz D.TIi1 D.TIi2 p, c3, c4, t1.at fun o e => k _ o D.l1z D.l1i1 D.l1i2 e, t2.at fun o e => k _ o D.l2z D.l2i1 D.l2i2 e, ns, .inr ⟨T, true, oT, c1, k _ _ r1 r2 r3 hT, r1, r2, r3, r4⟩⟩ c5 c6 fun b o nb e => ?_
      simp only [List.mem_cons, List.not_mem_nil, or_false, not_or] at nb
      exact k b o nb.1 nb.2.2.1 nb.2.2.2 e
  done := by
    rintro A E S s Q hh ⟨p, a1, a2, t1, t2, ns, hz⟩ q
    have ex : xs[xs.size]? = none := by simp
    rcases hz with ⟨hz, a, b, ho⟩ | ⟨T, f, oT, hz, hT, r1, r2, r3, r4⟩
    · refine RZ.pyNext_zipT_end hh D hz p ho a1 a2 t1 t2 (.inl ex) fun h' k => q h' fun b o nb e => ?_
      simp only [List.mem_cons, List.not_mem_nil, or_false, not_or] at nb
      exact k b o nb.1 nb.2.1 nb.2.2.1 nb.2.2.2 e
    · refine zt_end hh D hz hT p a1 t1 ex fun h' k => q h' fun b o nb e => ?_
      simp only [List.mem_cons, List.not_mem_nil, or_false, not_or] at nb
      exact k b o nb.1 nb.2.2.1 nb.2.2.2 e

/-! ### the rule -/
def putP : Hp → List Addr → List (V × V) → Hp
  | H, a :: as, p :: ps => putP (upd H a (.tup [p.1, p.2])) as ps
  | H, _, _ => H
theorem putP_off {b : Addr} : ∀ (as : List Addr) (ps : List (V × V)) (H : Hp), b ∉ as → putP H as ps b = H b
  | [], _, _, _ => rfl
  | _ :: _, [], _, _ => rfl
  | a :: as, p :: ps, H, h => by
    have h1 : b ∉ as := fun q => h (List.mem_cons_of_mem _ q)
    have h2 : b ≠ a := fun q => h (by rw [q]; exact List.mem_cons_self)
    show putP (upd H a (.tup [p.1, p.2])) as ps b = H b
    rw [putP_off as ps _ h1, upd_ne h2]
theorem putP_at : ∀ (as : List Addr) (ps : List (V × V)) (H : Hp), as.length = ps.length → as.Nodup → Paired (fun (t : Addr) (p : V × V) => putP H as ps t = some (.tup [p.1, p.2])) as ps
  | [], [], _, _, _ => .nil
  | [], _ :: _, _, h, _ => by cases h
  | _ :: _, [], _, h, _ => by cases h
  | a :: as, p :: ps, H, h, hn => by
    obtain ⟨n1, n2⟩ := List.nodup_cons.mp hn
    refine .cons ?_ (putP_at as ps (upd H a (.tup [p.1, p.2])) (Nat.succ.inj h) n2)
    show putP (upd H a (.tup [p.1, p.2])) as ps a = some (.tup [p.1, p.2])
    rw [putP_off as ps _ n1, upd_same]
/-- behind list(zip(..)): a new list of new pairs -/
def ZipEnd (H : Hp) (Q : VK) (xs ys : List V) : Prop := ∀ (H' : Hp) (l : Addr) (ts : List Addr), Same H H' → H l = none → H' l = some (.lst (ts.map V.ref)) → Paired (fun (t : Addr) (p : V × V) => H' t = some (.tup [p.1, p.2])) ts (xs.zip ys) → Q (.ref l) H'
section
variable {X : Cx} {pins : List (Addr × Obj)} {σ : L2.St} {H : Hp} {s : Shared} {xs ys : List V} {us vs : List Value}
theorem na_not {L : Nat} (h : L + 1 ≤ L) : False := by omega
theorem na_le {n L t : Nat} (h : n ≤ L) (g : L + 1 ≤ t) : n ≤ t := by omega
theorem na_ne {b n L : Nat} (h : b < n) (g : n ≤ L) : b ≠ L := by omega
theorem na_out {b n L : Nat} (h : b < n) (g : n ≤ L) (q : L + 1 ≤ b) : False := by omega
theorem na_ns {n a b : Nat} (la : a < n) (lb : b < n) : n + 5 ≠ n + 4 ∧ n + 5 ≠ n + 2 ∧ n + 5 ≠ n + 3 ∧ n + 5 ≠ n ∧ n + 5 ≠ n + 1 ∧ n + 5 ≠ a ∧ n + 5 ≠ b := by omega
theorem na_wr {n b : Nat} (h : b = n + 4 ∨ b = n + 3 ∨ b = n ∨ b = n + 1) : b < n + 5 := by omega
theorem na_old {n b : Nat} (h : b < n) (q : b = n + 4 ∨ b = n + 3 ∨ b = n ∨ b = n + 1) : False := by omega
theorem getD_of {us : List Value} {j : Nat} {u : Value} (h : us[j]? = some u) : us.toArray.getD j .none = u := by
  obtain ⟨h1, h2⟩ := List.getElem?_eq_some_iff.mp h
  simp [Array.getD, h1, h2]
theorem zip_laid (I : Inv X pins σ H s) (rx : Vals xs us) (ry : Vals ys vs) {h2 : Heap} {tk c L : Nat} {acc : Array Value} {as : List Addr} (k : ∀ b o, s.heap.get? b = some o → h2.get? b = some o) (hL : s.heap.objs.size ≤ L)
    (hS : h2.get? L = some { cls := .type "list", dict := none, data := .seq acc c, slots := #[] }) (hn : as.length = (xs.zip ys).length) (hz : as.length ≤ sizeLine) (g : Outs (fun i => (us.toArray.getD i .none, vs.toArray.getD i .none)) (L + 1) h2 as) (ha : acc.toList = as.map Value.ref) :
    ∃ H' : Hp, Same H H' ∧ H L = none ∧ H' L = some (.lst (as.map V.ref)) ∧ Paired (fun (t : Addr) (p : V × V) => H' t = some (.tup [p.1, p.2])) as (xs.zip ys) ∧ Inv X pins σ H' { s with heap := h2, toks := tk } := by
  have nL : L ∉ as := fun q => na_not (g.above L q)
  have nd : as.Nodup := List.Pairwise.imp (fun {a b} (h : a < b) => Nat.ne_of_lt h) g.rise
  have newT : ∀ t ∈ as, H t = none := fun t q => I.hok.fresh (na_le hL (g.above t q))
  have newL : H L = none := I.hok.fresh hL
  have tups := putP_at as (xs.zip ys) (upd H L (.lst (as.map V.ref))) hn nd
  have off : ∀ b, b ∉ as → b ≠ L → putP (upd H L (.lst (as.map V.ref))) as (xs.zip ys) b = H b := fun b q1 q2 => by rw [putP_off as _ _ q1, upd_ne q2]
  have low : ∀ b o, s.heap.get? b = some o → b ∉ as ∧ b ≠ L := fun b o e => by
    have lt := Heap.lt_size e
    exact ⟨fun q => na_out lt hL (g.above b q), na_ne lt hL⟩
  have kp : Same H (putP (upd H L (.lst (as.map V.ref))) as (xs.zip ys)) := fun b u e => by
    rw [off b (fun q => by rw [newT b q] at e; cases e) (fun q => by rw [q, newL] at e; cases e)]
    exact e
  have atL : putP (upd H L (.lst (as.map V.ref))) as (xs.zip ys) L = some (.lst (as.map V.ref)) := by rw [putP_off as _ _ nL, upd_same]
  refine ⟨_, kp, newL, atL, tups, ?_⟩
  have un : Un (frs X.stack) [] H (putP (upd H L (.lst (as.map V.ref))) as (xs.zip ys)) s.heap h2 := by
    refine ⟨fun b o e _ _ _ => k b o e, fun b o e _ _ _ => ⟨o.slots, k b o e⟩, fun b o e n _ => ?_, fun b o e _ => ⟨o, k b o e⟩, fun b zs e => kp b _ e, fun b o u e => kp b _ e, fun b ps e => ⟨#[], ?_⟩⟩
    · obtain ⟨q1, q2⟩ := low b o e
      rw [off b q1 q2]
      exact n
    · rw [kp b _ e]
      simp
  refine I.call' (ch := []) rfl un (fun b u e => ?_) I.bare fun b q => nomatch q
  by_cases hb : b ∈ as
  · obtain ⟨j, p, e1, e2, e3⟩ := LiI.paired_ix tups hb
    rw [e3] at e
    cases e
    obtain ⟨x1, y1⟩ := List.getElem?_zip_eq_some.mp e2
    obtain ⟨u, eu, ru⟩ := Vals.get rx x1
    obtain ⟨v, ev, rv⟩ := Vals.get ry y1
    have t := g.pairs j b e1
    rw [getD_of eu, getD_of ev] at t
    exact ⟨by show 2 ≤ sizeLine; decide, [u, v], .cons ru (.cons rv .nil), ⟨_, t, rfl, _, rfl⟩⟩
  · by_cases hb2 : b = L
    · rw [hb2] at e ⊢
      rw [atL] at e
      cases e
      refine ⟨by rw [List.length_map]; exact hz, acc.toList, c, by rw [ha]; exact LiI.vals_refs as, ?_⟩
      rw [Array.toArray_toList]
      exact hS
    · rw [off b hb hb2] at e
      exact (I.hok b u e).stay (fun d w _ q => k d w q) (fun d q => kp d _ q) fun d zs q => kp d _ q
def tListZip (K : PySem.W.Frag) (ta : TA) : TE := fun σ H Q => ta σ H fun vs H1 => ∃ (a b : Addr) (xs ys : List V), vs = [.ref a, .ref b] ∧ ((SqL K H1 a xs ∧ SqL K H1 b ys) ∨ (SqT K H1 a xs ∧ SqT K H1 b ys)) ∧ xs.length = ys.length ∧ ZipEnd H1 Q xs ys
theorem pe_listZip {e e2 : Expr} {ta : TA} {p p2 pos pos2 : Pos} (hg : Gl X "list") (hm : X.mg "list" = none) (hgz : Gl X "zip") (hmz : X.mg "zip" = none) (hc : X.calm = true) (hp : PA X [e, e2] ta)
    (hs : starEach [.Call (.Name "zip" p2) [e, e2] [] pos2] X.env = (false, eval (.Call (.Name "zip" p2) [e, e2] [] pos2) X.env) :: starEach [] X.env := by rfl) (hpl : (backTo pos (starEach [] X.env)).any (·.1) = false := by rfl)
    (hs2 : starEach [e, e2] X.env = (false, eval e X.env) :: starEach [e2] X.env := by rfl) (hpl2 : (backTo pos2 (starEach [e2] X.env)).any (·.1) = false := by rfl) :
    PE X (.Call (.Name "list" p) [.Call (.Name "zip" p2) [e, e2] [] pos2] [] pos) (tListZip X.K ta) := by
  refine ⟨fun pins s σ H Q I h => ?_⟩
  refine Call_ (ld_blt I hg hm (show bootBuiltins "list" = some (Value.type "list") by decide +kernel) (PyProof.Rows.callWith_type1 ?_ hs hpl))
  rw [hs]
  show wpAny _ _ (spliced ((false, eval (.Call (.Name "zip" p2) [e, e2] [] pos2) X.env) :: backTo pos (starEach [] X.env))) _ _ s
  refine Calls.spliced_cons ?_
  refine Call_ (ld_blt I hgz hmz PyProof.Rows.boot_zip (PyProof.Rows.callWith_type1 (thn (hp.run pos2 pins s σ H _ I h) fun us s1 ⟨vs, H1, I1, r1, q1⟩ => ?_) hs2 hpl2))
  obtain ⟨a, b, xs, ys, ex, hq, hl, q⟩ := q1
  subst ex
  cases r1 with
  | cons r rr =>
    cases rr with
    | cons r' rr =>
      cases rr
      cases r
      cases r'
      rcases hq with ⟨hx, hy⟩ | ⟨hx, hy⟩
      · obtain ⟨ia, rv, p1, z1⟩ := I1.list hx
        obtain ⟨ib, rw', p3, _⟩ := I1.list hy
        have eq : ia.toArray.size = ib.toArray.size := by simp only [List.size_toArray]; rw [← rv.length, ← rw'.length]; exact hl
        refine call_zip_2 p1.isList p3.isList fun h' hz hTI hTO h1 h2 hsz hk => Calls.spliced_nil ?_
        refine call_list_zip (s := { s1 with heap := h' }) (psrc_lists (PySem.W.ktu_apart s1.heap.objs.size a b p1.lt p3.lt) ia.toArray ib.toArray eq) (I1.ok.hd hc) ?_ ?_ ?_ ?_ ?_
        · intro h2' k
          have la := p1.lt
          have lb := p3.lt
          refine ⟨k _ _ hTI, h1.at fun o e => k _ o e, h2.at fun o e => k _ o e, p1.isList.at fun o e => k _ o (hk _ o e), p3.isList.at fun o e => k _ o (hk _ o e), ?_, .inl ⟨k _ _ hz, _, _, k _ _ hTO⟩⟩
          show h'.objs.size ≠ _ ∧ h'.objs.size ≠ _ ∧ h'.objs.size ≠ _ ∧ h'.objs.size ≠ _ ∧ h'.objs.size ≠ _ ∧ h'.objs.size ≠ _ ∧ h'.objs.size ≠ _
          rw [hsz]
          exact na_ns la lb
        · intro b' hb'
          show b' < h'.objs.size
          rw [hsz]
          simp only [List.mem_cons, List.not_mem_nil, or_false] at hb'
          exact na_wr hb'
        · show s1.heap.objs.size + 4 < h'.objs.size
          rw [hsz]
          exact Nat.lt_succ_self _
        · rw [List.size_toArray, ← rv.length]
          exact z1
        · intro h3 tk acc c as kp hS hlen g ha
          have kk : ∀ b' o, s1.heap.get? b' = some o → h3.get? b' = some o := fun b' o e => kp b' o (fun z => by
            have := Heap.lt_size e
            simp only [List.mem_cons, List.not_mem_nil, or_false] at z
            exact na_old this z) (hk b' o e)
          have lz : (xs.zip ys).length = xs.length := by rw [List.length_zip]; omega
          have la : as.length = xs.length := by rw [hlen, List.size_toArray, ← rv.length]
          obtain ⟨H', c1, c2, c3, c4, J⟩ := zip_laid (tk := tk) I1 rv rw' kk (show s1.heap.objs.size ≤ h'.objs.size by rw [hsz]; exact Nat.le_add_right _ _) hS (by omega) (by omega) g ha
          exact ⟨.ref h'.objs.size, H', J, rfl, q H' _ as c1 c2 c3 c4⟩
      · obtain ⟨ia, rv, p1, z1⟩ := I1.tuple hx
        obtain ⟨ib, rw', p3, _⟩ := I1.tuple hy
        have eq : ia.toArray.size = ib.toArray.size := by simp only [List.size_toArray]; rw [← rv.length, ← rw'.length]; exact hl
        refine RZ.call_zipT p1 p3 fun h' hz hTI hTO h1 h2 hsz hk => Calls.spliced_nil ?_
        refine call_list_zip (s := { s1 with heap := h' }) (psrc_tuples (PySem.W.ktu_apart s1.heap.objs.size a b p1.lt p3.lt) ia.toArray ib.toArray eq) (I1.ok.hd hc) ?_ ?_ ?_ ?_ ?_
        · intro h2' k
          have la := p1.lt
          have lb := p3.lt
          refine ⟨k _ _ hTI, h1.at fun o e => k _ o e, h2.at fun o e => k _ o e, Heap.IsTuple.at p1 fun o e => k _ o (hk _ o e), Heap.IsTuple.at p3 fun o e => k _ o (hk _ o e), ?_, .inl ⟨k _ _ hz, _, _, k _ _ hTO⟩⟩
          show h'.objs.size ≠ _ ∧ h'.objs.size ≠ _ ∧ h'.objs.size ≠ _ ∧ h'.objs.size ≠ _ ∧ h'.objs.size ≠ _ ∧ h'.objs.size ≠ _ ∧ h'.objs.size ≠ _
          rw [hsz]
          exact na_ns la lb
        · intro b' hb'
          show b' < h'.objs.size
          rw [hsz]
          simp only [List.mem_cons, List.not_mem_nil, or_false] at hb'
          exact na_wr hb'
        · show s1.heap.objs.size + 4 < h'.objs.size
          rw [hsz]
          exact Nat.lt_succ_self _
        · rw [List.size_toArray, ← rv.length]
          exact z1
        · intro h3 tk acc c as kp hS hlen g ha
          have kk : ∀ b' o, s1.heap.get? b' = some o → h3.get? b' = some o := fun b' o e => kp b' o (fun z => by
            have := Heap.lt_size e
            simp only [List.mem_cons, List.not_mem_nil, or_false] at z
            exact na_old this z) (hk b' o e)
          have lz : (xs.zip ys).length = xs.length := by rw [List.length_zip]; omega
          have la : as.length = xs.length := by rw [hlen, List.size_toArray, ← rv.length]
          obtain ⟨H', c1, c2, c3, c4, J⟩ := zip_laid (tk := tk) I1 rv rw' kk (show s1.heap.objs.size ≤ h'.objs.size by rw [hsz]; exact Nat.le_add_right _ _) hS (by omega) (by omega) g ha
          exact ⟨.ref h'.objs.size, H', J, rfl, q H' _ as c1 c2 c3 c4⟩
end
end L3

/-! dicts of kinds that are equal -/
namespace L3
open PySem PySem.Spec PyProof.Rows L2
section
variable {X : Cx} {pins : List (Addr × Obj)} {σ : L2.St} {H : Hp} {s : Shared}
theorem opR_or {f : Value → Value → Sem Value} {r r' : R2} (h : OpR X f r) (h' : OpR X f r') : OpR X f (fun x y H Q => r x y H Q ∨ r' x y H Q) := by
  intro pins s σ H x y v u Q I rx ry q
  rcases q with q | q
  · exact h pins s σ H x y v u Q I rx ry q
  · exact h' pins s σ H x y v u Q I rx ry q
theorem kv_hits (I : Inv X pins σ H s) {A : Around} (hu : A.units + 64 < cLine) {ls : List (Key × V)} {b2 : By} {vb : List (Key × Value)} (rb : KV ls vb) (k2 : ByAt H ls b2) (f2 : ∀ q ∈ b2, q.2.fit 60) :
    ∀ {ks : List (Key × V)} {b1 : By} {va : List (Key × Value)}, KV ks va → ByAt H ks b1 → (∀ q ∈ b1, q.2.fit 60 ∧ lk b2 q.1 = some q.2) → PySem.W.KeqHits A s vb va true
  | _, _, _, .nil, .nil, _ => .nil
  | (key, v) :: ks, (x, k) :: b1, (key', u) :: va, .cons ⟨e1, r1⟩ t1, .cons ⟨e2, g⟩ t2, h => by
    obtain ⟨fk, el⟩ := h _ List.mem_cons_self
    have e1' : key = key' := e1
    have e2' : key = .inr x := e2
    subst e1' e2'
    rcases k2.get x with ⟨_, z⟩ | ⟨v2, k', e3, e4, g'⟩
    · rw [z] at el
      cases el
    · rw [e4] at el
      cases el
      have rr : RelO (some v2) (valueAt vb (.inr x)) := by
        rw [← e3]
        exact rb.val (.inr x)
      obtain ⟨y, hy, ry⟩ := rr.some_of
      obtain ⟨as, ra⟩ := Dp.reads I _ v u g.dp r1
      obtain ⟨bs, rb'⟩ := Dp.reads I _ v2 y g'.dp ry
      obtain ⟨l1, l2⟩ := Kd.lay fk
      have eq := SeqAt.eqAt_reads _ _ A s u y as bs ra rb' l1 l1 (by have : min k.dat.depth k.dat.depth = k.dat.depth := Nat.min_self _; omega)
      rw [Kd.eqv, decide_eq_true rfl] at eq
      exact PySem.W.KeqHits.hit hy eq (kv_hits I hu rb k2 f2 t1 t2 fun q hq => h q (List.mem_cons_of_mem _ hq))
def rBy (r : Bool) : R2 := fun x y H Q => ∃ (a b : Addr) (ks ls : List (Key × V)) (b1 b2 : By), x = .ref a ∧ y = .ref b ∧ H a = some (.dK ks) ∧ H b = some (.dK ls) ∧ ByAt H ks b1 ∧ ByAt H ls b2 ∧ b1.length = b2.length ∧ (∀ q ∈ b1, q.2.fit 60 ∧ lk b2 q.1 = some q.2) ∧ (∀ q ∈ b2, q.2.fit 60) ∧ Q (.bl r) H
theorem op_eqBy (hu : X.A.units + 65 < cLine) : OpR X (compareOp .Eq) (rBy true) := by
  intro pins s σ H x y v u Q I rx ry ⟨a, b, ks, ls, b1, b2, ex, ey, ea, eb, k1, k2, hl, h1, h2, q⟩
  subst ex ey
  obtain rfl : v = Value.ref a := rx
  obtain rfl : u = Value.ref b := ry
  obtain ⟨_, ya, va, ra, da⟩ := (show ObjOk X.prog X.w H s.heap a (.dK ks) from I.hok a _ ea)
  obtain ⟨_, yb, vb, rb, db⟩ := (show ObjOk X.prog X.w H s.heap b (.dK ls) from I.hok b _ eb)
  have lv : va.length = vb.length := by rw [← ra.length, ← rb.length, Paired.length k1, Paired.length k2]; exact hl
  refine PySem.W.keq_eq (knd := mixKind X.prog X.w) (r := true) ya yb da db (by omega) (fun _ => kv_hits I (A := X.A.in1) (by show X.A.units + 1 + 64 < cLine; omega) rb k2 h2 ra k1 h1) ?_
  have e : (va.length == vb.length && true) = true := by simp [lv]
  rw [e]
  exact ⟨.bl true, H, I, rfl, q⟩
theorem op_neBy (hu : X.A.units + 65 < cLine) : OpR X (compareOp .NotEq) (rBy false) := by
  intro pins s σ H x y v u Q I rx ry ⟨a, b, ks, ls, b1, b2, ex, ey, ea, eb, k1, k2, hl, h1, h2, q⟩
  subst ex ey
  obtain rfl : v = Value.ref a := rx
  obtain rfl : u = Value.ref b := ry
  obtain ⟨_, ya, va, ra, da⟩ := (show ObjOk X.prog X.w H s.heap a (.dK ks) from I.hok a _ ea)
  obtain ⟨_, yb, vb, rb, db⟩ := (show ObjOk X.prog X.w H s.heap b (.dK ls) from I.hok b _ eb)
  have lv : va.length = vb.length := by rw [← ra.length, ← rb.length, Paired.length k1, Paired.length k2]; exact hl
  refine PySem.W.keq_ne (knd := mixKind X.prog X.w) (r := true) ya yb da db (by omega) (fun _ => kv_hits I (A := X.A.in1) (by show X.A.units + 1 + 64 < cLine; omega) rb k2 h2 ra k1 h1) ?_
  have e : (!(va.length == vb.length && true)) = false := by simp [lv]
  rw [e]
  exact ⟨.bl false, H, I, rfl, q⟩
end
/-- what is in order names each key once -/
theorem addV_nodup {fs : List Str} (x : Str) (h : fs.Nodup) : (addV fs x).Nodup := by
  unfold addV
  by_cases e : x ∈ fs
  · rw [if_pos e]
    exact h
  · rw [if_neg e]
    exact List.nodup_append.mpr ⟨h, by simp, fun a ha b hb => by rw [List.mem_singleton.mp hb]; intro z; rw [z] at ha; exact e ha⟩
theorem Kd.vs_nodup : ∀ (k : Kd) {fs : List Str}, fs.Nodup → (k.vs fs).Nodup
  | .var x, _, h => addV_nodup x h
  | .con _, _, h => h
  | .app a b, _, h => Kd.vs_nodup b (Kd.vs_nodup a h)
theorem vsL_nodup : ∀ (ks : List Kd) {fs : List Str}, fs.Nodup → (vsL ks fs).Nodup
  | [], _, h => h
  | k :: r, _, h => vsL_nodup r (k.vs_nodup h)
theorem lk_self : ∀ (b : By), (names b).Nodup → ∀ q ∈ b, lk b q.1 = some q.2
  | [], _, q, h => nomatch h
  | p :: r, hn, q, h => by
    obtain ⟨n1, n2⟩ := List.nodup_cons.mp (show (p.1 :: names r).Nodup from hn)
    rcases List.mem_cons.mp h with e | h
    · rw [e]
      exact lk_pos rfl
    · have ne : ¬ p.1 = q.1 := fun z => n1 (by rw [z]; exact List.mem_map.mpr ⟨q, h, rfl⟩)
      rw [lk_neg ne]
      exact lk_self r n2 q h
end L3

/-! how kinds are shown: no dict, not too long -/
namespace L3
open PySem L2
theorem shown_word {x : Str} (w : Wok x) : (PyData.str x).shown.length ≤ 82 := by
  have h := StrLaws.reprText_len x (fun c hc => by have := w.2.2 c hc; omega)
  have e : (PyData.str x).shown = reprText x := by simp only [PyData.shown]
  rw [e]
  have := w.2.1
  omega
theorem shown_var : (PyData.str "var").shown.length ≤ 82 := by decide +kernel
theorem shown_con : (PyData.str "con").shown.length ≤ 82 := by decide +kernel
theorem shown_apply : (PyData.str "apply").shown.length ≤ 82 := by decide +kernel
theorem shown_two (a b : PyData) : (PyData.tuple [a, b]).shown.length ≤ a.shown.length + b.shown.length + 7 := by
  have h := tupleText_len_le [a.shown, b.shown]
  simp only [PyData.shown, PyData.shownAll]
  simp only [List.map_cons, List.map_nil, List.sum_cons, List.sum_nil, List.length_cons, List.length_nil] at h
  omega
theorem shown_three (a b c : PyData) : (PyData.tuple [a, b, c]).shown.length ≤ a.shown.length + b.shown.length + c.shown.length + 9 := by
  have h := tupleText_len_le [a.shown, b.shown, c.shown]
  simp only [PyData.shown, PyData.shownAll]
  simp only [List.map_cons, List.map_nil, List.sum_cons, List.sum_nil, List.length_cons, List.length_nil] at h
  omega
theorem Kd.shown_len : ∀ {k : Kd} {n : Nat}, k.fit n → k.dat.shown.length + 100 ≤ 300 * 2 ^ n
  | .var x, n, h => by
    have h1 := shown_two (.str "var") (.str x)
    have h2 := shown_word (wok_of_var h)
    have h3 := shown_var
    have h4 : 1 ≤ 2 ^ n := Nat.one_le_two_pow
    show (PyData.tuple [.str "var", .str x]).shown.length + 100 ≤ _
    omega
  | .con x, n, h => by
    have h1 := shown_two (.str "con") (.str x)
    have h2 := shown_word (wok_of_con h)
    have h3 := shown_con
    have h4 : 1 ≤ 2 ^ n := Nat.one_le_two_pow
    show (PyData.tuple [.str "con", .str x]).shown.length + 100 ≤ _
    omega
  | .app a b, n, h => by
    obtain ⟨m, rfl, ha, hb⟩ := Kd.fit_app h
    have h1 := shown_three (.str "apply") a.dat b.dat
    have h2 := Kd.shown_len ha
    have h3 := Kd.shown_len hb
    have h4 := shown_apply
    have h5 : 2 ^ (m + 1) = 2 ^ m * 2 := Nat.pow_succ ..
    show (PyData.tuple [.str "apply", a.dat, b.dat]).shown.length + 100 ≤ _
    omega
theorem Kd.show_ok : ∀ k : Kd, k.dat.showable = true ∧ k.dat.hasDict = false
  | .var x => by simp [Kd.dat, PyData.showable, PyData.showableAll, PyData.hasDict, PyData.hasDictAll]
  | .con x => by simp [Kd.dat, PyData.showable, PyData.showableAll, PyData.hasDict, PyData.hasDictAll]
  | .app a b => by
    obtain ⟨h1, h2⟩ := Kd.show_ok a
    obtain ⟨h3, h4⟩ := Kd.show_ok b
    simp [Kd.dat, PyData.showable, PyData.showableAll, PyData.hasDict, PyData.hasDictAll, h1, h2, h3, h4]
theorem kds_show : ∀ {ks : List Kd} {n : Nat}, (∀ k ∈ ks, k.fit n) → PyData.showableAll (ks.map Kd.dat) = true ∧ PyData.hasDictAll (ks.map Kd.dat) = false ∧ PyData.depthAll (ks.map Kd.dat) ≤ n + 1 ∧ ((PyData.shownAll (ks.map Kd.dat)).map (·.length)).sum ≤ ks.length * (300 * 2 ^ n) ∧ (PyData.shownAll (ks.map Kd.dat)).length = ks.length
  | [], n, _ => by simp [PyData.showableAll, PyData.hasDictAll, PyData.depthAll, PyData.shownAll]
  | k :: r, n, h => by
    obtain ⟨h1, h2, h3, h4, h5⟩ := kds_show (ks := r) (n := n) fun y hy => h y (List.mem_cons_of_mem _ hy)
    have hk := h k List.mem_cons_self
    obtain ⟨g1, g2⟩ := Kd.show_ok k
    obtain ⟨g3, g4⟩ := Kd.lay hk
    have g5 := Kd.shown_len hk
    refine ⟨?_, ?_, ?_, ?_, ?_⟩
    · simp [PyData.showableAll, g1, h1]
    · simp [PyData.hasDictAll, g2, h2]
    · simp only [List.map_cons, PyData.depthAll]
      omega
    · have e : (r.length + 1) * (300 * 2 ^ n) = r.length * (300 * 2 ^ n) + 300 * 2 ^ n := Nat.succ_mul ..
      simp only [List.map_cons, PyData.shownAll, List.sum_cons, List.length_cons]
      rw [e]
      generalize r.length * (300 * 2 ^ n) = z at h4 ⊢
      omega
    · simp [PyData.shownAll, h5]
/-- [patterns, kinds] -/
def twoD (ps ks : List Kd) : PyData := .list [.list (ps.map Kd.dat), .list (ks.map Kd.dat)]
theorem twoD_show {ps ks : List Kd} (hp : ∀ k ∈ ps, k.fit 12) (hk : ∀ k ∈ ks, k.fit 12) (lp : ps.length ≤ 4) (lk : ks.length ≤ 4) :
    (twoD ps ks).showable = true ∧ (twoD ps ks).hasDict = false ∧ (twoD ps ks).depth ≤ 60 ∧ (twoD ps ks).shown.length ≤ sizeLine := by
  obtain ⟨a1, a2, a3, a4, a5⟩ := kds_show hp
  obtain ⟨b1, b2, b3, b4, b5⟩ := kds_show hk
  refine ⟨?_, ?_, ?_, ?_⟩
  · simp [twoD, PyData.showable, PyData.showableAll, a1, b1]
  · simp [twoD, PyData.hasDict, PyData.hasDictAll, a2, b2]
  · simp only [twoD, PyData.depth, PyData.depthAll]
    omega
  · have h := listText_len_le [listText (PyData.shownAll (ps.map Kd.dat)), listText (PyData.shownAll (ks.map Kd.dat))]
    have h1 := listText_len_le (PyData.shownAll (ps.map Kd.dat))
    have h2 := listText_len_le (PyData.shownAll (ks.map Kd.dat))
    have c1 : ps.length * (300 * 2 ^ 12) ≤ 4 * (300 * 2 ^ 12) := Nat.mul_le_mul_right _ lp
    have c2 : ks.length * (300 * 2 ^ 12) ≤ 4 * (300 * 2 ^ 12) := Nat.mul_le_mul_right _ lk
    simp only [List.map_cons, List.map_nil, List.sum_cons, List.sum_nil, List.length_cons, List.length_nil] at h
    simp only [twoD, PyData.shown, PyData.shownAll]
    have e := sizeLine_eq
    rw [e]
    omega
end L3

set_option maxHeartbeats 4000000
/-! values of any kind: none, bools, ints, texts, lists, tuples, dicts; literals; repr -/
namespace L3
open PySem PySem.Spec PyProof.Rows L2
mutual
/-- v is d; t is where the tape stands -/
inductive Da (t : Addr) (H : Hp) : V → PyData → Prop
  | non : Da t H .non .none
  | bl (b : Bool) : Da t H (.bl b) (.bool b)
  | int (i : Int) : Da t H (.int i) (.int i)
  | str (x : Str) : Da t H (.str x) (.str x)
  | lst {a : Addr} {xs : List V} {ds : List PyData} : H a = some (.lst xs) → a ≠ sysModules → DaAll t H xs ds → Da t H (.ref a) (.list ds)
  | tup {a : Addr} {xs : List V} {ds : List PyData} : H a = some (.tup xs) → DaAll t H xs ds → Da t H (.ref a) (.tuple ds)
  | dct {a : Addr} {kvs : List (Key × V)} {ds : List (PyData × PyData)} : H a = some (.dK kvs) → a ≠ t → DaKv t H kvs ds → Da t H (.ref a) (.dict ds)
inductive DaAll (t : Addr) (H : Hp) : List V → List PyData → Prop
  | nil : DaAll t H [] []
  | cons {v : V} {vs : List V} {d : PyData} {ds : List PyData} : Da t H v d → DaAll t H vs ds → DaAll t H (v :: vs) (d :: ds)
inductive DaKv (t : Addr) (H : Hp) : List (Key × V) → List (PyData × PyData) → Prop
  | nil : DaKv t H [] []
  | cons {x : Str} {v : V} {vs : List (Key × V)} {d : PyData} {ds : List (PyData × PyData)} : Da t H v d → DaKv t H vs ds → DaKv t H ((.inr x, v) :: vs) ((.str x, d) :: ds)
end
/-- what a change of the heap has to keep -/
structure Kp (t : Addr) (H H' : Hp) : Prop where
  l : ∀ a xs, H a = some (.lst xs) → H' a = some (.lst xs)
  u : ∀ a xs, H a = some (.tup xs) → H' a = some (.tup xs)
  d : ∀ a kvs, a ≠ t → H a = some (.dK kvs) → H' a = some (.dK kvs)
mutual
theorem Da.kp {t : Addr} {H H' : Hp} (e : Kp t H H') : ∀ {d : PyData} {v : V}, Da t H v d → Da t H' v d
  | .none, _, h => by cases h; exact .non
  | .bool b, _, h => by cases h; exact .bl b
  | .int i, _, h => by cases h; exact .int i
  | .str x, _, h => by cases h; exact .str x
  | .list ds, _, h => by
    cases h with
    | lst h1 h2 h3 => exact .lst (e.l _ _ h1) h2 (DaAll.kp e h3)
  | .tuple ds, _, h => by
    cases h with
    | tup h1 h3 => exact .tup (e.u _ _ h1) (DaAll.kp e h3)
  | .dict ds, _, h => by
    cases h with
    | dct h1 h2 h3 => exact .dct (e.d _ _ h2 h1) h2 (DaKv.kp e h3)
theorem DaAll.kp {t : Addr} {H H' : Hp} (e : Kp t H H') : ∀ {ds : List PyData} {vs : List V}, DaAll t H vs ds → DaAll t H' vs ds
  | [], _, h => by cases h; exact .nil
  | d :: ds, _, h => by
    cases h with
    | cons h1 h2 => exact .cons (Da.kp e h1) (DaAll.kp e h2)
theorem DaKv.kp {t : Addr} {H H' : Hp} (e : Kp t H H') : ∀ {ds : List (PyData × PyData)} {vs : List (Key × V)}, DaKv t H vs ds → DaKv t H' vs ds
  | [], _, h => by cases h; exact .nil
  | d :: ds, _, h => by
    cases h with
    | cons h1 h2 => exact .cons (Da.kp e h1) (DaKv.kp e h2)
end
theorem kp_same {t : Addr} {H H' : Hp} (e : Same H H') : Kp t H H' := ⟨fun _ _ h => e _ _ h, fun _ _ h => e _ _ h, fun _ _ _ h => e _ _ h⟩
theorem DaAll.len {t : Addr} {H : Hp} : ∀ {vs : List V} {ds : List PyData}, DaAll t H vs ds → vs.length = ds.length
  | _, [], h => by cases h; rfl
  | _, d :: ds, h => by
    cases h with
    | cons _ h => rw [List.length_cons, List.length_cons, DaAll.len h]
theorem DaAll.app {t : Addr} {H : Hp} : ∀ {vs ws : List V} {ds es : List PyData}, DaAll t H vs ds → DaAll t H ws es → DaAll t H (vs ++ ws) (ds ++ es)
  | _, _, [], _, h, g => by cases h; exact g
  | _, _, d :: ds, _, h, g => by
    cases h with
    | cons h1 h2 => exact .cons h1 (DaAll.app h2 g)
theorem DaAll.mem {t : Addr} {H : Hp} {v : V} : ∀ {vs : List V} {ds : List PyData}, DaAll t H vs ds → v ∈ vs → ∃ d ∈ ds, Da t H v d
  | _, [], h, hv => by cases h; cases hv
  | _, d :: ds, h, hv => by
    cases h with
    | cons h1 h2 =>
      rcases List.mem_cons.mp hv with e | hv
      · exact ⟨d, List.mem_cons_self, by rw [e]; exact h1⟩
      · obtain ⟨d', m, q⟩ := DaAll.mem h2 hv
        exact ⟨d', List.mem_cons_of_mem _ m, q⟩
/-! ### read by the library -/
section
variable {X : Cx} {pins : List (Addr × Obj)} {σ : L2.St} {H : Hp} {s : Shared} {t : Addr}
theorem kv_keys {knd : KeyKind X.prog X.w Key} (hk : knd.is = keyIs) : ∀ {kvs : List (Key × V)} {ds : List (PyData × PyData)} {es : List DictEntry} {vs : List (Key × Value)}, DaKv t H kvs ds → KV kvs vs → Pairs knd es vs → ReadsAll s.heap (es.map (·.key)) (ds.map (·.1)) []
  | _, [], _, _, h, h2, h3 => by
    cases h
    cases h2
    cases h3
    exact ReadsAll.nil
  | _, (q, d) :: ds, [], _, h, h2, h3 => by
    cases h3
    cases h2
    cases h
  | _, (q, d) :: ds, e :: es, _, h, h2, h3 => by
    cases h with
    | @cons x v vs d' ds' g1 g2 =>
      cases h2 with
      | cons e2 t2 =>
        cases h3 with
        | cons p1 p2 t3 =>
          obtain ⟨e2, _⟩ := e2
          rw [hk] at p1
          have h1' : keyIs _ e.key = true := p1
          rw [← e2] at h1'
          obtain ⟨tk, ht⟩ := Value.isStrOf_shape (x := x) (v := e.key) h1'
          have ih := kv_keys hk g2 t2 t3
          show ReadsAll s.heap (e.key :: es.map (·.key)) (PyData.str x :: _) []
          rw [ht]
          exact ReadsAll.cons (as := []) (bs := []) (Reads.str _ _) ih
mutual
theorem Da.reads (I : Inv X pins σ H s) : ∀ (d : PyData) (v : V) (u : Value), Da t H v d → RelV v u → ∃ as, Reads s.heap u d as ∧ sysModules ∉ as
  | .none, _, _, h, r => by
    cases h
    cases r
    exact ⟨_, Reads.none, List.not_mem_nil⟩
  | .bool b, _, _, h, r => by
    cases h
    cases r
    exact ⟨_, Reads.bool b, List.not_mem_nil⟩
  | .int i, _, _, h, r => by
    cases h
    obtain ⟨k, rfl⟩ := r
    exact ⟨_, Reads.int i k, List.not_mem_nil⟩
  | .str x, _, _, h, r => by
    cases h
    obtain ⟨k, rfl⟩ := r
    exact ⟨_, Reads.str x k, List.not_mem_nil⟩
  | .list ds, _, u, h, r => by
    cases h with
    | @lst a xs _ hs ns ha =>
      obtain rfl : u = Value.ref a := r
      obtain ⟨its, rv, ⟨o, n, ho, hc, _, hd⟩, _⟩ := I.list (SqL.of hs)
      obtain ⟨as, hr, q⟩ := Da.readsAll I ds _ its ha rv
      exact ⟨_, Reads.list ho hc hd hr, fun z => (List.mem_cons.mp z).elim (fun e => ns e.symm) q⟩
  | .tuple ds, _, u, h, r => by
    cases h with
    | @tup a xs _ hs ha =>
      obtain rfl : u = Value.ref a := r
      obtain ⟨its, rv, ⟨o, ho, hc, n, hd⟩, _⟩ := I.tuple (SqT.of hs)
      obtain ⟨as, hr, q⟩ := Da.readsAll I ds _ its ha rv
      exact ⟨_, Reads.tuple ho hc hd hr, q⟩
  | .dict ds, _, u, h, r => by
    cases h with
    | @dct a kvs _ hs na ha =>
      obtain rfl : u = Value.ref a := r
      obtain ⟨_, lo, vs, ra, da⟩ := (show ObjOk X.prog X.w H s.heap a (.dK kvs) from I.hok a _ hs)
      obtain ⟨ep, o, es, ho, hx, hdat, _, pr, _⟩ := da.dictAt
      obtain ⟨bs, hr, q⟩ := Da.readsKv I ds kvs _ vs ha ra pr
      refine ⟨_, Reads.dict (as := []) ho hx.1 hdat (kv_keys rfl ha ra pr) hr, fun z => ?_⟩
      rcases List.mem_append.mp z with e | e
      · have e := List.mem_singleton.mp e
        rw [← e] at lo
        simp at lo
      · exact q e
theorem Da.readsAll (I : Inv X pins σ H s) : ∀ (ds : List PyData) (vs : List V) (us : List Value), DaAll t H vs ds → Vals vs us → ∃ as, ReadsAll s.heap us ds as ∧ sysModules ∉ as
  | [], _, _, h, r => by
    cases h
    cases r
    exact ⟨_, ReadsAll.nil, List.not_mem_nil⟩
  | d :: ds, _, _, h, r => by
    cases h with
    | cons h1 h2 =>
      cases r with
      | cons r1 r2 =>
        obtain ⟨as, q1, n1⟩ := Da.reads I d _ _ h1 r1
        obtain ⟨bs, q2, n2⟩ := Da.readsAll I ds _ _ h2 r2
        exact ⟨_, ReadsAll.cons q1 q2, fun z => (List.mem_append.mp z).elim n1 n2⟩
theorem Da.readsKv (I : Inv X pins σ H s) {knd : KeyKind X.prog X.w Key} : ∀ (ds : List (PyData × PyData)) (kvs : List (Key × V)) (es : List DictEntry) (vs : List (Key × Value)), DaKv t H kvs ds → KV kvs vs → Pairs knd es vs → ∃ as, ReadsAll s.heap (es.map (·.val)) (ds.map (·.2)) as ∧ sysModules ∉ as
  | [], _, _, _, h, h2, h3 => by
    cases h
    cases h2
    cases h3
    exact ⟨_, ReadsAll.nil, List.not_mem_nil⟩
  | (q, d) :: ds, _, [], _, h, h2, h3 => by
    cases h3
    cases h2
    cases h
  | (q, d) :: ds, _, e :: es', _, h, h2, h3 => by
    cases h with
    | @cons x v vs d' ds' g1 g2 =>
      cases h2 with
      | cons e2 t2 =>
        cases h3 with
        | cons p1 p2 t3 =>
          obtain ⟨_, r⟩ := e2
          obtain ⟨as, q1, n1⟩ := Da.reads I d _ _ g1 r
          obtain ⟨bs, q2, n2⟩ := Da.readsKv I ds _ es' _ g2 t2 t3
          have h2' : e.val = _ := p2
          refine ⟨_, ?_, fun z => (List.mem_append.mp z).elim n1 n2⟩
          show ReadsAll s.heap (e.val :: es'.map (·.val)) (d :: _) _
          rw [h2']
          exact ReadsAll.cons q1 q2
end
/-- repr of a list, a tuple or a dict of such values -/
def rReprA (t : Addr) : List V → Hp → VK → Prop := fun xs H Q => ∃ (a : Addr) (d : PyData), xs = [.ref a] ∧ Da t H (.ref a) d ∧ d.showable = true ∧ d.depth ≤ 60 ∧ d.shown.length ≤ sizeLine ∧ Q (.str d.shown) H
theorem call_reprA (t : Addr) (hg : X.A.guards = some []) (hu : X.A.units + 64 < cLine) : CallR X (.builtin "repr") (rReprA t) := by
  intro pins s σ H xs us Q I r h
  obtain ⟨a, d, rfl, hd, hs, hdep, hsz, q⟩ := h
  obtain ⟨u, rfl, rx⟩ := vals1 r
  obtain rfl : u = Value.ref a := rx
  obtain ⟨as, hr, n⟩ := Da.reads I d _ _ hd (show RelV (.ref a) (.ref a) from rfl)
  exact repr_of_reads' hr hs (fun _ => n) hg (by omega) (fun _ _ e => e) (fun h' u tk hk => ⟨.str d.shown, H, I.kept (t' := tk) hk, ⟨u, rfl⟩, q⟩) hsz
end
/-! ### literals -/
section
variable {X : Cx} {e : Expr} {es : List Expr} {pos : Pos} {t : Addr}
theorem _root_.L2.PE.weak {te te' : TE} (h : PE X e te) (m : ∀ σ H Q, te' σ H Q → te σ H Q) : PE X e te' := ⟨fun pins s σ H Q I q => h.run pins s σ H Q I (m σ H Q q)⟩
theorem _root_.L2.PA.weak {te te' : TA} (h : PA X es te) (m : ∀ σ H Q, te' σ H Q → te σ H Q) : PA X es te' := ⟨fun pos pins s σ H Q I q => h.run pos pins s σ H Q I (m σ H Q q)⟩
/-- a value that is d, all else is kept -/
def tLit (t : Addr) (d : PyData) : TE := fun _ H Q => (∃ o, H t = some o) ∧ ∀ H' v, Same H H' → Da t H' v d → Q v H'
def tLits (t : Addr) (ds : List PyData) : TA := fun _ H Q => (∃ o, H t = some o) ∧ ∀ H' vs, Same H H' → DaAll t H' vs ds → Q vs H'
/-- a new list of such values -/
def tLitL (t : Addr) (ds : List PyData) : TE := fun _ H Q => (∃ o, H t = some o) ∧ ∀ H' l vs, Same H H' → l ≠ sysModules → H' l = some (.lst vs) → DaAll t H' vs ds → Q (.ref l) H'
theorem pl_nil : PA X [] (tLits t []) := pa_nil.weak fun σ H Q h => h.2 H [] (Same.refl H) .nil
theorem pl_cons {d : PyData} {ds : List PyData} (ha : PE X e (tLit t d)) (hr : PA X es (tLits t ds)) (hs : starEach (e :: es) X.env = (false, eval e X.env) :: starEach es X.env := by rfl) : PA X (e :: es) (tLits t (d :: ds)) :=
  (pa_cons ha hr hs).weak fun σ H Q ⟨⟨o, ho⟩, h⟩ => ⟨⟨o, ho⟩, fun H1 v s1 d1 => ⟨⟨o, s1 _ _ ho⟩, fun H2 vs s2 d2 => h H2 (v :: vs) (s1.trans s2) (.cons (d1.kp (kp_same s2)) d2)⟩⟩
theorem pl_tup {x1} {ds : List PyData} (h : PA X es (tLits t ds)) (hz : ds.length ≤ 1000 := by decide) : PE X (.Tuple es x1 pos) (tLit t (.tuple ds)) :=
  (pe_tup h).weak fun σ H Q ⟨⟨o, ho⟩, h⟩ => ⟨⟨o, ho⟩, fun H1 vs s1 d1 => ⟨by rw [d1.len, sizeLine_eq]; omega, fun p hp => h _ _ (s1.trans (same_new hp)) (.tup upd_same (d1.kp (kp_same (same_new hp))))⟩⟩
theorem pl_lstL {ds : List PyData} (h : PA X es (tLits t ds)) (hz : ds.length ≤ 1000 := by decide) : PE X (.List es pos) (tLitL t ds) := by
  refine ⟨fun pins s σ H Q I hq => ?_⟩
  obtain ⟨ho, hq⟩ := hq
  refine wpAny_List_spliced (thn (h.run pos pins s σ H (fun vs H1 => Same H H1 ∧ DaAll t H1 vs ds) I ⟨ho, fun H1 vs s1 d1 => ⟨s1, d1⟩⟩) fun us s1 ⟨xs, H1, I1, r, sm, dd⟩ => ⟨by rw [← r.length, dd.len, sizeLine_eq]; omega, ?_⟩)
  have hf : H1 s1.heap.objs.size = none := I1.hok.fresh (Nat.le_refl _)
  refine ⟨.ref s1.heap.objs.size, upd H1 s1.heap.objs.size (.lst xs), I1.laid (t' := s1.toks) (fun b u e => Heap.get?_push_of_some _ e) (Nat.le_refl _) ?_, rfl, hq _ _ xs (sm.trans (same_new hf)) (Nat.ne_of_gt I1.big) upd_same (dd.kp (kp_same (same_new hf)))⟩
  exact ⟨by rw [dd.len, sizeLine_eq]; omega, us, 0, r, Heap.get?_push_size _ rfl⟩
theorem pl_lst {ds : List PyData} (h : PA X es (tLits t ds)) (hz : ds.length ≤ 1000 := by decide) : PE X (.List es pos) (tLit t (.list ds)) :=
  (pl_lstL h hz).weak fun σ H Q ⟨ho, h⟩ => ⟨ho, fun H1 l vs s1 n1 g1 d1 => h _ _ s1 (.lst g1 n1 d1)⟩
theorem pl_c {x : V} {d : PyData} (h : PE X e (tC x)) (m : ∀ H, Da t H x d) : PE X e (tLit t d) := h.weak fun σ H Q ⟨_, h⟩ => h H x (Same.refl H) (m H)
theorem pl_d0 : PE X (.Dict [] [] pos) (tLit t (.dict [])) :=
  pe_dnewK.weak fun σ H Q ⟨⟨o, ho⟩, h⟩ p hp => h _ _ (same_new hp) (.dct upd_same (fun e => by rw [e, ho] at hp; cases hp) .nil)
theorem pl_neg {i : Int} (h : PE X e (tC (.int i))) : PE X (.UnaryOp .USub e pos) (tLit t (.int (-i))) :=
  (pe_un un_neg h).weak fun σ H Q ⟨_, q⟩ => ⟨_, rfl, q H _ (Same.refl H) (.int _)⟩
theorem pl_pow {e2 : Expr} {i j : Int} (h : PE X e (tC (.int i))) (h2 : PE X e2 (tC (.int j))) (hc : CPow i j := by decide) : PE X (.BinOp e .Pow e2 pos) (tLit t (.int (i ^ j.toNat))) :=
  (pe_op op_pow h h2).weak fun σ H Q ⟨_, q⟩ => ⟨_, _, rfl, rfl, hc, q H _ (Same.refl H) (.int _)⟩
theorem pl_d1 {x : Str} {i : Int} {p1 p2 : Pos} {k1 k2} : PE X (.Dict [some (.Constant (.str x) k1 p1)] [.Constant (.int i) k2 p2] pos) (tLit t (.dict [(.str x, .int i)])) :=
  (pe_disp (pps_cons pe_str pe_int pps_nil) (by rfl) (by rfl) (fun z => by cases z) (by show 1 ≤ 15; decide)).weak fun σ H Q ⟨⟨o, ho⟩, h⟩ p hp => ⟨upd_same, [(.inr x, .int i)], rfl, by show 1 ≤ 15; decide, h _ _ (fun b o' e => by
    rw [upd_ne (ne_of_none e hp), upd_ne (ne_of_none e hp)]
    exact e) (.dct upd_same (fun e => by rw [e, ho] at hp; cases hp) (.cons (.int i) .nil))⟩
end
end L3

/-! a value of any kind: its type; beside a text -/
namespace L3
open PySem PySem.Spec PyProof.Rows L2
open PySem.SeqAt
theorem dict_eq_declines_str (a : Addr) (es : Array DictEntry) (n : Nat) (dd : Option Addr) (sl : Array (Option Value)) (b : Str) (u : Tok) :
    Meets (Builtin.«dict.__eq__» ⟨[.ref a, .str b u], []⟩) (fun _ R s => s.heap.get? a = some { cls := .type "dict", dict := dd, data := .dict es n, slots := sl } ∧ R (.ok (.ret .notImplemented)) s) :=
  .of_wp fun prog w A R s h => by
    obtain ⟨hl, h⟩ := h
    have tA : s.TypeIs (.ref a) "dict" := ⟨_, hl, rfl⟩
    show wpAny _ _ (Builtin.Dict.dictSlotArgs "__eq__" ⟨[.ref a, .str b u], []⟩ >>= _) _ _ s
    refine wpAny_bind ?_
    unfold Builtin.Dict.dictSlotArgs
    refine wpAny_bind (wpAny_notOrdered_dict tA ?_)
    show wpAny _ _ (pure (Value.ref a, Value.str b u)) _ _ s
    refine wpAny_pure ?_
    refine wpAny_bind (wpAny_isInstance (T := "str") (typeIs_str s b u) F.sub_str_dict ?_)
    simp only [Bool.not_false, if_true]
    exact wpAny_bind (wpAny_rule (wpAny_pure ⟨_, rfl, h⟩))
theorem str_eq_declines_dict (b : Str) (u : Tok) (l : Addr) (c : Value) (es : Array DictEntry) (n : Nat) (dd : Option Addr) (sl : Array (Option Value)) :
    Meets (Builtin.«str.__eq__» ⟨[.str b u, .ref l], []⟩) (fun _ R s => s.heap.get? l = some { cls := c, dict := dd, data := .dict es n, slots := sl } ∧ R (.ok (.ret .notImplemented)) s) :=
  .of_wp fun prog w A R s h => by obtain ⟨hp, g, d, tk, os⟩ := s; obtain ⟨hl, h⟩ := h; wp_walk using wpAny_loadPart' hl, wpAny_load hl; exact ⟨_, rfl, h⟩
section
variable {A : Around} {s : Shared}
theorem rc_dict_str {l : Addr} {o : Obj} {es : Array DictEntry} {n : Nat} (b : Str) (u : Tok) (ho : s.heap.get? l = some o) (hc : o.cls = .type "dict") (hd : o.data = .dict es n) (hu : A.units < cLine) : RcAt A s (.ref l) (.str b u) false := fun prog w E Q h => by
  obtain ⟨cls, dd, data, sl⟩ := o
  simp only at hc hd
  subst hc hd
  exact rc_eq_decline_or (k := false) ⟨_, ho, rfl⟩ (typeIs_str s b u) (by decide) F.sub_str_dict F.slot_dict_eq F.slot_str_eq_refl
    (fun _ hq => call_meets F.slot_dict_eq ⟨_, ho, rfl⟩ F.entry_dict_eq (F.args_dict_eq_2 _ _) (dict_eq_declines_str l es n dd sl b u) ⟨ho, hq⟩)
    (fun _ hq => call_meets F.slot_str_eq_refl (typeIs_str s b u) F.entry_str_eq (F.args_str_eq_2 _ _) (str_eq_declines_dict b u l (.type "dict") es n dd sl) ⟨ho, hq⟩)
    (fun _ hq => wpAny_of_eq (rfl : isSame (.ref l) (.str b u) = pure false) hq) (.inr hu) h
end
/-- whether a value is this text -/
def isS (x : Str) : PyData → Bool
  | .str y => decide (y = x)
  | _ => false
def tyName : PyData → String
  | .none => "NoneType"
  | .bool _ => "bool"
  | .int _ => "int"
  | .str _ => "str"
  | .list _ => "list"
  | .tuple _ => "tuple"
  | .dict _ => "dict"
section
variable {X : Cx} {pins : List (Addr × Obj)} {σ : L2.St} {H : Hp} {s : Shared}
def rEqStr (t : Addr) : R2 := fun x y H Q => ∃ (d : PyData) (z : Str), y = .str z ∧ Da t H x d ∧ Q (.bl (isS z d)) H
theorem op_eqStr {t : Addr} (hu : X.A.units + 64 < cLine) : OpR X (compareOp .Eq) (rEqStr t) := by
  intro pins s σ H x y v u Q I rx ry h
  obtain ⟨d, z, rfl, hd, q⟩ := h
  obtain ⟨tk, rfl⟩ := (show ∃ k, u = Value.str z k from ry)
  have hu' : X.A.units < cLine := by omega
  have fin : ∀ b : Bool, b = isS z d → EP X pins σ Q (.bool b) s := fun b e => ⟨.bl b, H, I, rfl, by rw [e]; exact q⟩
  cases d with
  | none =>
    cases hd
    cases (show v = Value.none from rx)
    exact RcAt.none_str z tk _ _ _ _ (fin _ rfl)
  | bool b =>
    cases hd
    cases (show v = Value.bool b from rx)
    exact RcAt.bool_str b z tk _ _ _ _ (fin _ rfl)
  | int i =>
    cases hd
    obtain ⟨k, rfl⟩ := (show ∃ k, v = Value.int i k from rx)
    exact RcAt.int_str i k z tk _ _ _ _ (fin _ rfl)
  | str y =>
    cases hd
    obtain ⟨k, rfl⟩ := (show ∃ k, v = Value.str y k from rx)
    exact RcAt.str_str y k z tk _ _ _ _ (fin _ (str_beq y z))
  | list ds =>
    cases hd with
    | @lst a xs _ hs ns ha =>
      obtain rfl : v = Value.ref a := rx
      obtain ⟨its, rv, ⟨o, n, ho, hc, _, hd⟩, _⟩ := I.list (SqL.of hs)
      exact RcAt.list_str z tk ⟨o, ho, hc, n, hd⟩ hu' _ _ _ _ (fin _ rfl)
  | tuple ds =>
    cases hd with
    | @tup a xs _ hs ha =>
      obtain rfl : v = Value.ref a := rx
      obtain ⟨its, rv, ⟨o, ho, hc, n, hd⟩, _⟩ := I.tuple (SqT.of hs)
      exact RcAt.tuple_str z tk ⟨o, ho, hc, n, hd⟩ hu' _ _ _ _ (fin _ rfl)
  | dict ds =>
    cases hd with
    | @dct a kvs _ hs na ha =>
      obtain rfl : v = Value.ref a := rx
      obtain ⟨_, lo, vs, ra, da⟩ := (show ObjOk X.prog X.w H s.heap a (.dK kvs) from I.hok a _ hs)
      obtain ⟨ep, o, es, ho, hx, hdat, _, pr, _⟩ := da.dictAt
      exact rc_dict_str z tk ho hx.1 hdat hu' _ _ _ _ (fin _ rfl)
theorem Da.ty {K : PySem.W.Frag} {t : Addr} {v : V} {d : PyData} (h : Da t H v d) : TyX K H v (.type (tyName d)) := by
  cases d with
  | none => cases h; exact .base .non
  | bool b => cases h; exact .base (.bl b)
  | int i => cases h; exact .base (.int i)
  | str y => cases h; exact .base (.str y)
  | list ds =>
    cases h with
    | lst h1 _ _ => exact .base (.lst h1)
  | tuple ds =>
    cases h with
    | tup h1 _ => exact .base (.tup h1)
  | dict ds =>
    cases h with
    | dct h1 _ _ => exact .base (.dK h1)
def isStr : PyData → Bool
  | .str _ => true
  | _ => false
def isTup : PyData → Bool
  | .tuple _ => true
  | _ => false
theorem kit_str {K : PySem.W.Frag} (d : PyData) : PySem.W.kitOne K (.type (tyName d)) (.type "str") = some (isStr d) := by
  cases d with
  | none => exact kit_ty (show kitB "NoneType" "str" = some false by decide +kernel)
  | bool _ => exact kit_ty (show kitB "bool" "str" = some false by decide +kernel)
  | int _ => exact kit_ty (show kitB "int" "str" = some false by decide +kernel)
  | str _ => exact kit_ty (show kitB "str" "str" = some true by decide +kernel)
  | list _ => exact kit_ty (show kitB "list" "str" = some false by decide +kernel)
  | tuple _ => exact kit_ty (show kitB "tuple" "str" = some false by decide +kernel)
  | dict _ => exact kit_ty (show kitB "dict" "str" = some false by decide +kernel)
theorem kit_tup {K : PySem.W.Frag} (d : PyData) : PySem.W.kitOne K (.type (tyName d)) (.type "tuple") = some (isTup d) := by
  cases d with
  | none => exact kit_ty (show kitB "NoneType" "tuple" = some false by decide +kernel)
  | bool _ => exact kit_ty (show kitB "bool" "tuple" = some false by decide +kernel)
  | int _ => exact kit_ty (show kitB "int" "tuple" = some false by decide +kernel)
  | str _ => exact kit_ty (show kitB "str" "tuple" = some false by decide +kernel)
  | list _ => exact kit_ty (show kitB "list" "tuple" = some false by decide +kernel)
  | tuple _ => exact kit_ty (show kitB "tuple" "tuple" = some true by decide +kernel)
  | dict _ => exact kit_ty (show kitB "dict" "tuple" = some false by decide +kernel)
end
end L3

/-! names, wholes, texts among values of any kind -/
namespace L3
open PySem L2
theorem szl {n : Nat} (h : n ≤ 1000000) : n < sizeLine := Nat.lt_of_le_of_lt h (by decide)
structure Bl9 (mg : Str → Option Value) : Prop where
  isinstance : mg "isinstance" = none
  all : mg "all" = none
  str_ : mg "str" = none
  tuple : mg "tuple" = none
  bool : mg "bool" = none
  int : mg "int" = none
  ord : mg "ord" = none
  abs : mg "abs" = none
  max : mg "max" = none
def barL : List Str := ["data", "role", "case", "define", "derive", "picks", "above", "settles", "member", "as", "if", "given", "let", "and", "in", "match", "end"]
theorem pe_gc {X : Cx} {x : Str} {v : V} {pos : Pos} (hg : Gl X x) (h : ∃ u, X.mg x = some u ∧ RelV v u) (hd : (x == ("__debug__" : Str)) = false := by decide) : PE X (.Name x pos) (tC v) := by
  obtain ⟨u, e, r⟩ := h
  exact pe_glob hg e r hd
/-- a sign from a to z -/
def lo (c : Nat) : Bool := decide (97 ≤ c) && decide (c ≤ 122)
/-- 1 to 8 letters -/
def wok (x : Str) : Bool := decide (1 ≤ x.length) && decide (x.length ≤ 8) && x.cps.all lo
def isWordD : PyData → Bool
  | .str x => wok x
  | _ => false
def isNameD : PyData → Bool
  | .str x => wok x && !decide (x ∈ barL)
  | _ => false
def isIntD : PyData → Bool
  | .int _ => true
  | _ => false
def isWholeD : PyData → Bool
  | .int i => decide (-(10 ^ 30) ≤ i) && decide (i ≤ 10 ^ 30)
  | _ => false
/-- a sign that a text may have -/
def sgnT (c : Nat) : Bool := decide (32 ≤ c) && decide (c ≤ 126) && !decide (c = 37)
def isTextD : PyData → Bool
  | .str x => decide (x.length ≤ 200) && x.cps.all sgnT
  | _ => false
theorem lo_tab : ∀ c, c < 128 → (Unicode.isAlpha c && Unicode.isUpper c) = (decide (65 ≤ c) && decide (c ≤ 90)) ∧ Unicode.isAlpha c = (decide (65 ≤ c) && decide (c ≤ 90) || lo c) ∧ Unicode.isLower c = lo c ∧ (Unicode.isUpper c || Unicode.isTitle c) = (decide (65 ≤ c) && decide (c ≤ 90)) := by decide +kernel
theorem asc_low {x : Str} (h1 : 1 ≤ x.length) : (Txt.isascii x && (Txt.isalpha x && Txt.islower x)) = x.cps.all lo := by
  have hl : ∀ p : Nat → Bool, x.cps.all p = x.cps.toList.all p := fun p => (Array.all_toList).symm
  have hn : ∀ p : Nat → Bool, x.cps.any p = x.cps.toList.any p := fun p => (Array.any_toList).symm
  unfold Txt.isascii Txt.isalpha Txt.islower
  have e1 : decide (x.length > 0) = true := decide_eq_true h1
  rw [e1, hl, hl, hl, hn, hn]
  have h1 : 0 < x.cps.toList.length := by
    rw [Array.length_toList]
    exact h1
  generalize x.cps.toList = l at h1 ⊢
  rw [Bool.eq_iff_iff]
  simp only [Bool.true_and, Bool.and_eq_true, List.all_eq_true, List.any_eq_true, Bool.not_eq_true', List.any_eq_false, decide_eq_true_eq]
  constructor
  · rintro ⟨ha, hb, _, hc⟩ c m
    obtain ⟨_, t2, _, t4⟩ := lo_tab c (ha c m)
    have b := hb c m
    have u := hc c m
    rw [t4] at u
    rw [t2, Bool.or_eq_true] at b
    rcases b with b | b
    · exact absurd b u
    · exact b
  · intro h
    have small : ∀ c ∈ l, c < 128 := fun c m => by
      have := h c m
      unfold lo at this
      simp only [Bool.and_eq_true, decide_eq_true_eq] at this
      omega
    refine ⟨small, fun c m => ?_, ?_, fun c m => ?_⟩
    · rw [(lo_tab c (small c m)).2.1, h c m, Bool.or_true]
    · obtain ⟨c, m⟩ := List.exists_mem_of_length_pos h1
      exact ⟨c, m, by rw [(lo_tab c (small c m)).2.2.1]; exact h c m⟩
    · rw [(lo_tab c (small c m)).2.2.2]
      have := h c m
      unfold lo at this
      simp only [Bool.and_eq_true, decide_eq_true_eq] at this ⊢
      omega
end L3

/-! a tuple of anything beside a tuple of one text -/
namespace L3
open PySem PySem.Spec PyProof.Rows L2
open PySem.SeqAt
theorem eqAt_rc {A : Around} {s : Shared} {v : Value} {z : Str} {tk : Tok} {b : Bool} (hf : ∀ x y, v ≠ .float x y) (h : RcAt A s v (.str z tk) b) (e : v = .str z tk → b = true) : EqAt A s v (.str z tk) b := fun prog w E Q hq => by
  by_cases c : v = .str z tk
  · have eb := e c
    subst c eb
    exact EqAt.same _ prog w E Q hq
  · unfold eqBool
    refine wpAny_holding ?_
    refine wpAny_ite_split (fun hab => absurd (eq_of_beq hab) c) (fun _ => ?_)
    cases v with
    | float x y => exact absurd rfl (hf x y)
    | _ => exact wpAny_bind (h prog w E _ (wpAny_truthy_bool hq))
section
variable {X : Cx} {pins : List (Addr × Obj)} {σ : L2.St} {H : Hp} {s : Shared}
theorem rc_any_str {t : Addr} {A : Around} (I : Inv X pins σ H s) (hu' : A.units < cLine) {d : PyData} {x : V} {v : Value} {z : Str} {tk : Tok} (hd : Da t H x d) (rx : RelV x v) : RcAt A s v (.str z tk) (isS z d) ∧ (v = .str z tk → isS z d = true) ∧ (∀ x y, v ≠ .float x y) := by
  cases d with
  | none =>
    cases hd
    cases (show v = Value.none from rx)
    exact ⟨RcAt.none_str z tk, nofun, nofun⟩
  | bool b =>
    cases hd
    cases (show v = Value.bool b from rx)
    exact ⟨RcAt.bool_str b z tk, nofun, nofun⟩
  | int i =>
    cases hd
    obtain ⟨k, rfl⟩ := (show ∃ k, v = Value.int i k from rx)
    exact ⟨RcAt.int_str i k z tk, nofun, nofun⟩
  | str y =>
    cases hd
    obtain ⟨k, rfl⟩ := (show ∃ k, v = Value.str y k from rx)
    have e : isS z (.str y) = (y == z) := by
      show decide (y = z) = (y == z)
      rw [Bool.eq_iff_iff, decide_eq_true_eq, beq_iff_eq]
    rw [e]
    refine ⟨RcAt.str_str y k z tk, fun h => ?_, nofun⟩
    injection h with h _
    rw [h]
    exact beq_self_eq_true z
  | list ds =>
    cases hd with
    | @lst a xs _ hs ns ha =>
      obtain rfl : v = Value.ref a := rx
      obtain ⟨its, rv, ⟨o, n, ho, hc, _, hd⟩, _⟩ := I.list (SqL.of hs)
      exact ⟨RcAt.list_str z tk ⟨o, ho, hc, n, hd⟩ hu', nofun, nofun⟩
  | tuple ds =>
    cases hd with
    | @tup a xs _ hs ha =>
      obtain rfl : v = Value.ref a := rx
      obtain ⟨its, rv, ⟨o, ho, hc, n, hd⟩, _⟩ := I.tuple (SqT.of hs)
      exact ⟨RcAt.tuple_str z tk ⟨o, ho, hc, n, hd⟩ hu', nofun, nofun⟩
  | dict ds =>
    cases hd with
    | @dct a kvs _ hs na ha =>
      obtain rfl : v = Value.ref a := rx
      obtain ⟨_, lo, vs, ra, da⟩ := (show ObjOk X.prog X.w H s.heap a (.dK kvs) from I.hok a _ hs)
      obtain ⟨ep, o, es, ho, hx, hdat, _, pr, _⟩ := da.dictAt
      exact ⟨rc_dict_str z tk ho hx.1 hdat hu', nofun, nofun⟩
/-- one value, this text -/
def isOne (z : Str) : List PyData → Bool
  | [d] => isS z d
  | _ => false
def rEqOne (t : Addr) : R2 := fun x y H Q => ∃ (a b : Addr) (ds : List PyData) (z : Str), x = .ref a ∧ y = .ref b ∧ Da t H (.ref a) (.tuple ds) ∧ H b = some (.tup [.str z]) ∧ Q (.bl (isOne z ds)) H
theorem op_eqOne {t : Addr} (hu : X.A.units + 64 < cLine) : OpR X (compareOp .Eq) (rEqOne t) := by
  intro pins s σ H x y v u Q I rx ry h
  obtain ⟨a, b, ds, z, rfl, rfl, hd, hb, q⟩ := h
  obtain rfl : v = Value.ref a := rx
  obtain rfl : u = Value.ref b := ry
  cases hd with
  | @tup _ xs _ ha da =>
    obtain ⟨its, rv, ⟨o, ho, hc, n, hd⟩, _⟩ := I.tuple (SqT.of ha)
    obtain ⟨its2, rv2, ⟨o2, ho2, hc2, n2, hd2⟩, _⟩ := I.tuple (SqT.of hb)
    obtain ⟨u2, rfl, r2⟩ := vals1 rv2
    obtain ⟨tk, rfl⟩ := (show ∃ k, u2 = Value.str z k from r2)
    have fin : ∀ b : Bool, b = isOne z ds → EP X pins σ Q (.bool b) s := fun b e => ⟨.bl b, H, I, rfl, by rw [e]; exact q⟩
    cases da with
    | nil =>
      cases rv
      exact RcAt.tuples (e := fun _ => true) ⟨o, ho, hc, n, hd⟩ ⟨o2, ho2, hc2, n2, hd2⟩ (by omega) (fun j h1 h2 => absurd h1 (by simp)) _ _ _ _ (fin _ rfl)
    | @cons v1 vs1 d ds' q1 t1 =>
      cases rv with
      | @cons _ u1 _ us1 r1 rr =>
        obtain ⟨c1, c2, c3⟩ := rc_any_str (A := X.A.in1) (z := z) (tk := tk) I (by show X.A.units + 1 < cLine; omega) q1 r1
        refine RcAt.tuples (e := fun _ => isS z d) ⟨o, ho, hc, n, hd⟩ ⟨o2, ho2, hc2, n2, hd2⟩ (by omega) (fun j h1 h2 => ?_) _ _ _ _ (fin _ ?_)
        · obtain rfl : j = 0 := by
            have : j < 1 := h2
            omega
          exact eqAt_rc c3 c1 c2
        · have l1 := t1.len
          have l2 := rr.length
          cases t1 with
          | nil =>
            cases rr
            show (isS z d && true && true) = isS z d
            simp
          | cons _ _ =>
            cases rr
            show (_ && _) = false
            simp
end
end L3

namespace L3
open PySem L2
structure Mn (K : PySem.W.Frag) (w : World) (mg : Str → Option Value) (bA : Addr) (es : Array DictEntry) (nb : Nat) : Prop where
  LONGEST : ∃ u, mg "LONGEST" = some u ∧ RelV (.int 8) u
  BARRED : ∃ u, mg "BARRED" = some u ∧ RelV (.ref bA) u
  kd : KDict K w bA es nb
  has : ∀ z : Str, ∃ r, PySem.W.nsIn K bA z = some r ∧ r.isSome = decide (z ∈ barL)
  BOUND : ∃ u, mg "BOUND" = some u ∧ RelV (.int (10 ^ 30)) u
  LONGEST_TEXT : ∃ u, mg "LONGEST_TEXT" = some u ∧ RelV (.int 200) u
  set : mg "set" = none
section
variable {P : Program} {w : World} {K : PySem.W.Frag} {mg : Str → Option Value} {base : Heap} {bA : Addr} {es : Array DictEntry} {nb : Nat}
abbrev s_is_word : Stmt := topS 10
abbrev N_is_word : List Str := ["value"]
theorem sc_is_word : FnScope N_is_word ["value"] (defScope s_is_word) := ⟨rfl, rfl, rfl, by decide +kernel, rfl, by decide +kernel, by decide +kernel⟩
def spWord : Sp := fun vs H Q _ => ∃ (t : Addr) (v : V) (d : PyData), vs = [v] ∧ Da t H v d ∧ (∀ x, d = .str x → x.length ≤ 1000) ∧ Q (.bl (isWordD d)) H
theorem ok_word {f : Addr} {fd : FuncData} (F : Fun K "is_word" "is_word" s_is_word f fd) (B : Bl mg) (B9 : Bl9 mg) (M : Mn K w mg bA es nb) : FnOk P w K mg base CX0 1 f fd ["value"] spWord := by
  refine F.ok sc_is_word (fun vs H Q E h => ?_) (fun cdv A outer s H vs Q E hr h => ?_)
  · obtain ⟨t, v, d, rfl, _⟩ := h
    rfl
  · obtain ⟨t, v, d, rfl, hd, hx, k⟩ := h
    refine ⟨_, (pss_cons (ps_if (PW.pt (pw_or (pt_not (pt_val (pe_callB call_isi (by rfl) B9.isinstance PyProof.Rows.boot_isinstance (pa_cons (pv 0) (pa_cons (pe_bltn (v := .ty "str") (by rfl) B9.str_ (by decide +kernel) rfl) pa_nil))))) (pw_or1 (pt_not (pt_chain op_le op_le pe_int (pe_callB call_len (by rfl) B.len PySem.boot_len (pa_cons (pv 0) pa_nil)) (pe_gc (by rfl) M.LONGEST))))))
  (pss_one (ps_ret pe_bl))
  pss_nil)
  (pss_one (ps_ret (pe_and (pe_bm0 PySem.F.plainAttrs_str PySem.F.slot_str_isascii PySem.F.type_str_isascii mt_isascii (pv 0)) (pe_and (pe_bm0 PySem.F.plainAttrs_str PySem.F.slot_str_isalpha PySem.F.type_str_isalpha mt_isalpha (pv 0)) (pe_one (pe_bm0 PySem.F.plainAttrs_str PySem.F.slot_str_islower PySem.F.type_str_islower mt_islower (pv 0)))))))), ?_⟩
    refine ⟨_, rfl, v, .ty "str", .type (tyName d), .type "str", isStr d, rfl, .ty "str", hd.ty, kit_str d, _, rfl, ?_⟩
    cases hs : isStr d with
    | false =>
      have e : isWordD d = false := by cases d <;> first | rfl | cases hs
      rw [e] at k
      refine iT rfl ?_
      exact iT rfl k
    | true =>
      obtain ⟨x, rfl⟩ : ∃ x, d = .str x := by
        cases d with
        | str x => exact ⟨x, rfl⟩
        | _ => cases hs
      cases hd
      have lx := hx x rfl
      refine iF rfl ?_
      refine ⟨_, rfl, .str x, x.length, rfl, ⟨by rw [sizeLine_eq]; omega, rfl⟩, _, _, rfl, rfl, _, rfl, ?_⟩
      by_cases h1 : (1 : Int) ≤ (x.length : Int)
      · refine iT (decide_eq_true h1) ?_
        refine ⟨_, _, rfl, rfl, _, rfl, ?_⟩
        by_cases h2 : (x.length : Int) ≤ 8
        · refine iF (by rw [decide_eq_true h2]; rfl) ?_
          have ew : isWordD (.str x) = (Txt.isascii x && (Txt.isalpha x && Txt.islower x)) := by
            rw [asc_low (by omega)]
            show wok x = _
            unfold wok
            rw [decide_eq_true (by omega : 1 ≤ x.length), decide_eq_true (by omega : x.length ≤ 8)]
            rfl
          rw [ew] at k
          refine ⟨_, rfl, rfl, x, rfl, rfl, trivial, _, rfl, ?_⟩
          cases h3 : Txt.isascii x with
          | false =>
            rw [h3] at k
            exact iF rfl k
          | true =>
            rw [h3] at k
            refine iT rfl ?_
            refine ⟨_, rfl, rfl, x, rfl, rfl, trivial, _, rfl, ?_⟩
            cases h4 : Txt.isalpha x with
            | false =>
              rw [h4] at k
              exact iF rfl k
            | true =>
              rw [h4] at k
              refine iT rfl ?_
              exact ⟨_, rfl, rfl, x, rfl, rfl, trivial, k⟩
        · refine iT (by rw [decide_eq_false h2]; rfl) ?_
          have e : isWordD (.str x) = false := by
            show wok x = false
            unfold wok
            rw [decide_eq_false (by omega : ¬ x.length ≤ 8)]
            simp
          rw [e] at k
          exact k
      · refine iF (decide_eq_false h1) ?_
        have e : isWordD (.str x) = false := by
          show wok x = false
          unfold wok
          rw [decide_eq_false (by omega : ¬ 1 ≤ x.length)]
          rfl
        rw [e] at k
        exact ⟨_, rfl, iT rfl k⟩
/-! ### names -/
abbrev s_is_name : Stmt := topS 11
abbrev N_is_name : List Str := ["value"]
theorem sc_is_name : FnScope N_is_name ["value"] (defScope s_is_name) := ⟨rfl, rfl, rfl, by decide +kernel, rfl, by decide +kernel, by decide +kernel⟩
def spName : Sp := fun vs H Q _ => ∃ (t : Addr) (v : V) (d : PyData), vs = [v] ∧ Da t H v d ∧ (∀ x, d = .str x → x.length ≤ 1000) ∧ Q (.bl (isNameD d)) H
theorem ok_name {f : Addr} {fd : FuncData} (F : Fun K "is_name" "is_name" s_is_name f fd) (M : Mn K w mg bA es nb) (D_is_word : Kn P w K mg base 1 "is_word" ["value"] spWord) : FnOk P w K mg base CX0 2 f fd ["value"] spName := by
  refine F.ok sc_is_name (fun vs H Q E h => ?_) (fun cdv A outer s H vs Q E hr h => ?_)
  · obtain ⟨t, v, d, rfl, _⟩ := h
    rfl
  · obtain ⟨t, v, d, rfl, hd, hx, k⟩ := h
    have hr_is_word : Room 1 _ := hr
    refine ⟨_, (pss_one (ps_ret (pe_and (pe_kn D_is_word hr_is_word (pa_cons (pv 0) pa_nil)) (pe_one (pe_cmpR (op_notIn_kd M.kd) (pv 0) (pe_gc (by rfl) M.BARRED) (by rfl)))))), ?_⟩
    refine ⟨_, rfl, t, v, d, rfl, hd, hx, ?_⟩
    refine ⟨_, rfl, ?_⟩
    cases hw : isWordD d with
    | false =>
      have e : isNameD d = false := by
        cases d with
        | str x =>
          have hw' : wok x = false := hw
          show (wok x && _) = false
          rw [hw']
          rfl
        | _ => rfl
      rw [e] at k
      exact iF rfl k
    | true =>
      obtain ⟨x, rfl⟩ : ∃ x, d = .str x := by
        cases d with
        | str x => exact ⟨x, rfl⟩
        | _ => cases hw
      cases hd
      refine iT rfl ?_
      obtain ⟨r, er, hr2⟩ := M.has x
      refine ⟨_, rfl, x, r, rfl, rfl, er, ?_⟩
      have hw' : wok x = true := hw
      have e : isNameD (.str x) = !r.isSome := by
        show (wok x && _) = _
        rw [hw', hr2]
        rfl
      rw [e] at k
      exact k
/-! ### integers, wholes -/
def isBoolD : PyData → Bool
  | .bool _ => true
  | _ => false
theorem kit_int {K : PySem.W.Frag} (d : PyData) : PySem.W.kitOne K (.type (tyName d)) (.type "int") = some (isIntD d || isBoolD d) := by
  cases d with
  | none => exact kit_ty (show kitB "NoneType" "int" = some false by decide +kernel)
  | bool _ => exact kit_ty (show kitB "bool" "int" = some true by decide +kernel)
  | int _ => exact kit_ty (show kitB "int" "int" = some true by decide +kernel)
  | str _ => exact kit_ty (show kitB "str" "int" = some false by decide +kernel)
  | list _ => exact kit_ty (show kitB "list" "int" = some false by decide +kernel)
  | tuple _ => exact kit_ty (show kitB "tuple" "int" = some false by decide +kernel)
  | dict _ => exact kit_ty (show kitB "dict" "int" = some false by decide +kernel)
theorem kit_bool {K : PySem.W.Frag} (d : PyData) : PySem.W.kitOne K (.type (tyName d)) (.type "bool") = some (isBoolD d) := by
  cases d with
  | none => exact kit_ty (show kitB "NoneType" "bool" = some false by decide +kernel)
  | bool _ => exact kit_ty (show kitB "bool" "bool" = some true by decide +kernel)
  | int _ => exact kit_ty (show kitB "int" "bool" = some false by decide +kernel)
  | str _ => exact kit_ty (show kitB "str" "bool" = some false by decide +kernel)
  | list _ => exact kit_ty (show kitB "list" "bool" = some false by decide +kernel)
  | tuple _ => exact kit_ty (show kitB "tuple" "bool" = some false by decide +kernel)
  | dict _ => exact kit_ty (show kitB "dict" "bool" = some false by decide +kernel)
abbrev s_is_integer : Stmt := topS 12
abbrev N_is_integer : List Str := ["value"]
theorem sc_is_integer : FnScope N_is_integer ["value"] (defScope s_is_integer) := ⟨rfl, rfl, rfl, by decide +kernel, rfl, by decide +kernel, by decide +kernel⟩
def spInt : Sp := fun vs H Q _ => ∃ (t : Addr) (v : V) (d : PyData), vs = [v] ∧ Da t H v d ∧ Q (.bl (isIntD d)) H
theorem ok_int {f : Addr} {fd : FuncData} (F : Fun K "is_integer" "is_integer" s_is_integer f fd) (B9 : Bl9 mg) : FnOk P w K mg base CX0 1 f fd ["value"] spInt := by
  refine F.ok sc_is_integer (fun vs H Q E h => ?_) (fun cdv A outer s H vs Q E hr h => ?_)
  · obtain ⟨t, v, d, rfl, _⟩ := h
    rfl
  · obtain ⟨t, v, d, rfl, hd, k⟩ := h
    refine ⟨_, (pss_one (ps_ret (pe_and (pe_callB call_isi (by rfl) B9.isinstance PyProof.Rows.boot_isinstance (pa_cons (pv 0) (pa_cons (pe_bltn (v := .ty "int") (by rfl) B9.int (by decide +kernel) rfl) pa_nil))) (pe_one (pe_not (pe_callB call_isi (by rfl) B9.isinstance PyProof.Rows.boot_isinstance (pa_cons (pv 0) (pa_cons (pe_bltn (v := .ty "bool") (by rfl) B9.bool (by decide +kernel) rfl) pa_nil)))))))), ?_⟩
    refine ⟨_, rfl, v, .ty "int", .type (tyName d), .type "int", _, rfl, .ty "int", hd.ty, kit_int d, _, rfl, ?_⟩
    cases hi : (isIntD d || isBoolD d) with
    | false =>
      have e : isIntD d = false := (Bool.or_eq_false_iff.mp hi).1
      rw [e] at k
      exact iF rfl k
    | true =>
      refine iT rfl ?_
      refine ⟨_, rfl, v, .ty "bool", .type (tyName d), .type "bool", isBoolD d, rfl, .ty "bool", hd.ty, kit_bool d, _, rfl, ?_⟩
      have e : isIntD d = !isBoolD d := by cases d <;> first | rfl | cases hi
      rw [e] at k
      exact k
abbrev s_is_whole : Stmt := topS 56
abbrev N_is_whole : List Str := ["value"]
theorem sc_is_whole : FnScope N_is_whole ["value"] (defScope s_is_whole) := ⟨rfl, rfl, rfl, by decide +kernel, rfl, by decide +kernel, by decide +kernel⟩
def spWhole : Sp := fun vs H Q _ => ∃ (t : Addr) (v : V) (d : PyData), vs = [v] ∧ Da t H v d ∧ Q (.bl (isWholeD d)) H
theorem ok_whole {f : Addr} {fd : FuncData} (F : Fun K "is_whole" "is_whole" s_is_whole f fd) (M : Mn K w mg bA es nb) (D_is_integer : Kn P w K mg base 1 "is_integer" ["value"] spInt) : FnOk P w K mg base CX0 2 f fd ["value"] spWhole := by
  refine F.ok sc_is_whole (fun vs H Q E h => ?_) (fun cdv A outer s H vs Q E hr h => ?_)
  · obtain ⟨t, v, d, rfl, _⟩ := h
    rfl
  · obtain ⟨t, v, d, rfl, hd, k⟩ := h
    have hr_is_integer : Room 1 _ := hr
    refine ⟨_, (pss_one (ps_ret (pe_and (pe_kn D_is_integer hr_is_integer (pa_cons (pv 0) pa_nil)) (pe_one (pe_chain op_le op_le (pe_un un_neg (pe_gc (by rfl) M.BOUND)) (pv 0) (pe_gc (by rfl) M.BOUND)))))), ?_⟩
    refine ⟨_, rfl, t, v, d, rfl, hd, ?_⟩
    refine ⟨_, rfl, ?_⟩
    cases hi : isIntD d with
    | false =>
      have e : isWholeD d = false := by cases d <;> first | rfl | cases hi
      rw [e] at k
      exact iF rfl k
    | true =>
      obtain ⟨i, rfl⟩ : ∃ i, d = .int i := by
        cases d with
        | int i => exact ⟨i, rfl⟩
        | _ => cases hi
      cases hd
      refine iT rfl ?_
      have e : isWholeD (.int i) = (decide (-(10 ^ 30) ≤ i) && decide (i ≤ 10 ^ 30)) := rfl
      rw [e] at k
      refine ⟨_, rfl, _, rfl, _, _, rfl, rfl, _, rfl, ?_⟩
      by_cases h1 : (-(10 ^ 30) : Int) ≤ i
      · rw [decide_eq_true h1] at k
        refine iT (decide_eq_true h1) ?_
        exact ⟨_, _, rfl, rfl, k⟩
      · rw [decide_eq_false h1] at k
        exact iF (decide_eq_false h1) k
abbrev s_is_text : Stmt := topS 57
abbrev N_is_text : List Str := ["value", "sign"]
theorem sc_is_text : FnScope N_is_text ["value"] (defScope s_is_text) := ⟨rfl, rfl, rfl, by decide +kernel, rfl, by decide +kernel, by decide +kernel⟩
def spText : Sp := fun vs H Q _ => ∃ (t : Addr) (v : V) (d : PyData), vs = [v] ∧ Da t H v d ∧ (∀ x, d = .str x → x.length ≤ 1000) ∧ ∀ H', Same H H' → Q (.bl (isTextD d)) H'
theorem ok_text {f : Addr} {fd : FuncData} (F : Fun K "is_text" "is_text" s_is_text f fd) (B : Bl mg) (B9 : Bl9 mg) (M : Mn K w mg bA es nb) : FnOk P w K mg base CX0 1 f fd ["value"] spText := by
  refine F.ok sc_is_text (fun vs H Q E h => ?_) (fun cdv A outer s H vs Q E hr h => ?_)
  · obtain ⟨t, v, d, rfl, _⟩ := h
    rfl
  · obtain ⟨t, v, d, rfl, hd, hx, k⟩ := h
    refine ⟨_, (pss_cons (ps_if (PW.pt (pw_or (pt_not (pt_val (pe_callB call_isi (by rfl) B9.isinstance PyProof.Rows.boot_isinstance (pa_cons (pv 0) (pa_cons (pe_bltn (v := .ty "str") (by rfl) B9.str_ (by decide +kernel) rfl) pa_nil))))) (pw_or1 (pt_cmpR op_gt (pe_callB call_len (by rfl) B.len PySem.boot_len (pa_cons (pv 0) pa_nil)) (pe_gc (by rfl) M.LONGEST_TEXT) (nomark _)))))
  (pss_one (ps_ret pe_bl))
  pss_nil)
  (pss_one (ps_ret (pe_callB (cr_all rfl) (by rfl) B9.all (by decide +kernel) (pa_cons (pe_lc (own := [("sign", 1)]) rfl sc_is_text.nd (pi_str (pv 0)) (blkOk_by (N := N_is_text) (sc := (defScope s_is_text)) (own := [("sign", 1)]) (by decide +kernel)) (fun _ _ _ _ _ => (pg_name (i := 1) sc_is_text.nd rfl (Or.inl rfl))) (fun _ _ _ _ _ => pts_nil) (fun _ _ _ _ _ => (pe_and (pe_chain op_le op_le pe_int (pe_callB call_ord (by rfl) B9.ord PyProof.Rows.boot_ord (pa_cons (pv 1) pa_nil)) pe_int) (pe_one (pe_cmpR op_ne (pe_callB call_ord (by rfl) B9.ord PyProof.Rows.boot_ord (pa_cons (pv 1) pa_nil)) pe_int (nomark _)))))) pa_nil))))), ?_⟩
    refine ⟨_, rfl, v, .ty "str", .type (tyName d), .type "str", isStr d, rfl, .ty "str", hd.ty, kit_str d, _, rfl, ?_⟩
    cases hs : isStr d with
    | false =>
      have e : isTextD d = false := by cases d <;> first | rfl | cases hs
      rw [e] at k
      refine iT rfl ?_
      exact iT rfl (k H (Same.refl H))
    | true =>
      obtain ⟨x, rfl⟩ : ∃ x, d = .str x := by
        cases d with
        | str x => exact ⟨x, rfl⟩
        | _ => cases hs
      cases hd
      have lx := hx x rfl
      refine iF rfl ?_
      refine ⟨_, rfl, .str x, x.length, rfl, ⟨by rw [sizeLine_eq]; omega, rfl⟩, _, _, rfl, rfl, ?_⟩
      refine ⟨_, rfl, ?_⟩
      by_cases h1 : (x.length : Int) > 200
      · refine iT (decide_eq_true h1) ?_
        have e : isTextD (.str x) = false := by
          show (decide (x.length ≤ 200) && _) = false
          rw [decide_eq_false (by omega)]
          rfl
        rw [e] at k
        exact k H (Same.refl H)
      · refine iF (decide_eq_false h1) ?_
        have e : isTextD (.str x) = x.cps.toList.all sgnT := by
          show (decide (x.length ≤ 200) && _) = _
          rw [decide_eq_true (by omega), ← Array.all_toList]
          rfl
        rw [e] at k
        refine ⟨_, rfl, x, rfl, fun D hD => lc_it walk_str (fun i H' => Same H H' ∧ H' D = some (.lst (((x.cps.toList.take i).map sgnT).map V.bl))) ⟨same_new hD, upd_same⟩ (fun i H' _ _ => trivial) ?_ ?_⟩
        · rintro i y H1 H2 hi ⟨s1, g1⟩ ⟨rfl, c, ec, rfl⟩
          refine ⟨rfl, ?_⟩
          have ec' : x.cps.toList[i]? = some c := by simpa using ec
          have hi' : i < x.length := hi
          have fin : ∀ b : Bool, b = sgnT c → ∃ acc, H2 D = some (.lst acc) ∧ acc.length < sizeLine ∧ Same H (upd H2 D (.lst (acc ++ [V.bl b]))) ∧ upd H2 D (.lst (acc ++ [V.bl b])) D = some (.lst (((x.cps.toList.take (i + 1)).map sgnT).map V.bl)) := fun b eb => by
            refine ⟨_, g1, szl (by simp; omega), fun b o e => ?_, ?_⟩
            · rw [upd_ne (ne_of_none e hD)]
              exact s1 _ _ e
            · rw [upd_same, List.take_add_one, ec', eb]
              simp
          refine ⟨_, rfl, ⟨#[c]⟩, rfl, rfl, _, _, rfl, rfl, _, rfl, ?_⟩
          show if decide ((32 : Int) ≤ (c : Int)) = true then _ else _
          by_cases q1 : 32 ≤ c
          · refine iT (decide_eq_true (by omega)) ?_
            refine ⟨_, _, rfl, rfl, _, rfl, ?_⟩
            show if decide ((c : Int) ≤ 126) = true then _ else _
            by_cases q2 : c ≤ 126
            · refine iT (decide_eq_true (by omega)) ?_
              refine ⟨_, rfl, ⟨#[c]⟩, rfl, rfl, rfl, ?_⟩
              refine fin _ ?_
              unfold sgnT
              rw [decide_eq_true q1, decide_eq_true q2]
              show (!decide (V.int (c : Int) = V.int 37)) = _
              by_cases q3 : c = 37
              · rw [decide_eq_true q3, decide_eq_true (by rw [q3]; rfl)]
                rfl
              · rw [decide_eq_false q3, decide_eq_false (fun z => q3 (by injection z with z; omega))]
                rfl
            · refine iF (decide_eq_false (by omega)) ?_
              refine fin _ ?_
              unfold sgnT
              rw [decide_eq_false q2]
              simp
          · refine iF (decide_eq_false (by omega)) ?_
            refine ⟨_, rfl, iF rfl (fin _ ?_)⟩
            unfold sgnT
            rw [decide_eq_false q1]
            simp
        · rintro H1 ⟨s1, g1⟩
          rw [List.take_of_length_le (by simp)] at g1
          refine ⟨D, _, rfl, SqL.of g1, ?_⟩
          have ew : (x.cps.toList.map sgnT).all id = x.cps.toList.all sgnT := by
            rw [List.all_map]
            rfl
          rw [ew]
          exact k H1 s1
end
end L3

/-! values: what stands within, how many parts, how deep -/
namespace L3
open PySem L2
--PURE
/-- what stands within a value; none for what is none -/
def innerD : PyData → Option (List PyData)
  | .tuple [m, n, .tuple ds] => if isS "made" m && isNameD n then some ds else none
  | .tuple [a, b] => if (isS "whole" a && isWholeD b) || (isS "text" a && isTextD b) then some [] else none
  | .tuple [a] => if isS "function" a then some [] else none
  | _ => none
mutual
/-- parts and depth -/
def meas : PyData → Option (Nat × Nat)
  | .tuple ds => measT ds
  | _ => none
def measT : List PyData → Option (Nat × Nat)
  | [a] => if isS "function" a then some (1, 1) else none
  | [a, b] => if (isS "whole" a && isWholeD b) || (isS "text" a && isTextD b) then some (1, 1) else none
  | [m, n, e] => if isS "made" m && isNameD n then (measE e).map fun p => (1 + p.1, 1 + p.2) else none
  | _ => none
def measE : PyData → Option (Nat × Nat)
  | .tuple ds => measL ds
  | _ => none
/-- parts together, the deepest -/
def measL : List PyData → Option (Nat × Nat)
  | [] => some (0, 0)
  | d :: ds => match meas d, measL ds with
    | some p, some q => some (p.1 + q.1, max p.2 q.2)
    | _, _ => none
end
theorem meas_inner : ∀ (d : PyData), meas d = (innerD d).bind fun ds => (measL ds).map fun p => (1 + p.1, 1 + p.2)
  | .tuple [m, n, .tuple ds] => by
    simp only [meas, measT, measE, innerD]
    split <;> rfl
  | .tuple [a, b] => by
    simp only [meas, measT, innerD]
    split <;> simp [measL]
  | .tuple [a] => by
    simp only [meas, measT, innerD]
    split <;> simp [measL]
  | .tuple [m, n, .none] | .tuple [m, n, .bool _] | .tuple [m, n, .int _] | .tuple [m, n, .str _] | .tuple [m, n, .list _] | .tuple [m, n, .dict _] => by
    simp only [meas, measT, measE, innerD, Option.map_none, ite_self, Option.bind_none]
  | .tuple [] => by simp only [meas, measT, innerD, Option.bind_none]
  | .tuple (_ :: _ :: _ :: _ :: _) => by simp only [meas, measT, innerD, Option.bind_none]
  | .none => by simp only [meas, innerD, Option.bind_none]
  | .bool _ => by simp only [meas, innerD, Option.bind_none]
  | .int _ => by simp only [meas, innerD, Option.bind_none]
  | .str _ => by simp only [meas, innerD, Option.bind_none]
  | .list _ => by simp only [meas, innerD, Option.bind_none]
  | .dict _ => by simp only [meas, innerD, Option.bind_none]
theorem meas_low {d : PyData} {p : Nat × Nat} (h : meas d = some p) : 1 ≤ p.1 ∧ 1 ≤ p.2 := by
  rw [meas_inner] at h
  cases hi : innerD d with
  | none => rw [hi] at h; cases h
  | some ds =>
    rw [hi] at h
    have h : (measL ds).map (fun p => (1 + p.1, 1 + p.2)) = some p := h
    cases hm : measL ds with
    | none => rw [hm] at h; cases h
    | some q =>
      rw [hm] at h
      have h := Option.some.inj h
      rw [← h]
      exact ⟨by show 1 ≤ 1 + _; omega, by show 1 ≤ 1 + _; omega⟩
/-- all are values, none reaches below 101; how many parts -/
def sumM : List (PyData × Nat) → Option Nat
  | [] => some 0
  | (d, n) :: ps => match meas d, sumM ps with
    | some p, some s => if n + p.2 ≤ 101 then some (p.1 + s) else none
    | _, _ => none
theorem sumM_app : ∀ (a b : List (PyData × Nat)), sumM (a ++ b) = (sumM a).bind fun s => (sumM b).map fun r => s + r
  | [], b => by simp [sumM]
  | (d, n) :: a, b => by
    rw [List.cons_append]
    simp only [sumM, sumM_app a b]
    cases meas d with
    | none => rfl
    | some p =>
      cases sumM a with
      | none => rfl
      | some s =>
        cases sumM b with
        | none => simp
        | some r =>
          simp
          split
          · simp; omega
          · simp
/-- whether the stack comes to a good end -/
def chk (ps : List (PyData × Nat)) (many : Nat) : Bool := match sumM ps with
  | some s => decide (many + s ≤ 1000)
  | none => false
theorem sumM_inner {n : Nat} : ∀ (ds : List PyData), sumM (ds.map fun d => (d, n + 1)) = match measL ds with
    | some p => if p.2 = 0 ∨ n + 1 + p.2 ≤ 101 then some p.1 else none
    | none => none
  | [] => by simp [sumM, measL]
  | d :: ds => by
    simp only [List.map_cons, sumM, measL, sumM_inner ds]
    cases hm : meas d with
    | none => rfl
    | some p =>
      have hl := meas_low hm
      cases hq : measL ds with
      | none => rfl
      | some q =>
        simp only []
        by_cases h2 : q.2 = 0 ∨ n + 1 + q.2 ≤ 101
        · rw [if_pos h2]
          simp only []
          by_cases h1 : n + 1 + p.2 ≤ 101
          · rw [if_pos h1, if_pos (.inr (by rcases h2 with h2 | h2 <;> omega))]
          · rw [if_neg h1, if_neg (by omega)]
        · rw [if_neg h2, if_neg (by omega)]
theorem sumM_one (d : PyData) (n : Nat) : sumM [(d, n)] = match meas d with
    | some p => if n + p.2 ≤ 101 then some p.1 else none
    | none => none := by
  simp only [sumM]
  cases meas d with
  | none => rfl
  | some p => simp
/-- what the law wants of is_value -/
def due (d : PyData) : Bool := match meas d with
  | some p => decide (p.1 ≤ 1000) && decide (p.2 ≤ 100)
  | none => false
theorem chk_first (d : PyData) : chk [(d, 1)] 0 = due d := by
  unfold chk due
  rw [sumM_one]
  cases meas d with
  | none => rfl
  | some p =>
    simp only []
    by_cases h : 1 + p.2 ≤ 101
    · rw [if_pos h, decide_eq_true (by omega : p.2 ≤ 100), Bool.and_true]
      simp
    · rw [if_neg h, decide_eq_false (by omega : ¬ p.2 ≤ 100), Bool.and_false]
theorem chk_last {ps : List (PyData × Nat)} {d : PyData} {n many : Nat} : chk (ps ++ [(d, n)]) many = match innerD d with
    | none => false
    | some ds => decide (many + 1 ≤ 1000) && decide (n ≤ 100) && chk (ps ++ ds.map fun e => (e, n + 1)) (many + 1) := by
  unfold chk
  rw [sumM_app, sumM_one, meas_inner]
  cases hi : innerD d with
  | none => cases sumM ps <;> rfl
  | some ds =>
    simp only [Option.bind_some]
    rw [sumM_app, sumM_inner]
    cases hm : measL ds with
    | none => cases sumM ps <;> simp
    | some q =>
      simp only [Option.map_some]
      cases hs : sumM ps with
      | none => simp
      | some s =>
        simp only [Option.bind_some]
        by_cases h1 : n + (1 + q.2) ≤ 101
        · rw [if_pos h1, if_pos (.inr (by omega))]
          simp only [Option.map_some]
          rw [Bool.eq_iff_iff]
          simp only [Bool.and_eq_true, decide_eq_true_eq]
          omega
        · rw [if_neg h1]
          simp only [Option.map_none]
          by_cases h2 : q.2 = 0 ∨ n + 1 + q.2 ≤ 101
          · rw [if_pos h2, decide_eq_false (by omega : ¬ n ≤ 100)]
            simp
          · rw [if_neg h2]
            simp
theorem measL_app : ∀ (a b : List PyData), measL (a ++ b) = (measL a).bind fun p => (measL b).map fun q => (p.1 + q.1, max p.2 q.2)
  | [], b => by simp [measL]
  | d :: a, b => by
    rw [List.cons_append]
    simp only [measL, measL_app a b]
    cases meas d with
    | none => rfl
    | some p =>
      cases measL a with
      | none => rfl
      | some s =>
        cases measL b with
        | none => simp
        | some r => simp; omega
theorem parts_step {ds0 : List PyData} {e : PyData} {q : Nat × Nat} (h : measL (ds0 ++ [e]) = some q) : ∃ es q', innerD e = some es ∧ measL (ds0 ++ es) = some q' ∧ q.1 = q'.1 + 1 := by
  rw [measL_app] at h
  cases h0 : measL ds0 with
  | none => rw [h0] at h; cases h
  | some p =>
    rw [h0] at h
    simp only [Option.bind_some, measL] at h
    rw [meas_inner] at h
    cases hi : innerD e with
    | none => rw [hi] at h; cases h
    | some es =>
      rw [hi] at h
      simp only [Option.bind_some] at h
      cases hm : measL es with
      | none => rw [hm] at h; cases h
      | some r =>
        rw [hm] at h
        simp only [Option.map_some] at h
        have h := Option.some.inj h
        refine ⟨es, (p.1 + r.1, max p.2 r.2), rfl, ?_, ?_⟩
        · rw [measL_app, h0, hm]
          rfl
        · rw [← h]
          show p.1 + (1 + r.1 + 0) = p.1 + r.1 + 1
          omega
mutual
def psz : PyData → Nat
  | .tuple ds => 1 + pszL ds
  | _ => 1
def pszL : List PyData → Nat
  | [] => 0
  | d :: ds => psz d + pszL ds
end
theorem psz_pos (d : PyData) : 1 ≤ psz d := by
  cases d <;> simp only [psz] <;> omega
theorem pszL_app : ∀ (a b : List PyData), pszL (a ++ b) = pszL a + pszL b
  | [], b => by simp [pszL]
  | d :: a, b => by simp only [List.cons_append, pszL, pszL_app a b]; omega
theorem pszL_len : ∀ (a : List PyData), a.length ≤ pszL a
  | [] => Nat.le_refl _
  | d :: a => by
    have := psz_pos d
    have := pszL_len a
    simp only [List.length_cons, pszL]
    omega
theorem inner_less {d : PyData} {ds : List PyData} (h : innerD d = some ds) : pszL ds < psz d := by
  unfold innerD at h
  split at h
  · split at h
    · have h := Option.some.inj h
      subst h
      simp only [psz, pszL]
      omega
    · cases h
  · split at h
    · have h := Option.some.inj h
      subst h
      simp only [psz, pszL]
      omega
    · cases h
  · split at h
    · have h := Option.some.inj h
      subst h
      simp only [psz, pszL]
      omega
    · cases h
  · cases h
end L3

namespace L3
open PySem L2
structure Mp (mg : Str → Option Value) : Prop where
  BOUND : ∃ u, mg "BOUND" = some u ∧ RelV (.int (10 ^ 30)) u
  min : mg "min" = none
  LONGEST_TEXT : ∃ u, mg "LONGEST_TEXT" = some u ∧ RelV (.int 200) u
/-- a number cut to the bound -/
def clp (i : Int) : Int := max (-(10 ^ 30)) (min (10 ^ 30) i)
section
variable {P : Program} {w : World} {K : PySem.W.Frag} {mg : Str → Option Value} {base : Heap}
abbrev s_bounded : Stmt := topS 63
abbrev N_bounded : List Str := ["number"]
theorem sc_bounded : FnScope N_bounded ["number"] (defScope s_bounded) := ⟨rfl, rfl, rfl, by decide +kernel, rfl, by decide +kernel, by decide +kernel⟩
def spBounded : Sp := fun vs H Q _ => ∃ n : Int, vs = [.int n] ∧ ∀ a, H a = none → Q (.ref a) (upd H a (.tup [.str "whole", .int (clp n)]))
theorem ok_bounded {f : Addr} {fd : FuncData} (F : Fun K "bounded" "bounded" s_bounded f fd) (B9 : Bl9 mg) (M : Mp mg) : FnOk P w K mg base CX0 1 f fd ["number"] spBounded := by
  refine F.ok sc_bounded (fun vs H Q E h => ?_) (fun cdv A outer s H vs Q E hr h => ?_)
  · obtain ⟨n, rfl, _⟩ := h
    rfl
  · obtain ⟨n, rfl, k⟩ := h
    refine ⟨_, (pss_one (ps_ret (pe_tup (pa_cons pe_str (pa_cons (pe_callB (call_max2 rfl) (by rfl) B9.max PyProof.Rows.boot_max (pa_cons (pe_un un_neg (pe_gc (by rfl) M.BOUND)) (pa_cons (pe_callB (call_min2 rfl) (by rfl) M.min PyProof.Rows.boot_min (pa_cons (pe_gc (by rfl) M.BOUND) (pa_cons (pv 0) pa_nil))) pa_nil))) pa_nil))))), ?_⟩
    refine ⟨_, rfl, _, rfl, _, _, rfl, _, _, rfl, ?_⟩
    refine ⟨slz rfl, fun a ha => ?_⟩
    have e : (if (if n < 10 ^ 30 then n else (10 ^ 30 : Int)) > -(10 ^ 30) then (if n < 10 ^ 30 then n else (10 ^ 30 : Int)) else -(10 ^ 30)) = clp n := by
      unfold clp
      generalize (10 ^ 30 : Int) = b
      omega
    have k2 := k a ha
    rw [← e] at k2
    exact k2
abbrev s_truth : Stmt := topS 64
abbrev N_truth : List Str := ["holds"]
theorem sc_truth : FnScope N_truth ["holds"] (defScope s_truth) := ⟨rfl, rfl, rfl, by decide +kernel, rfl, by decide +kernel, by decide +kernel⟩
def spTruth : Sp := fun vs H Q _ => ∃ b : Bool, vs = [.bl b] ∧ ∀ e a, H e = none → (upd H e (.tup [])) a = none → Q (.ref a) (upd (upd H e (.tup [])) a (.tup [.str "made", .str (if b then "yes" else "no"), .ref e]))
theorem ok_truth {f : Addr} {fd : FuncData} (F : Fun K "truth" "truth" s_truth f fd) : FnOk P w K mg base CX0 1 f fd ["holds"] spTruth := by
  refine F.ok sc_truth (fun vs H Q E h => ?_) (fun cdv A outer s H vs Q E hr h => ?_)
  · obtain ⟨n, rfl, _⟩ := h
    rfl
  · obtain ⟨b, rfl, k⟩ := h
    refine ⟨_, (pss_one (ps_ret (pe_tup (pa_cons pe_str (pa_cons (pe_ifExp (pt_val (pv 0)) pe_str pe_str) (pa_cons (pe_tup pa_nil) pa_nil)))))), ?_⟩
    refine ⟨_, rfl, _, rfl, ?_⟩
    cases b with
    | true =>
      refine iT rfl ?_
      exact ⟨slz rfl, fun e he => ⟨slz rfl, fun a ha => k e a he ha⟩⟩
    | false =>
      refine iF rfl ?_
      exact ⟨slz rfl, fun e he => ⟨slz rfl, fun a ha => k e a he ha⟩⟩
abbrev s_put_together : Stmt := topS 70
abbrev N_put_together : List Str := ["one", "other"]
theorem sc_put_together : FnScope N_put_together ["one", "other"] (defScope s_put_together) := ⟨rfl, rfl, rfl, by decide +kernel, rfl, by decide +kernel, by decide +kernel⟩
def spPut : Sp := fun vs H Q _ => ∃ x y : Str, vs = [.str x, .str y] ∧ x.length ≤ 1000 ∧ y.length ≤ 1000 ∧ ∀ a, H a = none → Q (.ref a) (upd H a (.tup [.str "text", .str (cutS (x ++ y) none (some 200))]))
theorem ok_put {f : Addr} {fd : FuncData} (F : Fun K "put_together" "put_together" s_put_together f fd) (M : Mp mg) : FnOk P w K mg base CX0 1 f fd ["one", "other"] spPut := by
  refine F.ok sc_put_together (fun vs H Q E h => ?_) (fun cdv A outer s H vs Q E hr h => ?_)
  · obtain ⟨n, m, rfl, _⟩ := h
    rfl
  · obtain ⟨x, y, rfl, l1, l2, k⟩ := h
    refine ⟨_, (pss_one (ps_ret (pe_tup (pa_cons pe_str (pa_cons (pe_slice sl_str (pe_op op_add_str (pv 0) (pv 1)) po_none (po_some (pe_gc (by rfl) M.LONGEST_TEXT))) pa_nil))))), ?_⟩
    refine ⟨_, rfl, _, rfl, ?_⟩
    refine ⟨_, _, rfl, rfl, by rw [sizeLine_eq]; omega, ?_⟩
    refine ⟨_, rfl, x ++ y, rfl, ?_, ?_⟩
    · rw [Str.length_append, sizeLine_eq]
      omega
    exact ⟨slz rfl, k⟩
abbrev s_length_of : Stmt := topS 71
abbrev N_length_of : List Str := ["text"]
theorem sc_length_of : FnScope N_length_of ["text"] (defScope s_length_of) := ⟨rfl, rfl, rfl, by decide +kernel, rfl, by decide +kernel, by decide +kernel⟩
def spLen : Sp := fun vs H Q _ => ∃ x : Str, vs = [.str x] ∧ x.length ≤ 1000 ∧ ∀ a, H a = none → Q (.ref a) (upd H a (.tup [.str "whole", .int x.length]))
theorem ok_length {f : Addr} {fd : FuncData} (F : Fun K "length_of" "length_of" s_length_of f fd) (B : Bl mg) : FnOk P w K mg base CX0 1 f fd ["text"] spLen := by
  refine F.ok sc_length_of (fun vs H Q E h => ?_) (fun cdv A outer s H vs Q E hr h => ?_)
  · obtain ⟨x, rfl, _⟩ := h
    rfl
  · obtain ⟨x, rfl, l, k⟩ := h
    refine ⟨_, (pss_one (ps_ret (pe_tup (pa_cons pe_str (pa_cons (pe_callB call_len (by rfl) B.len PySem.boot_len (pa_cons (pv 0) pa_nil)) pa_nil))))), ?_⟩
    refine ⟨_, rfl, _, _, rfl, ⟨by rw [sizeLine_eq]; omega, rfl⟩, ?_⟩
    exact ⟨slz rfl, k⟩
abbrev s_spelled : Stmt := topS 72
abbrev N_spelled : List Str := ["number"]
theorem sc_spelled : FnScope N_spelled ["number"] (defScope s_spelled) := ⟨rfl, rfl, rfl, by decide +kernel, rfl, by decide +kernel, by decide +kernel⟩
def spSpell : Sp := fun vs H Q _ => ∃ n : Int, vs = [.int n] ∧ n.natAbs.log2 < 1920 ∧ ∀ a, H a = none → Q (.ref a) (upd H a (.tup [.str "text", .str (toString n)]))
theorem ok_spelled {f : Addr} {fd : FuncData} (F : Fun K "spelled" "spelled" s_spelled f fd) (B9 : Bl9 mg) : FnOk P w K mg base CX0 1 f fd ["number"] spSpell := by
  refine F.ok sc_spelled (fun vs H Q E h => ?_) (fun cdv A outer s H vs Q E hr h => ?_)
  · obtain ⟨x, rfl, _⟩ := h
    rfl
  · obtain ⟨n, rfl, l, k⟩ := h
    refine ⟨_, (pss_one (ps_ret (pe_tup (pa_cons pe_str (pa_cons (pe_callTy call_str_int (by rfl) B9.str_ PyProof.Rows.boot_str (pa_cons (pv 0) pa_nil)) pa_nil))))), ?_⟩
    refine ⟨_, rfl, _, rfl, l, ?_⟩
    exact ⟨slz rfl, k⟩
end
end L3

/-! any value but a dict != text -/
namespace L3
open PySem PySem.Spec PyProof.Rows L2
open PySem.SeqAt
def notDct : PyData → Bool
  | .dict _ => false
  | _ => true
def rNeStr (t : Addr) : R2 := fun x y H Q => ∃ (d : PyData) (z : Str), y = .str z ∧ Da t H x d ∧ notDct d = true ∧ Q (.bl (!isS z d)) H
theorem op_neStr {X : Cx} {t : Addr} (hu : X.A.units + 64 < cLine) : OpR X (compareOp .NotEq) (rNeStr t) := by
  intro pins s σ H x y v u Q I rx ry h
  obtain ⟨d, z, rfl, hd, nd, q⟩ := h
  obtain ⟨tk, rfl⟩ := (show ∃ k, u = Value.str z k from ry)
  have hu' : X.A.units < cLine := by omega
  have fin : ∀ b : Bool, b = !isS z d → EP X pins σ Q (.bool b) s := fun b e => ⟨.bl b, H, I, rfl, by rw [e]; exact q⟩
  cases d with
  | none =>
    cases hd
    cases (show v = Value.none from rx)
    exact RcNeAt.none_str z tk _ _ _ _ (fin _ rfl)
  | bool b =>
    cases hd
    cases (show v = Value.bool b from rx)
    exact RcNeAt.bool_str b z tk _ _ _ _ (fin _ rfl)
  | int i =>
    cases hd
    obtain ⟨k, rfl⟩ := (show ∃ k, v = Value.int i k from rx)
    exact RcNeAt.int_str i k z tk _ _ _ _ (fin _ rfl)
  | str y =>
    cases hd
    obtain ⟨k, rfl⟩ := (show ∃ k, v = Value.str y k from rx)
    exact RcNeAt.str_str y k z tk _ _ _ _ (fin _ (by rw [show (y == z) = decide (y = z) from str_beq y z]; rfl))
  | list ds =>
    cases hd with
    | @lst a xs _ hs ns ha =>
      obtain rfl : v = Value.ref a := rx
      obtain ⟨its, rv, ⟨o, n, ho, hc, _, hd⟩, _⟩ := I.list (SqL.of hs)
      exact RcNeAt.list_str z tk ⟨o, ho, hc, n, hd⟩ hu' _ _ _ _ (fin _ rfl)
  | tuple ds =>
    cases hd with
    | @tup a xs _ hs ha =>
      obtain rfl : v = Value.ref a := rx
      obtain ⟨its, rv, ⟨o, ho, hc, n, hd⟩, _⟩ := I.tuple (SqT.of hs)
      exact RcNeAt.tuple_str z tk ⟨o, ho, hc, n, hd⟩ hu' _ _ _ _ (fin _ rfl)
  | dict ds => cases nd
end L3

namespace L3
open PySem L2
theorem op_or {X : Cx} {op} {r1 r2 : R2} (h1 : OpR X op r1) (h2 : OpR X op r2) : OpR X op (fun x y H Q => r1 x y H Q ∨ r2 x y H Q) := by
  intro pins s σ H x y v u Q I rx ry h
  rcases h with h | h
  · exact h1 pins s σ H x y v u Q I rx ry h
  · exact h2 pins s σ H x y v u Q I rx ry h
/-- one <= other -/
def leS (x y : Str) : Bool := !decide (y.cps.toList < x.cps.toList)
section
variable {P : Program} {w : World} {K : PySem.W.Frag} {mg : Str → Option Value} {base : Heap}
abbrev s_added : Stmt := topS 65
abbrev N_added : List Str := ["one", "other"]
theorem sc_added : FnScope N_added ["one", "other"] (defScope s_added) := ⟨rfl, rfl, rfl, by decide +kernel, rfl, by decide +kernel, by decide +kernel⟩
def spAdd : Sp := fun vs H Q _ => ∃ i j : Int, vs = [.int i, .int j] ∧ ∀ a, H a = none → Q (.ref a) (upd H a (.tup [.str "whole", .int (clp (i + j))]))
theorem ok_add {f : Addr} {fd : FuncData} (F : Fun K "added" "added" s_added f fd) (D_bounded : Kn P w K mg base 1 "bounded" ["number"] spBounded) : FnOk P w K mg base CX0 2 f fd ["one", "other"] spAdd := by
  refine F.ok sc_added (fun vs H Q E h => ?_) (fun cdv A outer s H vs Q E hr h => ?_)
  · obtain ⟨i, j, rfl, _⟩ := h
    rfl
  · obtain ⟨i, j, rfl, k⟩ := h
    have hr_bounded : Room 1 _ := hr
    refine ⟨_, (pss_one (ps_ret (pe_kn D_bounded hr_bounded (pa_cons (pe_op op_add (pv 0) (pv 1)) pa_nil)))), ?_⟩
    exact ⟨_, rfl, _, rfl, _, _, rfl, rfl, _, rfl, k⟩
abbrev s_lessened : Stmt := topS 66
abbrev N_lessened : List Str := ["one", "other"]
theorem sc_lessened : FnScope N_lessened ["one", "other"] (defScope s_lessened) := ⟨rfl, rfl, rfl, by decide +kernel, rfl, by decide +kernel, by decide +kernel⟩
def spLess : Sp := fun vs H Q _ => ∃ i j : Int, vs = [.int i, .int j] ∧ ∀ a, H a = none → Q (.ref a) (upd H a (.tup [.str "whole", .int (clp (i - j))]))
theorem ok_less {f : Addr} {fd : FuncData} (F : Fun K "lessened" "lessened" s_lessened f fd) (D_bounded : Kn P w K mg base 1 "bounded" ["number"] spBounded) : FnOk P w K mg base CX0 2 f fd ["one", "other"] spLess := by
  refine F.ok sc_lessened (fun vs H Q E h => ?_) (fun cdv A outer s H vs Q E hr h => ?_)
  · obtain ⟨i, j, rfl, _⟩ := h
    rfl
  · obtain ⟨i, j, rfl, k⟩ := h
    have hr_bounded : Room 1 _ := hr
    refine ⟨_, (pss_one (ps_ret (pe_kn D_bounded hr_bounded (pa_cons (pe_op op_sub (pv 0) (pv 1)) pa_nil)))), ?_⟩
    exact ⟨_, rfl, _, rfl, _, _, rfl, rfl, _, rfl, k⟩
abbrev s_multiplied : Stmt := topS 67
abbrev N_multiplied : List Str := ["one", "other"]
theorem sc_multiplied : FnScope N_multiplied ["one", "other"] (defScope s_multiplied) := ⟨rfl, rfl, rfl, by decide +kernel, rfl, by decide +kernel, by decide +kernel⟩
def spMul : Sp := fun vs H Q _ => ∃ i j : Int, vs = [.int i, .int j] ∧ i.natAbs < 2 ^ 100 ∧ j.natAbs < 2 ^ 100 ∧ ∀ a, H a = none → Q (.ref a) (upd H a (.tup [.str "whole", .int (clp (i * j))]))
theorem ok_mul {f : Addr} {fd : FuncData} (F : Fun K "multiplied" "multiplied" s_multiplied f fd) (D_bounded : Kn P w K mg base 1 "bounded" ["number"] spBounded) : FnOk P w K mg base CX0 2 f fd ["one", "other"] spMul := by
  refine F.ok sc_multiplied (fun vs H Q E h => ?_) (fun cdv A outer s H vs Q E hr h => ?_)
  · obtain ⟨i, j, rfl, _⟩ := h
    rfl
  · obtain ⟨i, j, rfl, b1, b2, k⟩ := h
    have hr_bounded : Room 1 _ := hr
    refine ⟨_, (pss_one (ps_ret (pe_kn D_bounded hr_bounded (pa_cons (pe_op op_mulW (pv 0) (pv 1)) pa_nil)))), ?_⟩
    exact ⟨_, rfl, _, rfl, _, _, rfl, rfl, wide_mul b1 b2 (by omega) (by omega) (by omega), _, rfl, k⟩
abbrev s_are_equal : Stmt := topS 68
abbrev N_are_equal : List Str := ["one", "other"]
theorem sc_are_equal : FnScope N_are_equal ["one", "other"] (defScope s_are_equal) := ⟨rfl, rfl, rfl, by decide +kernel, rfl, by decide +kernel, by decide +kernel⟩
def spEqual : Sp := fun vs H Q _ => ∃ (b : Bool) (u v : V), vs = [u, v] ∧ ((∃ i j : Int, u = .int i ∧ v = .int j ∧ b = decide (i = j)) ∨ ∃ i j : Str, u = .str i ∧ v = .str j ∧ b = decide (i = j)) ∧ ∀ e a, H e = none → (upd H e (.tup [])) a = none → Q (.ref a) (upd (upd H e (.tup [])) a (.tup [.str "made", .str (if b then "yes" else "no"), .ref e]))
theorem ok_equal {f : Addr} {fd : FuncData} (F : Fun K "are_equal" "are_equal" s_are_equal f fd) (D_truth : Kn P w K mg base 1 "truth" ["holds"] spTruth) : FnOk P w K mg base CX0 2 f fd ["one", "other"] spEqual := by
  refine F.ok sc_are_equal (fun vs H Q E h => ?_) (fun cdv A outer s H vs Q E hr h => ?_)
  · obtain ⟨b, i, j, rfl, _⟩ := h
    rfl
  · obtain ⟨b, u, v, rfl, hh, k⟩ := h
    have hr_truth : Room 1 _ := hr
    refine ⟨_, (pss_one (ps_ret (pe_kn D_truth hr_truth (pa_cons (pe_cmpR op_eq (pv 0) (pv 1) (nomark _)) pa_nil)))), ?_⟩
    rcases hh with ⟨i, j, rfl, rfl, e⟩ | ⟨i, j, rfl, rfl, e⟩
    · refine ⟨_, rfl, _, rfl, rfl, b, ?_, k⟩
      rw [e]
      simp
    · refine ⟨_, rfl, _, rfl, rfl, b, ?_, k⟩
      rw [e]
      simp
abbrev s_are_in_row : Stmt := topS 69
abbrev N_are_in_row : List Str := ["one", "other"]
theorem sc_are_in_row : FnScope N_are_in_row ["one", "other"] (defScope s_are_in_row) := ⟨rfl, rfl, rfl, by decide +kernel, rfl, by decide +kernel, by decide +kernel⟩
def spRow : Sp := fun vs H Q _ => ∃ (b : Bool) (u v : V), vs = [u, v] ∧ ((∃ i j : Int, u = .int i ∧ v = .int j ∧ b = decide (i ≤ j)) ∨ ∃ i j : Str, u = .str i ∧ v = .str j ∧ b = leS i j) ∧ ∀ e a, H e = none → (upd H e (.tup [])) a = none → Q (.ref a) (upd (upd H e (.tup [])) a (.tup [.str "made", .str (if b then "yes" else "no"), .ref e]))
theorem ok_row {f : Addr} {fd : FuncData} (F : Fun K "are_in_row" "are_in_row" s_are_in_row f fd) (D_truth : Kn P w K mg base 1 "truth" ["holds"] spTruth) : FnOk P w K mg base CX0 2 f fd ["one", "other"] spRow := by
  refine F.ok sc_are_in_row (fun vs H Q E h => ?_) (fun cdv A outer s H vs Q E hr h => ?_)
  · obtain ⟨b, i, j, rfl, _⟩ := h
    rfl
  · obtain ⟨b, u, v, rfl, hh, k⟩ := h
    have hr_truth : Room 1 _ := hr
    refine ⟨_, (pss_one (ps_ret (pe_kn D_truth hr_truth (pa_cons (pe_cmpR (op_or op_le op_le_str) (pv 0) (pv 1) (nomark _)) pa_nil)))), ?_⟩
    rcases hh with ⟨i, j, rfl, rfl, e⟩ | ⟨i, j, rfl, rfl, e⟩
    · refine ⟨_, rfl, _, rfl, .inl ⟨_, _, rfl, rfl, b, ?_, k⟩⟩
      rw [e]
      rfl
    · refine ⟨_, rfl, _, rfl, .inr ⟨_, _, rfl, rfl, b, ?_, k⟩⟩
      rw [e]
      rfl
abbrev s_is_plain : Stmt := topS 62
abbrev N_is_plain : List Str := ["value", "word"]
theorem sc_is_plain : FnScope N_is_plain ["value", "word"] (defScope s_is_plain) := ⟨rfl, rfl, rfl, by decide +kernel, rfl, by decide +kernel, by decide +kernel⟩
/-- a right value of the word -/
def plainB (word : Str) : PyData → Bool
  | .tuple [a, b] => isS word a && (if word = "whole" then isWholeD b else isTextD b)
  | _ => false
theorem isS_eq {z : Str} {d : PyData} (h : isS z d = true) : d = .str z := by
  cases d with
  | str x => exact congrArg _ (of_decide_eq_true h)
  | _ => cases h
/-- no dict stands in front -/
def headOk : PyData → Bool
  | .tuple (a :: _) => notDct a
  | _ => true
def spPlain : Sp := fun vs H Q _ => ∃ (t : Addr) (v : V) (d : PyData) (word : Str), vs = [v, .str word] ∧ Da t H v d ∧ headOk d = true ∧ (∀ a x, d = .tuple [a, .str x] → x.length ≤ 1000) ∧ (word = "whole" ∨ word = "text") ∧ ∀ H', Same H H' → Q (.bl (plainB word d)) H'
theorem ok_plain {bA : Addr} {es : Array DictEntry} {nb : Nat} {f : Addr} {fd : FuncData} (F : Fun K "is_plain" "is_plain" s_is_plain f fd) (B : Bl mg) (B9 : Bl9 mg) (D_is_whole : Kn P w K mg base 2 "is_whole" ["value"] spWhole) (D_is_text : Kn P w K mg base 1 "is_text" ["value"] spText) : FnOk P w K mg base CX0 3 f fd ["value", "word"] spPlain := by
  refine F.ok sc_is_plain (fun vs H Q E h => ?_) (fun cdv A outer s H vs Q E hr h => ?_)
  · obtain ⟨t, v, d, word, rfl, _⟩ := h
    rfl
  · obtain ⟨t, v, d, word, rfl, hd, ho, hx, hw, k⟩ := h
    have hu64 := hr.units
    have hr_is_whole : Room 2 _ := hr
    have hr_is_text : Room 1 _ := hr.mono (by decide)
    refine ⟨_, (pss_cons (ps_if (PW.pt (pw_or (pt_not (pt_val (pe_callB call_isi (by rfl) B9.isinstance PyProof.Rows.boot_isinstance (pa_cons (pv 0) (pa_cons (pe_bltn (v := .ty "tuple") (by rfl) B9.tuple (by decide +kernel) rfl) pa_nil))))) (pw_or (pt_cmpR op_ne (pe_callB call_len (by rfl) B.len PySem.boot_len (pa_cons (pv 0) pa_nil)) pe_int (nomark _)) (pw_or1 (pt_cmpR (op_neStr (t := t) hu64) (pe_ix ix_tup (pv 0) pe_int (fun _ _ => rfl)) (pv 1) (nomark _))))))
  (pss_one (ps_ret pe_bl))
  pss_nil)
  (pss_one (ps_ret (pe_ifExp (pt_cmpR op_eq (pv 1) pe_str (nomark _)) (pe_kn D_is_whole hr_is_whole (pa_cons (pe_ix ix_tup (pv 0) pe_int (fun _ _ => rfl)) pa_nil)) (pe_kn D_is_text hr_is_text (pa_cons (pe_ix ix_tup (pv 0) pe_int (fun _ _ => rfl)) pa_nil)))))), ?_⟩
    refine ⟨_, rfl, v, .ty "tuple", .type (tyName d), .type "tuple", isTup d, rfl, .ty "tuple", hd.ty, kit_tup d, _, rfl, ?_⟩
    cases ht : isTup d with
    | false =>
      have e : plainB word d = false := by cases d <;> first | rfl | cases ht
      rw [e] at k
      refine iT rfl ?_
      exact iT rfl (k H (Same.refl H))
    | true =>
      obtain ⟨ds, rfl⟩ : ∃ ds, d = .tuple ds := by
        cases d with
        | tuple ds => exact ⟨ds, rfl⟩
        | _ => cases ht
      cases id hd with
      | @tup a xs _ ga da =>
        have le := da.len
        refine iF rfl ?_
        refine ⟨_, rfl, .ref a, xs.length, rfl, .inr ⟨xs, SqT.of ga, rfl⟩, ?_⟩
        refine ⟨rfl, _, rfl, ?_⟩
        by_cases h2 : ds.length = 2
        · match ds, h2, hd, da, ho, hx, k with
          | [d1, d2], _, hd, da, ho, hx, k =>
            cases da with
            | @cons v1 _ _ _ q1 t1 =>
              cases t1 with
              | @cons v2 _ _ _ q2 t2 =>
                cases t2
                refine iF rfl ?_
                refine ⟨_, rfl, a, _, 0, _, rfl, rfl, SqT.of ga, rfl, _, rfl, d1, word, rfl, q1, ho, _, rfl, ?_⟩
                cases h3 : isS word d1 with
                | false =>
                  refine iT rfl ?_
                  have e : plainB word (.tuple [d1, d2]) = false := by
                    show (isS word d1 && _) = false
                    rw [h3]
                    rfl
                  rw [e] at k
                  exact k H (Same.refl H)
                | true =>
                  refine iF rfl ?_
                  have e : plainB word (.tuple [d1, d2]) = (if word = "whole" then isWholeD d2 else isTextD d2) := by
                    show (isS word d1 && _) = _
                    rw [h3]
                    rfl
                  rw [e] at k
                  refine ⟨_, rfl, rfl, _, rfl, ?_⟩
                  rcases hw with rfl | rfl
                  · rw [if_pos rfl] at k
                    refine iT rfl ?_
                    exact ⟨_, rfl, a, _, 1, _, rfl, rfl, SqT.of ga, rfl, t, v2, d2, rfl, q2, k H (Same.refl H)⟩
                  · rw [if_neg (by decide +kernel)] at k
                    refine iF (by decide +kernel) ?_
                    exact ⟨_, rfl, a, _, 1, _, rfl, rfl, SqT.of ga, rfl, t, v2, d2, rfl, q2, fun x e => hx d1 x (by rw [e]), k⟩
        · have e0 : plainB word (.tuple ds) = false := by
            match ds, h2 with
            | [], _ => rfl
            | [_], _ => rfl
            | [_, _], h2 => exact absurd rfl h2
            | _ :: _ :: _ :: _, _ => rfl
          rw [e0] at k
          refine iT ?_ ?_
          · show (!decide (V.int (xs.length : Int) = V.int 2)) = true
            rw [decide_eq_false fun z => h2 (by rw [← le]; exact Int.ofNat.inj (V.int.inj z))]
            rfl
          · exact iT rfl (k H (Same.refl H))
end
end L3

/-! list(reversed(t)) of a tuple -/
namespace L3
open PySem PySem.Spec PyProof.Rows L2 RT
theorem nolen_rt : typeLookup (.type "reversed") "__len__" = pure none := by rw [typeLookup_type, builtinLookup_eq_fast]; kernel_rfl
theorem hint_rt : typeLookup (.type "reversed") "__length_hint__" = pure (some (.builtin "reversed.__length_hint__")) := by rw [typeLookup_type, builtinLookup_eq_fast]; kernel_rfl
theorem walks_rt {prog : Program} {w : World} {A : Around} (hh : A.handled = none) (I t : Addr) (hne : t ≠ I) (items : Array Value) (hn : items.size ≤ sizeLine) :
    Walks prog w A I [I, t] [I] items.size (fun i v => items[items.size - 1 - i]? = some v) (fun i h => i ≤ items.size ∧ IsRt h I t ((items.size : Int) - 1 - (i : Int)) ∧ IsTup h t items) where
  sub := fun b hb => by simp at hb; simp [hb]
  frame := fun _ _ _ x hk => ⟨x.1, x.2.1.at fun o e => hk I (by simp) o e, by
    obtain ⟨o, ho, r⟩ := x.2.2
    exact ⟨o, hk t (by simp) o ho, r⟩⟩
  item := fun i s Q E hi x hQ => by
    have e : (items.size : Int) - 1 - (i : Int) = ((items.size - 1 - i : Nat) : Int) := by omega
    have hit := x.2.1
    rw [e] at hit
    have hx : items[items.size - 1 - i]? = some (items[items.size - 1 - i]'(by omega)) := Array.getElem?_eq_getElem (by omega)
    refine next_rt_item hit x.2.2 hx hn fun h' hit' hs' => ?_
    have e2 : ((items.size - 1 - i : Nat) : Int) - 1 = (items.size : Int) - 1 - ((i + 1 : Nat) : Int) := by omega
    rw [e2] at hit'
    refine hQ _ h' (s.toks + 1) hx ⟨hi, hit', ?_⟩ fun b o hb eo => hs'.extBut b o (fun h => hb (by simp [h])) eo
    obtain ⟨o, ho, r⟩ := x.2.2
    exact ⟨o, (hs'.2 t hne).trans ho, r⟩
  done := fun s Q E x hQ => by
    have e : (items.size : Int) - 1 - (items.size : Int) = -1 := by omega
    have hit := x.2.1
    rw [e] at hit
    exact next_rt_end hh hit fun h' he' => hQ h' s.toks fun b o hb eo => he' b o (fun h => hb (by simp [h])) eo
  self := fun _ _ _ _ x hQ => iter_rt x.2.1 hQ
theorem asInt_int (n : Int) (tk : Nat) : asInt? (Value.int n tk) = pure (some n) := rfl
theorem slot_rt_hint : Slot "reversed" "__length_hint__" "reversed.__length_hint__" :=
  .of (owner := "reversed") (n := "__length_hint__") (by rw [typeLookup_type, builtinLookup_eq_fast]; kernel_rfl) (by decide +kernel) (by decide +kernel) (by decide +kernel)
    (by first | exact .inl (by decide +kernel) | exact .inr (by decide +kernel)) (by rw [isSubtype_type]; kernel_rfl)
theorem entry_rt_hint : entryFor table "reversed.__length_hint__" = some Builtin.«reversed.__length_hint__» := entryFor_of_tree (by kernel_rfl)
theorem args_rt_hint (a : Value) : argsOk "reversed.__length_hint__" ⟨[a], []⟩ := by
  unfold argsOk; rw [signature?_of (id := "reversed.__length_hint__") (n := ['_', '_', 't', 'n', 'i', 'h', '_', 'h', 't', 'g', 'n', 'e', 'l', '_', '_']) (o := ['d', 'e', 's', 'r', 'e', 'v', 'e', 'r']) (by kernel_rfl) owner_rt]; kernel_rfl
section
variable {prog : Program} {w : World} {A : Around} {E : Value → Shared → Prop} {s : Shared}
theorem hint_rt_call {it t : Addr} {items : Array Value} {Q : Value → Shared → Prop} (hit : IsRt s.heap it t ((items.size : Int) - 1)) (ht : IsTup s.heap t items) (hn : items.size ≤ sizeLine)
    (q : ∀ tk tk', Q (.int (items.size : Int) tk) { s with toks := tk' }) : wpAny (model prog w) A (call (.builtin "reversed.__length_hint__") [.ref it]) Q E s := by
  obtain ⟨o, ho, hc, hd⟩ := id hit
  have hn' := hn
  rw [sizeLine_eq] at hn'
  refine wpAny_call_entry slot_rt_hint hit.typeIs entry_rt_hint ?_ (args_rt_hint _)
  unfold Builtin.«reversed.__length_hint__»
  refine wpAny_bind (wpAny_of_eq (a := Value.ref it) rfl ?_)
  try dsimp only
  refine wpAny_bind (wpAny_field ho hd (x := .ref t) rfl ?_)
  rw [if_neg (show ¬ ((Value.ref t == Value.none) = true) from Bool.false_ne_true)]
  try dsimp only
  refine wpAny_bind (len_tuple ht (by omega) ?_)
  refine wpAny_bind (wpAny_of_eq (a := some ((items.size : Nat) : Int)) rfl ?_)
  try dsimp only
  refine wpAny_bind (wpAny_field (s := { s with toks := s.toks + 1 + 1 }) ho hd (x := rawInt ((items.size : Int) - 1)) rfl ?_)
  show wpAny _ _ (if ((items.size : Nat) : Int) < (items.size : Int) - 1 + 1 then _ else _) _ _ _
  rw [if_neg (by omega)]
  unfold retInt
  refine wpAny_bind (wpAny_mkInt ?_)
  refine wpAny_pure ⟨_, rfl, ?_⟩
  rw [show (items.size : Int) - 1 + 1 = (items.size : Int) by omega]
  exact q _ _
theorem call_list_rt {it t : Addr} {items : Array Value} {Q : Value → Shared → Prop} (hh : A.handled = none) (hit : IsRt s.heap it t ((items.size : Int) - 1)) (ht : IsTup s.heap t items) (hne : t ≠ it) (hn : items.size ≤ sizeLine)
    (q : ∀ h' tk acc c, (∀ b o, b ≠ it → s.heap.get? b = some o → h'.get? b = some o) → h'.get? s.heap.objs.size = some { cls := .type "list", dict := none, data := .seq acc c, slots := #[] } → ItemsOf (fun i v => items[items.size - 1 - i]? = some v) acc items.size →
      Q (.ref s.heap.objs.size) { s with heap := h', toks := tk }) : wpAny (model prog w) A (call (.type "list") [.ref it]) Q E s := by
  have W := (walks_rt (prog := prog) (w := w) (A := A.in1.in1) hh it t hne items hn).toS
  obtain ⟨oi, hoi, _⟩ := id hit
  obtain ⟨ot, hot, _⟩ := id ht
  have zlt : it < s.heap.objs.size := Heap.lt_size hoi
  have tlt : t < s.heap.objs.size := Heap.lt_size hot
  refine callType_codes (Q₁ := fun obj s' => obj = .ref s.heap.objs.size ∧ s' = { s with heap := s.heap.push { cls := .type "list", data := .seq #[] } }) PySem.F.called_list (PySem.F.typeCall_list_1 _) PySem.F.entry_list_init (code_list_new _ ⟨rfl, rfl⟩) ?_
  rintro obj s' ⟨rfl, rfl⟩
  have at0 : (s.heap.push { cls := .type "list", data := .seq #[] }).get? s.heap.objs.size = some { cls := .type "list", data := .seq #[] } := Heap.get?_push_size _ rfl
  refine ⟨⟨_, at0, rfl⟩, PySem.F.args_list_init_2 _ _, ?_⟩
  show wpAny _ A.in1.in1 (do let old ← Builtin.List.listItems (.ref s.heap.objs.size); Builtin.List.listUpdate (.ref s.heap.objs.size) (fun _ => #[]); letGo old.toList.reverse; Builtin.List.listExtendWith (.ref s.heap.objs.size) (.ref it) .none) _ _ _
  refine wpAny_bind ?_
  unfold Builtin.List.listItems
  refine wpAny_bind (wpAny_seqItems at0 rfl (wpAny_pure ?_))
  show wpAny _ A.in1.in1 (updateSeq s.heap.objs.size (fun _ => #[]) >>= fun _ => letGo (#[] : Array Value).toList.reverse >>= fun _ => Builtin.List.listExtendWith (.ref s.heap.objs.size) (.ref it) .none) _ _ _
  refine wpAny_bind (wpAny_updateSeq at0 rfl (wpAny_bind (wpAny_letGo ?_)))
  have at1 := Heap.get?_update_self (Obj.mapSeq (fun _ => (#[] : Array Value))) at0 rfl
  have k1 : ∀ b o, s.heap.get? b = some o → ((s.heap.push { cls := .type "list", data := .seq #[] }).update s.heap.objs.size (Obj.mapSeq (fun _ => (#[] : Array Value)))).get? b = some o :=
    fun b o e => (Heap.get?_update_other _ _ (Nat.ne_of_gt (Heap.lt_size e))).trans (Heap.get?_push_of_some _ e)
  generalize (s.heap.push { cls := .type "list", data := .seq #[] }).update s.heap.objs.size (Obj.mapSeq (fun _ => (#[] : Array Value))) = g1 at at1 k1 ⊢
  have hit1 : IsRt g1 it t ((items.size : Int) - 1) := hit.at fun o e => k1 _ o e
  have ht1 : IsTup g1 t items := by
    obtain ⟨o, ho, r⟩ := ht
    exact ⟨o, k1 _ _ ho, r⟩
  have isz : ({ s with heap := g1 } : Shared).TypeIs (.ref it) "reversed" := IsRt.typeIs (s := { s with heap := g1 }) hit1
  have nsame : Builtin.List.listSameRef (.ref s.heap.objs.size) (.ref it) = false := by simp [Builtin.List.listSameRef, Nat.ne_of_gt zlt]
  have zz : (Value.type "reversed" == Value.type "list") = false := by decide
  have zt : (Value.type "reversed" == Value.type "tuple") = false := by decide
  unfold Builtin.List.listExtendWith
  refine wpAny_bind (wpAny_typeOf isz ?_)
  simp only [nsame, zz, zt, Bool.or_false, Bool.false_eq_true, if_false]
  refine wpAny_bind (iter_rt (s := { s with heap := g1 }) hit1 (wpAny_bind (wpAny_holding ?_)))
  unfold Builtin.List.listLengthHint
  refine wpAny_bind (wpAny_specialOf isz nolen_rt ?_)
  show wpAny _ A.in1.in1 (specialOf (Value.ref it) (Str.ofString "__length_hint__") >>= _) _ _ _
  refine wpAny_bind (wpAny_specialOf isz hint_rt ?_)
  generalize hid : ("reversed.__length_hint__" : String) = id0
  wp_delta
  rw [show splitId id0 = some ("reversed", "__length_hint__") from by subst hid; decide +kernel]
  subst hid
  refine wpAny_bind (wpAny_isInstance (b := true) isz (by rw [isSubtype_type]; kernel_rfl) ?_)
  rw [if_neg (by decide)]
  try dsimp only
  rw [if_neg (by decide +kernel)]
  refine wpAny_bind (wpAny_rule ?_)
  refine wpAny_bind (wpAny_of_eq (slot_rt_hint.bind _) ?_)
  try dsimp only
  refine wpAny_bind (wpAny_attempt (hint_rt_call (s := { s with heap := g1 }) hit1 ht1 hn fun tk tk' => ?_))
  try dsimp only
  have hS : ∀ (g2 : Heap) (c : Nat) (tk2 : Nat), (∀ b o, s.heap.get? b = some o → g2.get? b = some o) → g2.get? s.heap.objs.size = some { cls := .type "list", dict := none, data := .seq #[] c, slots := #[] } →
      codeAny (model prog w) A.in1 (.builtin "list.extend.loop" ⟨[.ref s.heap.objs.size, .ref it, .none], []⟩) (wants (fun r s₂ => r = Value.none ∧ Q (Value.ref s.heap.objs.size) s₂) E) { s with heap := g2, toks := tk2 } := by
    intro g2 c tk2 k2 at2
    have e0 : ((items.size : Nat) : Int) - 1 - ((0 : Nat) : Int) = (items.size : Int) - 1 := by omega
    refine codeAny_extend_loopS W hn _ ?_ .none items.size 0 { s with heap := g2, toks := tk2 } #[] c rfl (Nat.zero_le _) ⟨Nat.zero_le _, by rw [e0]; exact hit.at fun o e => k2 _ o e, by
      obtain ⟨o, ho, r⟩ := ht
      exact ⟨o, k2 _ _ ho, r⟩⟩ at2 (ItemsOf.nil _) fun s' acc' c' hm hS' hacc => ?_
    · simp only [List.mem_cons, List.not_mem_nil, or_false, not_or]
      exact ⟨Nat.ne_of_gt zlt, Nat.ne_of_gt tlt⟩
    · refine ⟨rfl, ?_⟩
      rw [Moved.eq_with hm]
      refine q s'.heap s'.toks acc' c' (fun b o hb e => hm.heap b o (fun hmem => ?_) (k2 _ _ e)) hS' hacc
      rcases List.mem_cons.mp hmem with e' | hmem
      · exact absurd (Heap.lt_size e) (by rw [e']; exact Nat.lt_irrefl _)
      · exact hb (List.mem_singleton.mp hmem)
  have hz0 : 0 ≤ (items.size : Int) := by omega
  have hz1 : (items.size : Int) < 2 ^ 63 := by
    rw [sizeLine_eq] at hn
    omega
  have hz2 : (items.size : Int).toNat ≤ sizeLine := by
    rw [Int.toNat_natCast]
    exact hn
  generalize ((items.size : Nat) : Int) = z at hz0 hz1 hz2 ⊢
  refine wpAny_bind (wpAny_of_eq (asInt_int z tk) ?_)
  try dsimp only
  rw [if_neg (by
    have : Builtin.List.listFitsIndex z = true := by
      unfold Builtin.List.listFitsIndex
      simp only [Bool.and_eq_true, decide_eq_true_eq]
      omega
    rw [this]; decide), if_neg (by omega), if_neg (by
    unfold Builtin.List.listTooLong
    simp only [decide_eq_true_eq]
    omega)]
  refine wpAny_pure ?_
  split
  · refine wpAny_bind (wpAny_rule (wpAny_bind ?_))
    show wpAny _ A.in1.in1 (updateSeq s.heap.objs.size (·.push .none) >>= fun _ => updateSeq s.heap.objs.size (·.pop)) _ _ _
    refine wpAny_bind (wpAny_updateSeq at1 rfl ?_)
    have at2 := Heap.get?_update_self (Obj.mapSeq (·.push Value.none)) at1 rfl
    refine wpAny_updateSeq (hz := by seq_fits) at2 rfl ?_
    have at3 := Heap.get?_update_self (Obj.mapSeq (·.pop)) at2 rfl
    refine wpAny_pure ⟨plainId_quiet F.plain_extend_loop _, ?_⟩
    refine hS _ _ tk' (fun b o e => ?_) at3
    have nb := Nat.ne_of_gt (Heap.lt_size e)
    exact (Heap.get?_update_other _ _ nb).trans ((Heap.get?_update_other _ _ nb).trans (k1 b o e))
  · refine wpAny_pure ⟨plainId_quiet F.plain_extend_loop _, ?_⟩
    exact hS g1 _ tk' k1 at1
end
/-- list(reversed(t)), t a tuple -/
def tListRevT (K : PySem.W.Frag) (te : TE) : TE := fun σ H Q => te σ H fun v H1 => ∃ (a : Addr) (xs : List V), v = .ref a ∧ SqT K H1 a xs ∧ ∀ q, H1 q = none → Q (.ref q) (upd H1 q (.lst xs.reverse))
theorem pe_listRevT {X : Cx} {e : Expr} {te : TE} {p p2 pos pos2 : Pos} (hc : X.calm = true) (hg : Gl X "list") (hm : X.mg "list" = none) (hg2 : Gl X "reversed") (hm2 : X.mg "reversed" = none) (he : PE X e te)
    (hs : starEach [e] X.env = (false, eval e X.env) :: starEach [] X.env := by rfl)
    (hs2 : starEach [.Call (.Name "reversed" p2) [e] [] pos2] X.env = (false, eval (.Call (.Name "reversed" p2) [e] [] pos2) X.env) :: starEach [] X.env := by rfl) :
    PE X (.Call (.Name "list" p) [.Call (.Name "reversed" p2) [e] [] pos2] [] pos) (tListRevT X.K te) := by
  refine ⟨fun pins s σ H Q I h => ?_⟩
  refine Call_ (ld_blt I hg hm (show bootBuiltins "list" = some (Value.type "list") by decide +kernel) (PyProof.Rows.callWith_type1 (args_cons (Call_ (ld_blt I hg2 hm2 PyProof.Rows.boot_reversed (PyProof.Rows.callWith_type1 (args_cons (thn (he.run pins s σ H _ I h) fun u s1 ⟨v, H1, I1, r1, q1⟩ => args_nil ?_) hs) hs rfl))) hs2) hs2 rfl))
  obtain ⟨a, xs, ev, hq, q⟩ := q1
  subst ev
  obtain rfl : u = Value.ref a := r1
  obtain ⟨its, rv, p', hz⟩ := I1.tuple hq
  have hl := rv.length
  have hn63 := line63
  have hn : its.toArray.size ≤ sizeLine := by rw [List.size_toArray, ← rv.length]; exact hz
  refine call_reversed_tup p' (fun A E Q k => len_tuple p' (by simp only [List.size_toArray] <;> omega) k) (args_nil ?_)
  have k0 : ∀ b o, s1.heap.get? b = some o → (s1.heap.push (rtObj a ((its.toArray.size : Int) - 1))).get? b = some o := fun b o e => Heap.get?_push_of_some _ e
  obtain ⟨ol, hol, _⟩ := id p'
  have hne : a ≠ s1.heap.objs.size := Nat.ne_of_lt (Heap.lt_size hol)
  refine call_list_rt (s := { s1 with heap := s1.heap.push (rtObj a ((its.toArray.size : Int) - 1)), toks := s1.toks + 1 + 1 }) (I1.ok.hd hc) ⟨_, Heap.get?_push_size _ rfl, rfl, rfl⟩ (by
    obtain ⟨o, ho, r⟩ := p'
    exact ⟨o, k0 _ _ ho, r⟩) hne hn fun h' tk acc c hk at' hi => ?_
  have kk : ∀ b o, s1.heap.get? b = some o → h'.get? b = some o := fun b o e => hk b o (Nat.ne_of_lt (Heap.lt_size e)) (k0 b o e)
  have le : s1.heap.objs.size ≤ (s1.heap.push (rtObj a ((its.toArray.size : Int) - 1))).objs.size := by
    have z : (s1.heap.push (rtObj a ((its.toArray.size : Int) - 1))).get? s1.heap.objs.size = some (rtObj a ((its.toArray.size : Int) - 1)) := Heap.get?_push_size _ rfl
    exact Nat.le_of_lt (Heap.lt_size z)
  exact ⟨.ref _, upd H1 _ (.lst xs.reverse), I1.laid (t' := tk) kk le (show ObjOk X.prog X.w _ h' _ (.lst xs.reverse) from ⟨by rw [List.length_reverse]; exact hz, acc.toList, c, vals_rev rv hi, by rw [Array.toArray_toList]; exact at'⟩), rfl, q _ (I1.hok.fresh le)⟩
end L3

/-! defs with a star parameter, known by their names -/
namespace L3
open PySem PySem.Spec PyProof.Rows L2 StX
structure KnR (P : Program) (w : World) (K : PySem.W.Frag) (mg : Str → Option Value) (base : Heap) (k : Nat) (x : Str) (sp : Sp) : Prop where
  ex : ∃ (f : Addr), FnR P w K mg base CX0 k f sp ∧ mg x = some (.ref f) ∧ PySem.W.keepIn K (.ref f) = true
def tCallR (sp : Sp) (t : TA) : TE := fun σ H Q => t σ H fun vs H1 => sp vs H1 Q E0
def tCallS (K : PySem.W.Frag) (sp : Sp) (te : TE) : TE := fun σ H Q => te σ H fun y H1 => ∃ a xs, y = V.ref a ∧ (SqT K H1 a xs ∨ SqL K H1 a xs) ∧ sp xs H1 Q E0
section
variable {X : Cx} {x : Str} {k : Nat} {sp : Sp} {e : Expr} {es : List Expr} {te : TE} {t : TA} {p sp_ pos : Pos}
theorem pe_ks (D : KnR X.prog X.w X.K X.mg X.base k x sp) (hr : Room k X.A) (ha : PA X (e :: es) t) (hg : Gl X x := by rfl) (hdb : (x == ("__debug__" : Str)) = false := by decide)
    (he : starEach (e :: es) X.env = (false, eval e X.env) :: starEach es X.env := by rfl) (hpl : (backTo pos (starEach es X.env)).any (·.1) = false := by rfl) :
    PE X (.Call (.Name x p) (e :: es) [] pos) (tCallR sp t) := by
  obtain ⟨f, F, hm, hk⟩ := D.ex
  refine ⟨fun pins s σ H Q I h => ?_⟩
  refine wpAny_Call_Name_kw (ld_glob I hg hm ?_ hdb)
  refine PySem.W.callWith_K (h₀ := X.base) I.ok.mod.kin hk (thn (ha.run pos pins s σ H _ I h) fun us s1 ⟨vs, H1, I1, r, q⟩ => ⟨I1.kIn, ?_⟩) he hpl
  exact wpAny_call (run_fnR F hr pass0 I1 r q)
theorem pe_ks0 (D : KnR X.prog X.w X.K X.mg X.base k x sp) (hr : Room k X.A) (hg : Gl X x := by rfl) (hdb : (x == ("__debug__" : Str)) = false := by decide) : PE X (.Call (.Name x p) [] [] pos) (tCallR sp tNil) := by
  obtain ⟨f, F, hm, hk⟩ := D.ex
  refine ⟨fun pins s σ H Q I h => ?_⟩
  refine wpAny_Call_Name_kw (ld_glob I hg hm ?_ hdb)
  exact PySem.W.callWith_K0 I.kIn hk (wpAny_call (run_fnR (us := []) F hr pass0 I .nil h))
theorem pe_ks1 (D : KnR X.prog X.w X.K X.mg X.base k x sp) (hr : Room k X.A) (he : PE X e te) (hg : Gl X x := by rfl) (hd : (x == ("__debug__" : Str)) = false := by decide)
    (hst : starEach [.Starred e sp_] X.env = [(true, eval e X.env)] := by rfl) :
    PE X (.Call (.Name x p) [.Starred e sp_] [] pos) (tCallS X.K sp te) := by
  obtain ⟨f, F, hm, hk⟩ := D.ex
  exact pe_callS1 F hr hk hg hm pass0 he hd hst
end
section
variable {P : Program} {w : World} {K : PySem.W.Frag} {mg : Str → Option Value} {base : Heap}
/-- what a def with a star parameter is promised, by what it is promised of the tuple -/
def spStar (n : Nat) (sp : Sp) : Sp := fun vs H Q E => ∃ ws rest, vs = ws ++ rest ∧ ws.length = n ∧ rest.length ≤ sizeLine ∧ ∀ p, H p = none → sp (ws ++ [V.ref p]) (upd H p (.tup rest)) Q E
theorem fn_starK {x qual pv : Str} {st : Stmt} {f : Addr} {fd : FuncData} {N ps : List Str} {k : Nat} {sp : Sp} (F : Fun K x qual st f fd) (S : FnScope N (ps ++ [pv]) (defScope st))
    (hb : ∀ (kV doc pm : Value) (an : Option Addr) (cdv ct : Value) (us rest : List Value), us.length = ps.length → bindArgs (PySem.W.fnOf x qual (defArgs st) (defBody st) (defScope st) .none kV doc pm an cdv ct) ⟨us ++ rest, []⟩ = (newTuple rest >>= fun t => pure (ps.zip us ++ [(pv, t)])))
    (hbody : ∀ (cdv : Value) (A : Around) (outer : List Env) (s : Shared) (H : Hp) (vs : List V) (Q : VK) (E : XK), Room k (A.deeper (envOfC qual (defScope st) s.heap.objs.size f cdv)) → sp vs H Q E →
      ∃ t, PSs (cxOf CX0 P w K mg base N qual (defScope st) f cdv A outer s H E).nox (defBody st) t ∧ t { nx := fun _ H' => Q .non H', rt := Q } (start N vs) H) : FnR P w K mg base CX0 (k + 1) f (spStar ps.length sp) := by
  obtain ⟨oc, od, kV, doc, pm, an, cdv, ct, osl, rfl, lk, hcd⟩ := F.ex
  exact fn_star lk hcd S (fun _ _ _ _ _ _ _ _ _ _ _ z => z) (hb kV doc pm an cdv ct) fun A outer s H vs Q E hr h => by
    obtain ⟨t, ht, q⟩ := hbody cdv A outer s H vs Q E hr h
    exact ⟨t, PSs.nox ht, q⟩
end
end L3

/-! a known function called by keywords alone -/
namespace L3
open PySem L2
structure KnK (P : Program) (w : World) (K : PySem.W.Frag) (mg : Str → Option Value) (base : Heap) (k : Nat) (x : Str) (ps : List Str) (sp : Sp) : Prop where
  ex : ∃ (f : Addr) (fd : FuncData), FnOk P w K mg base CX0 k f fd ps sp ∧ mg x = some (.ref f) ∧ PySem.W.keepIn K (.ref f) = true ∧ KBinds K fd ps ps (fun us ws => us ++ ws) (fun vs zs => vs ++ zs)
section
variable {X : Cx} {x : Str} {k : Nat} {ps : List Str} {sp : Sp} {kws : List Keyword} {tk : TA} {p pos : Pos}
theorem pe_knK (D : KnK X.prog X.w X.K X.mg X.base k x ps sp) (hr : Room k X.A) (hkw : PK X kws tk) (hg : Gl X x := by rfl) (hdb : (x == ("__debug__" : Str)) = false := by decide)
    (hall : (backToKw pos (keywordEach kws X.env)).all (·.1.isSome) = true := by rfl) (hks : (backToKw pos (keywordEach kws X.env)).filterMap (·.1) = ps := by rfl)
    (hpl : ((backTo pos (starEach [] X.env)).any (·.1) || (backToKw pos (keywordEach kws X.env)).any (·.1.isNone)) = false := by rfl) :
    PE X (.Call (.Name x p) [] kws pos) (fun σ H Q => tk σ H fun zs H2 => sp zs H2 Q E0) := by
  obtain ⟨f, fd, F, hm, hk, hb⟩ := D.ex
  refine ⟨fun pins s σ H Q I h => wpAny_Call_Name_kw (ld_glob I hg hm ?_ hdb)⟩
  refine PySem.W.callWith_KW0 (h₀ := X.base) I.ok.mod.kin hk hall (thn (hkw.run pos pins s σ H _ I h) fun ws s2 ⟨zs, H2, I2, rz, q2⟩ => ⟨I2.kIn, ?_⟩) hpl
  rw [hks]
  exact run_fnk (us := []) (vs := []) F hr hb pass0 I2 .nil rz q2
/-- a function of one parameter -/
theorem kbinds1 {K : PySem.W.Frag} {fd : FuncData} {x : Str} (h : ∀ (s : Shared) (v : Value), BindsTo s fd ⟨[v], []⟩ [(x, v)]) (h2 : ∀ (s : Shared) (v : Value), BindsTo s fd ⟨[], [(x, v)]⟩ [(x, v)]) : KBinds K fd [x] [x] (fun us ws => us ++ ws) (fun vs zs => vs ++ zs) where
  to := fun s us ws _ hl => by
    match us, ws, hl with
    | [], [w], _ => exact h2 s w
    | [u], [], _ => exact h s u
  rel := fun r rz => by
    induction r with
    | nil => exact rz
    | cons a b ih => exact .cons a ih
end
end L3

/-! own exceptions as values, over any built-in one: stores within __init__ -/
namespace L3
open PySem PySem.Spec PyProof.Rows L2
/-- an own class over a built-in exception, as the written part has it -/
structure Xc (K : PySem.W.Frag) (C : Addr) (bmB : List Value) (nw : String) : Prop where
  ini : PySem.W.excInitIn K C bmB nw = true
  ov : PySem.W.excOver K C bmB = true
  sa : PySem.W.findIn K (.ref C) "__setattr__" = some (some (.builtin "object.__setattr__"))
  kC : PySem.W.keepIn K (.ref C) = true
  dct : PySem.W.hasDictIn K C = true
theorem Xc.cls {K : PySem.W.Frag} {C : Addr} {bmB : List Value} {nw : String} (T : Xc K C bmB nw) : ∃ cd, PySem.W.clsIn K C = some cd ∧ cd.hasDict = true := by
  obtain ⟨cd, h1, h2⟩ := PySem.W.any_some T.dct
  exact ⟨cd, h1, h2⟩
section
variable {X : Cx} {pins : List (Addr × Obj)} {σ : L2.St} {H : Hp} {s : Shared} {a C dx : Addr} {f : Str} {y : V} {u : Value} {fs : List (Str × V)} {bmB : List Value} {B nw : String} {Q : Unit → Shared → Prop} {E : Value → Shared → Prop} {A : Around}
open Builtin Builtin.ObjectAttr in
theorem set_first (SF : StoreFacts B bmB "object.__setattr__" "object") (T : Xc X.K C bmB nw) (I : Inv X pins σ H s) (e : H a = some (exo a C none)) (ht : PySem.W.takerIn X.K C f = some none) (ry : RelV y u)
    (h : ∀ dx s', H dx = none → dx ≠ a → Inv X pins σ (upd (upd H dx (exd dx [(f, y)])) a (exo a C (some dx))) s' → Q () s') : wpAny (model X.prog X.w) A (setAttr (.ref a) f u) Q E s := by
  obtain ⟨cd, hcl, hdd⟩ := T.cls
  obtain ⟨t1, ho⟩ := exo_at I.hok e
  have X0 := I.kIn
  obtain ⟨hp, g, d, t, os⟩ := s
  have J : PySem.W.InstAt hp a { cls := .ref C, dict := none, data := .fields #[.ref t1, .none, .none, .none, .bool false, .none] } C none := ⟨ho, rfl, rfl, trivial⟩
  refine PySem.W.set_plain X0 J T.sa ?_
  refine PySem.W.osa_openX SF X0 J T.ov ht fun b => ?_
  have Lc : PySem.W.Looks (model X.prog X.w) hp (classData C) cd := PySem.W.looks_clsIn X0 hcl
  obtain ⟨nm, bs, mro, ns, qn, hd, sn, sb, ab, col, dl⟩ := cd
  dsimp only at hdd
  subst hdd
  have nx : a ≠ hp.objs.size := Nat.ne_of_lt (Heap.lt_size ho)
  show wpAny _ _ (storeInOwnDict (.ref a) (.ref C) (.str f _) f u b) _ _ _
  unfold storeInOwnDict ownDictForStores
  repeat (first | with_reducible refine PySem.HandSPX.store_in_new ?_ ?_ | with_reducible refine wpAny_loadPart_at ho ?_ | with_reducible refine Lc.at ?_ | wp_step)
  · exact ⟨_, #[], _, (Heap.get?_update_ne _ _ _ _ nx.symm).trans (Heap.get?_push_at rfl rfl), rfl, fun q hq => absurd hq (by simp), fun _ => rfl⟩
  · intro h1 tk1 n1 sb1
    have gx : h1.get? a = some { cls := .ref C, dict := some hp.objs.size, data := .fields #[.ref t1, .none, .none, .none, .bool false, .none] } := (sb1.2 a nx).trans (Heap.get?_update_self _ (Heap.get?_push_of_some _ ho) rfl)
    have kp : ∀ b o, b ≠ a → hp.get? b = some o → h1.get? b = some o := fun b o nb q => (sb1.2 b (Nat.ne_of_lt (Heap.lt_size q))).trans ((Heap.get?_update_ne _ _ _ _ nb).trans (Heap.get?_push_of_some _ q))
    have fr : H hp.objs.size = none := I.hok.fresh (Nat.le_refl _)
    have lt : ∀ {b o}, hp.get? b = some o → b ≠ hp.objs.size := fun q => Nat.ne_of_lt (Heap.lt_size q)
    have no : ∀ {b}, H b = none → b ≠ a := fun n z => by rw [z, e] at n; cases n
    -- what stands at b is not the exception, nor new
    have past : ∀ {b o}, H b = some o → o ≠ exo a C none → (upd (upd H hp.objs.size (exd hp.objs.size [(f, y)])) a (exo a C (some hp.objs.size))) b = some o := fun {b o} q n => by
      rw [upd_ne (at_ne e q n.symm), upd_ne (ne_of_none q fr)]
      exact q
    have un : Un X.fs [] H (upd (upd H hp.objs.size (exd hp.objs.size [(f, y)])) a (exo a C (some hp.objs.size))) hp h1 :=
      ⟨fun b o q n _ _ => kp b o (no n) q, fun b o q n _ _ => ⟨o.slots, kp b o (no n) q⟩, fun b o q n _ => by rw [upd_ne (no n), upd_ne (lt q)]; exact n,
       fun b o q _ => (Classical.em (b = a)).elim (fun z => ⟨_, z ▸ gx⟩) fun z => ⟨o, kp b o z q⟩, fun b xs q => past q exo_tup.symm, fun b o v q => past q exo_frz.symm, fun b ps q => ⟨#[], by rw [past q exo_tbl.symm]; simp⟩⟩
    refine h _ _ fr nx.symm (I.un (t' := tk1) un fun b o q => ?_)
    by_cases za : b = a
    · cases za
      rw [upd_same] at q
      cases q
      exact exo_ok gx
    · rw [upd_ne za] at q
      by_cases zd : b = hp.objs.size
      · cases zd
        rw [upd_same] at q
        cases q
        exact exd_ok n1 (relO_put (fs := []) ry fun _ => trivial)
      · rw [upd_ne zd] at q
        refine (I.hok b o q).stay (fun c v hc z => kp c v ?_ z) (fun c hc => past hc exo_own.symm) (fun c xs hc => past hc exo_tup.symm)
        rcases hc with rfl | hc
        · exact za
        · exact at_ne e hc exo_own
open Builtin Builtin.ObjectAttr in
theorem set_more (SF : StoreFacts B bmB "object.__setattr__" "object") (T : Xc X.K C bmB nw) (I : Inv X pins σ H s) (e : H a = some (exo a C (some dx))) (ed : H dx = some (exd dx fs)) (hl : fs.length ≤ 900) (ht : PySem.W.takerIn X.K C f = some none) (ry : RelV y u)
    (h : ∀ s', Inv X pins σ (upd H dx (exd dx ((f, y) :: fs))) s' → Q () s') : wpAny (model X.prog X.w) A (setAttr (.ref a) f u) Q E s := by
  obtain ⟨cd, hcl, hdd⟩ := T.cls
  obtain ⟨t1, ho⟩ := exo_at I.hok e
  obtain ⟨m0, ns0, rel⟩ := exd_at I.hok ed
  have wi := within_of rel
  have X0 := I.kIn
  obtain ⟨hp, g, d, t, os⟩ := s
  obtain ⟨o2, _, _, ho2, _, _⟩ := ns0.count wi
  have J : PySem.W.InstAt hp a { cls := .ref C, dict := some dx, data := .fields #[.ref t1, .none, .none, .none, .bool false, .none] } C (some o2) := ⟨ho, rfl, rfl, ho2⟩
  refine PySem.W.set_plain X0 J T.sa ?_
  refine PySem.W.osa_openX SF X0 J T.ov ht fun b => ?_
  have Lc : PySem.W.Looks (model X.prog X.w) hp (classData C) cd := PySem.W.looks_clsIn X0 hcl
  obtain ⟨nm, bs, mro, ns, qn, hd, sn, sb, ab, col, dl⟩ := cd
  dsimp only at hdd
  subst hdd
  show wpAny _ _ (storeInOwnDict (.ref a) (.ref C) (.str f _) f u b) _ _ _
  unfold storeInOwnDict ownDictForStores
  repeat (first | with_reducible refine PySem.OEX.store_in_old ns0 wi (by rw [List.length_map]; omega) ?_ | with_reducible refine wpAny_loadPart_at ho ?_ | with_reducible refine Lc.at ?_ | wp_step)
  intro h1 tk1 n1 sb1
  refine h _ (I.write (t' := tk1) (x := dx) (e := dx) (o := exd dx ((f, y) :: fs)) (by rw [ed]; trivial) (.inl rfl) (fun b o nb q => (sb1.2 b nb).trans q) ?_ (exd_ok n1 (relO_put ry rel)))
  obtain ⟨o, _, _, q, _⟩ := n1
  exact ⟨o, q⟩
end
/-- self.f = e within __init__ -/
def tSetX (K : PySem.W.Frag) (bmB : List Value) (nw : String) (f : Str) (to te : TE) : TS := fun D σ H => te σ H fun y H1 => to σ H1 fun x H2 => ∃ a C : Addr, x = .ref a ∧ Xc K C bmB nw ∧ PySem.W.takerIn K C f = some none ∧
  ((H2 a = some (exo a C none) ∧ ∀ dx, H2 dx = none → dx ≠ a → D.nx σ (upd (upd H2 dx (exd dx [(f, y)])) a (exo a C (some dx)))) ∨
    ∃ (dx : Addr) (fs : List (Str × V)), H2 a = some (exo a C (some dx)) ∧ H2 dx = some (exd dx fs) ∧ fs.length ≤ 900 ∧ D.nx σ (upd H2 dx (exd dx ((f, y) :: fs))))
/-- C(..), C's own __init__ keeping sp: the exception itself -/
def tNewX (C : Addr) (sp : Sp) (ta : TA) : TE := fun σ H Q => ta σ H fun vs H1 => vs.length ≤ 1000 ∧ ∀ a, H1 a = none → sp (.ref a :: vs) (upd H1 a (exo a C none)) (fun v H2 => v = .non ∧ Q (.ref a) H2) E0
section
variable {X : Cx} {o e : Expr} {es : List Expr} {to te : TE} {ta : TA} {f : Str} {p p' pos : Pos} {bmB : List Value} {B nw ini : String} {C : Addr}
theorem ps_setX (SF : StoreFacts B bmB "object.__setattr__" "object") (ho : PE X o to) (he : PE X e te) (hs : swapsWith e (some (.Attribute o f p')) pos.line X.env = pure false := by rfl) : PS X (.Assign [.Attribute o f p'] e pos) (tSetX X.K bmB nw f to te) := by
  refine ⟨fun pins s σ H D I h => plainObj_wpAny_Assign_Attribute (thn (he.run pins s σ H _ I h) fun v s1 ⟨y, H1, I1, r1, q1⟩ => thn (ho.run pins s1 σ H1 _ I1 q1) fun u s2 ⟨x, H2, I2, r2, a, C, ex, T, ht, q⟩ => ?_) hs⟩
  subst ex
  obtain rfl : u = Value.ref a := r2
  rcases q with ⟨ea, q⟩ | ⟨dx, fs, ea, ed, hl, q⟩
  · exact set_first SF T I2 ea ht r1 fun dx s3 n ne J => ⟨σ, _, J, q dx n ne⟩
  · exact set_more SF T I2 ea ed hl ht r1 fun s3 J => ⟨σ, _, J, q⟩
/-- an own class with an own __init__ -/
structure Xi (P : Program) (w : World) (K : PySem.W.Frag) (mg : Str → Option Value) (base : Heap) (k : Nat) (C : Addr) (ps : List Str) (sp : Sp) : Prop where
  ex : ∃ (fI : Addr) (fd : FuncData), FnOk P w K mg base CX0 k fI fd ps sp ∧ PySem.W.findIn K (.ref C) "__init__" = some (some (.ref fI)) ∧ PySem.W.typeIn K (.ref fI) = some (.type "function") ∧ Binds K fd ps []
theorem pe_newX {x : Str} {k : Nat} {ps : List Str} {sp : Sp} (FB : ExcBaseFacts B nw ini bmB) (T : Xc X.K C bmB nw) (D : Xi X.prog X.w X.K X.mg X.base k C ps sp) (hr : Room (k + 1) X.A) (hm : X.mg x = some (.ref C)) (ha : PA X (e :: es) ta) (hg : Gl X x := by rfl)
    (hdb : (x == ("__debug__" : Str)) = false := by decide) (he : starEach (e :: es) X.env = (false, eval e X.env) :: starEach es X.env := by rfl) (hpl : (backTo pos (starEach es X.env)).any (·.1) = false := by rfl) :
    PE X (.Call (.Name x p) (e :: es) [] pos) (tNewX C sp ta) := by
  obtain ⟨fI, fd, F1, iC, tI, hb⟩ := D.ex
  refine ⟨fun pins s σ H Q I h => wpAny_Call_Name_kw (ld_glob I hg hm ?_ hdb)⟩
  refine PySem.W.callWith_K (h₀ := X.base) I.ok.mod.kin T.kC (thn (ha.run pos pins s σ H _ I h) fun us s1 ⟨vs, H1, I1, r1, hz, q1⟩ => ⟨I1.kIn, ?_⟩) he hpl
  show wpAny _ _ (call (.ref C) us) _ _ _
  obtain ⟨nm, N, qn, bs, bm, hd, sn, sb, ab, col, dd, k0, k1, k2, k3, k5, hC, hT⟩ := PySem.W.excInit_of I1.kIn T.ini
  obtain ⟨hp, g, dr, tk, os⟩ := s1
  have lz : us.length ≤ sizeLine := by rw [← r1.length, sizeLine_eq]; omega
  have fr : H1 (hp.objs.size + 1) = none := I1.hok.fresh (Nat.le_succ _)
  have J : Inv X pins σ (upd H1 (hp.objs.size + 1) (exo (hp.objs.size + 1) C none)) ⟨(hp.push (PySem.W.kdv_tup us)).push (PySem.HandSPX.excO C hp.objs.size), g, dr, tk, os⟩ :=
    I1.laid (t' := tk) (fun b o q => Heap.get?_push_of_some _ (Heap.get?_push_of_some _ q)) (Nat.le_succ _) (exo_ok (by heap_get))
  have q2 := q1 _ fr
  have rv : Vals (V.ref (hp.objs.size + 1) :: vs) (Value.ref (hp.objs.size + 1) :: us) := .cons rfl r1
  have ln : (Value.ref (hp.objs.size + 1) :: us ++ []).length = ps.length := by
    rw [List.append_nil, ← rv.length]
    exact F1.len _ _ _ _ q2
  have bi := hb ⟨(hp.push (PySem.W.kdv_tup us)).push (PySem.HandSPX.excO C hp.objs.size), g, dr, tk, os⟩ _ J.kIn ln
  rw [List.append_nil] at bi
  refine wpAny_call (PySem.HandSPX.call_own FB hT hC (PySem.W.looks_findIn I1.kIn iC) (fun self => PySem.W.bind_fn I1.kIn self tI) lz (codeAny_mono (F1.run _ X.stack _ _ ⟨Value.ref (hp.objs.size + 1) :: us, []⟩ (Value.ref (hp.objs.size + 1) :: us) _ _ E0 (hr.make C us []) (J.env0.make C us []) bi rv q2) fun r s' z => ?_))
  cases r with
  | error er => exact z.elim
  | ok fl =>
    cases fl with
    | ret u =>
      obtain ⟨v, H2, I2, r2, ev, q3⟩ := J.after z
      subst ev
      exact ⟨r2, .ref (hp.objs.size + 1), H2, I2, rfl, q3⟩
    | next => exact z.elim
    | brk => exact z.elim
    | cont => exact z.elim
/-- what the class must say so that its exceptions are read and asked -/
structure Xr (K : PySem.W.Frag) (C : Addr) : Prop where
  ga : PySem.W.findIn K (.ref C) "__getattribute__" = some (some (.builtin "BaseException.__getattribute__"))
  gg : PySem.W.findIn K (.ref C) "__getattr__" = some none
  sb : PySem.W.subIn K (.ref C) (.type "BaseException") = some true
  dct : PySem.W.hasDictIn K C = true
  cl : PySem.W.findIn K (.ref C) "__class__" = some (some (.builtin "object.__class__"))
  gs : PySem.W.specialIn K (.builtin "object.__class__") "__get__" = some (some (.builtin "getset_descriptor.__get__"))
  tk : PySem.W.takesIn K (.builtin "object.__class__") = some true
  ob : PySem.W.mroIn K C (.type "object") = some true
/-- e.f -/
def tFld (K : PySem.W.Frag) (f : Str) (te : TE) : TE := fun σ H Q => te σ H fun x H1 => ∃ (a C d : Addr) (fs : List (Str × V)) (v : V), x = .ref a ∧ Xr K C ∧ PySem.W.findIn K (.ref C) f = some none ∧ H1 a = some (exo a C (some d)) ∧ H1 d = some (exd d fs) ∧ fs.lookup f = some v ∧ Q v H1
theorem pe_fld (he : PE X e te) (hb : attributeBase e f X.env (eval e X.env) = eval e X.env := by rfl) : PE X (.Attribute e f pos) (tFld X.K f te) := by
  refine ⟨fun pins s σ H Q I h => attr_of hb (thn (he.run pins s σ H _ I h) fun u s1 ⟨x, H1, I1, rx, a, C, d, fs, v, ex, T, no, ea, ed, l, q⟩ => ?_)⟩
  subst ex
  obtain rfl : u = Value.ref a := rx
  obtain ⟨t1, ho⟩ := exo_at I1.hok ea
  obtain ⟨mA, ns, rl⟩ := exd_at I1.hok ed
  obtain ⟨od, hd, lk⟩ := lookIn_ns ns
  obtain ⟨z, hz, rz⟩ := RelO.some_of (v := v) (o := mA f) (by rw [← l]; exact rl f)
  have J : PySem.W.InstAt s1.heap a _ C (some od) := ⟨ho, rfl, rfl, hd⟩
  exact PySem.HandSPX.exc_get I1.kIn J T.ga T.gg T.sb (PySem.W.findObj_own T.dct no rfl (by rw [lk, hz])) (handed_of rz) ⟨v, H1, I1.tok _, rz, q⟩
/-- isinstance(e, c) -/
def rIsX (K : PySem.W.Frag) : List V → Hp → VK → Prop := fun xs H Q => ∃ (a C : Addr) (d : Option Addr) (c : V) (cv : Value) (b : Bool), xs = [.ref a, c] ∧ Xr K C ∧ H a = some (exo a C d) ∧ (∀ x, d = some x → ∃ fs, H x = some (exd x fs)) ∧ (∀ u, RelV c u → u = cv) ∧ PySem.W.kitOne K (.ref C) cv = some b ∧ Q (.bl b) H
theorem call_isX : CallR X (.builtin "isinstance") (rIsX X.K) := by
  intro pins s σ H xs us Q I r ⟨a, C, d, c, cv, b, exs, T, ea, hd, hc, e, q⟩
  subst exs
  cases r with
  | cons ra rr =>
    cases rr with
    | cons rc rr =>
      cases rr
      cases ra
      cases hc _ rc
      obtain ⟨t1, ho⟩ := exo_at I.hok ea
      obtain ⟨od, J⟩ : ∃ od, PySem.W.InstAt s.heap a { cls := .ref C, dict := d, data := .fields #[.ref t1, .none, .none, .none, .bool false, .none] } C od := by
        cases d with
        | none => exact ⟨none, ho, rfl, rfl, trivial⟩
        | some x =>
          obtain ⟨fs, hx⟩ := hd x rfl
          obtain ⟨mA, ns, _⟩ := exd_at I.hok hx
          obtain ⟨od, ho2, _⟩ := lookIn_ns ns
          exact ⟨some od, ho, rfl, rfl, ho2⟩
      have cl : (PySem.W.clsIn X.K C).isSome = true := by
        obtain ⟨cd, h1, _⟩ := PySem.W.any_some T.dct
        rw [h1]
        rfl
      exact PySem.W.kia_one (PySem.W.kitx_exc cl T.ga T.gg T.sb T.cl T.gs T.tk T.ob) I.kIn J e (fun z => nomatch z) fun tk => ⟨.bl b, H, I.kept (t' := tk) fun _ _ z => z, rfl, q⟩
end
end L3

/-! raise C(..), C an own class over any built-in class of errors, its __init__ a def -/
namespace L3
open PySem L2
/-- what is flying: an exception of C with the fields fs -/
def tMkX (C : Addr) (sp : Sp) (ta : TA) : L2.St → Hp → XK → Prop := fun σ H Q => ta σ H fun vs H1 => vs.length ≤ 1000 ∧ ∀ a, H1 a = none →
  sp (.ref a :: vs) (upd H1 a (exo a C none)) (fun v H2 => v = .non ∧ ∃ (d : Addr) (fs : List (Str × V)), H2 a = some (exo a C (some d)) ∧ H2 d = some (exd d fs) ∧ H1 d = none ∧ Q (.ref C) (some d) (upd (del H2 a) d (.xd fs))) E0
section
variable {X : Cx} {e : Expr} {es : List Expr} {ta : TA} {p pos : Pos} {bmB : List Value} {B nw ini : String} {C : Addr}
theorem pmk_newX {x : Str} {k : Nat} {ps : List Str} {sp : Sp} (FB : ExcBaseFacts B nw ini bmB) (T : Xc X.K C bmB nw) (sb : PySem.W.subIn X.K (.ref C) (.type "BaseException") = some true) (ty : PySem.W.typeIn X.K (.ref C) = some (.type "type")) (D : Xi X.prog X.w X.K X.mg X.base k C ps sp) (hr : Room (k + 1) X.A) (hm : X.mg x = some (.ref C)) (ha : PA X (e :: es) ta) (hg : Gl X x := by rfl)
    (hdb : (x == ("__debug__" : Str)) = false := by decide) (he : starEach (e :: es) X.env = (false, eval e X.env) :: starEach es X.env := by rfl) (hpl : (backTo pos (starEach es X.env)).any (·.1) = false := by rfl) :
    PMk X (.Call (.Name x p) (e :: es) [] pos) (tMkX C sp ta) := by
  obtain ⟨fI, fd, F1, iC, tI, hb⟩ := D.ex
  intro pins s σ H Q I h
  refine wpAny_Call_Name_kw (ld_glob I hg hm ?_ hdb)
  refine PySem.W.callWith_K (h₀ := X.base) I.ok.mod.kin T.kC (thn (ha.run pos pins s σ H _ I h) fun us s1 ⟨vs, H1, I1, r1, hz, q1⟩ => ⟨I1.kIn, ?_⟩) he hpl
  show wpAny _ _ (call (.ref C) us) _ _ _
  obtain ⟨nm, N, qn, bs, bm, hd, sn, sbb, ab, col, dd, k0, k1, k2, k3, k5, hC, hT⟩ := PySem.W.excInit_of I1.kIn T.ini
  obtain ⟨hp, g, dr, tk, os⟩ := s1
  have lz : us.length ≤ sizeLine := by rw [← r1.length, sizeLine_eq]; omega
  have hsz : hp.objs.size ≤ hp.objs.size + 1 := Nat.le_succ _
  have fr : H1 (hp.objs.size + 1) = none := I1.hok.fresh hsz
  have kk : ∀ b o, hp.get? b = some o → ((hp.push (PySem.W.kdv_tup us)).push (PySem.HandSPX.excO C hp.objs.size)).get? b = some o := fun b o q => Heap.get?_push_of_some _ (Heap.get?_push_of_some _ q)
  have J : Inv X pins σ (upd H1 (hp.objs.size + 1) (exo (hp.objs.size + 1) C none)) ⟨(hp.push (PySem.W.kdv_tup us)).push (PySem.HandSPX.excO C hp.objs.size), g, dr, tk, os⟩ :=
    I1.laid (t' := tk) kk hsz (exo_ok (by heap_get))
  have q2 := q1 _ fr
  have rv : Vals (V.ref (hp.objs.size + 1) :: vs) (Value.ref (hp.objs.size + 1) :: us) := .cons rfl r1
  have ln : (Value.ref (hp.objs.size + 1) :: us ++ []).length = ps.length := by
    rw [List.append_nil, ← rv.length]
    exact F1.len _ _ _ _ q2
  have bi := hb ⟨(hp.push (PySem.W.kdv_tup us)).push (PySem.HandSPX.excO C hp.objs.size), g, dr, tk, os⟩ _ J.kIn ln
  rw [List.append_nil] at bi
  refine wpAny_call (PySem.HandSPX.call_own FB hT hC (PySem.W.looks_findIn I1.kIn iC) (fun self => PySem.W.bind_fn I1.kIn self tI) lz (codeAny_mono (F1.run _ X.stack _ _ ⟨Value.ref (hp.objs.size + 1) :: us, []⟩ (Value.ref (hp.objs.size + 1) :: us) _ _ E0 (hr.make C us []) (J.env0.make C us []) bi rv q2) fun r s' z => ?_))
  cases r with
  | error er => exact z.elim
  | ok fl =>
    cases fl with
    | ret u =>
      obtain ⟨v, H2, os2, bare2, un2, hok2, rvv, ⟨ev, d, fs, ea, ed, hd1, q3⟩⟩ := z
      subst ev
      obtain ⟨h2, g2, d2, t2, os'⟩ := s'
      exact ⟨rvv, mk_end (raises_own sb ty) I1 hsz kk un2 hok2 os2 bare2 ea ed hd1 q3⟩
    | next => exact z.elim
    | brk => exact z.elim
    | cont => exact z.elim
end
end L3

/-! defs that may raise, known by their names, with or without a star parameter -/
namespace L3
open PySem PySem.Spec PyProof.Rows L2 StX
structure KnX (P : Program) (w : World) (K : PySem.W.Frag) (mg : Str → Option Value) (base : Heap) (k : Nat) (x : Str) (ps : List Str) (sp : Sp) : Prop where
  ex : ∃ (f : Addr) (fd : FuncData), FnOk P w K mg base (L2.CX P w) k f fd ps sp ∧ mg x = some (.ref f) ∧ PySem.W.keepIn K (.ref f) = true ∧ Binds K fd ps []
structure KnSX (P : Program) (w : World) (K : PySem.W.Frag) (mg : Str → Option Value) (base : Heap) (k : Nat) (x : Str) (sp : Sp) : Prop where
  ex : ∃ (f : Addr), FnR P w K mg base (L2.CX P w) k f sp ∧ mg x = some (.ref f) ∧ PySem.W.keepIn K (.ref f) = true
theorem Fun.knX {K : PySem.W.Frag} {P : Program} {w : World} {mg : Str → Option Value} {base : Heap} {x : Str} {st : Stmt} {f : Addr} {fd : FuncData} {k : Nat} {ps : List Str} {sp : Sp} (F : Fun K x x st f fd) (hm : mg x = some (.ref f)) (h : FnOk P w K mg base (L2.CX P w) k f fd ps sp)
    (b : ∀ (kV doc pm : Value) (an : Option Addr) (cdv ct : Value) (us : List Value), us.length = ps.length → bindArgs (PySem.W.fnOf x x (defArgs st) (defBody st) (defScope st) .none kV doc pm an cdv ct) ⟨us, []⟩ = pure (ps.zip us)) : KnX P w K mg base k x ps sp :=
  ⟨f, fd, h, hm, F.kp, F.binds b⟩
section
variable {X : Cx} {x : Str} {k : Nat} {ps : List Str} {sp : Sp} {e : Expr} {es : List Expr} {t : TA} {p pos : Pos} {E : XK}
theorem pe_knX (D : KnX X.prog X.w X.K X.mg X.base k x ps sp) (hr : Room k X.A) (tk : Takes X (fun cls d _ H => E cls d H)) (ha : PA X (e :: es) t) (hg : Gl X x := by rfl) (hdb : (x == ("__debug__" : Str)) = false := by decide)
    (he : starEach (e :: es) X.env = (false, eval e X.env) :: starEach es X.env := by rfl) (hpl : (backTo pos (starEach es X.env)).any (·.1) = false := by rfl) :
    PE X (.Call (.Name x p) (e :: es) [] pos) (tCall sp [] E t) := by
  obtain ⟨f, fd, F, hm, hk, hb⟩ := D.ex
  exact pe_call F hr hg hm hk hb .nil (passes_call tk fun _ _ _ _ h => h) ha hdb he hpl
def tCallRX (sp : Sp) (E : XK) (t : TA) : TE := fun σ H Q => t σ H fun vs H1 => sp vs H1 Q E
theorem pe_ksX (D : KnSX X.prog X.w X.K X.mg X.base k x sp) (hr : Room k X.A) (tk : Takes X (fun cls d _ H => E cls d H)) (ha : PA X (e :: es) t) (hg : Gl X x := by rfl) (hdb : (x == ("__debug__" : Str)) = false := by decide)
    (he : starEach (e :: es) X.env = (false, eval e X.env) :: starEach es X.env := by rfl) (hpl : (backTo pos (starEach es X.env)).any (·.1) = false := by rfl) :
    PE X (.Call (.Name x p) (e :: es) [] pos) (tCallRX sp E t) := by
  obtain ⟨f, F, hm, hk⟩ := D.ex
  refine ⟨fun pins s σ H Q I h => ?_⟩
  refine wpAny_Call_Name_kw (ld_glob I hg hm ?_ hdb)
  refine PySem.W.callWith_K (h₀ := X.base) I.ok.mod.kin hk (thn (ha.run pos pins s σ H _ I h) fun us s1 ⟨vs, H1, I1, r, q⟩ => ⟨I1.kIn, ?_⟩) he hpl
  exact wpAny_call (run_fnR F hr (passes_call tk fun _ _ _ _ h => h) I1 r q)
end
section
variable {P : Program} {w : World} {K : PySem.W.Frag} {mg : Str → Option Value} {base : Heap}
theorem fn_starX {x qual pv : Str} {st : Stmt} {f : Addr} {fd : FuncData} {N ps : List Str} {k : Nat} {sp : Sp} (F : Fun K x qual st f fd) (S : FnScope N (ps ++ [pv]) (defScope st))
    (hb : ∀ (kV doc pm : Value) (an : Option Addr) (cdv ct : Value) (us rest : List Value), us.length = ps.length → bindArgs (PySem.W.fnOf x qual (defArgs st) (defBody st) (defScope st) .none kV doc pm an cdv ct) ⟨us ++ rest, []⟩ = (newTuple rest >>= fun t => pure (ps.zip us ++ [(pv, t)])))
    (hbody : ∀ (cdv : Value) (A : Around) (outer : List Env) (s : Shared) (H : Hp) (vs : List V) (Q : VK) (E : XK), Room k (A.deeper (envOfC qual (defScope st) s.heap.objs.size f cdv)) → sp vs H Q E →
      ∃ t, PSs (cxOf (L2.CX P w) P w K mg base N qual (defScope st) f cdv A outer s H E) (defBody st) t ∧ t { nx := fun _ H' => Q .non H', rt := Q } (start N vs) H) : FnR P w K mg base (L2.CX P w) (k + 1) f (spStar ps.length sp) := by
  obtain ⟨oc, od, kV, doc, pm, an, cdv, ct, osl, rfl, lk, hcd⟩ := F.ex
  exact fn_star lk hcd S cxUp (hb kV doc pm an cdv ct) fun A outer s H vs Q E hr h => hbody cdv A outer s H vs Q E hr h
end
end L3

/-! own exceptions made by keywords; those without an own __init__ -/
namespace L3
open PySem PySem.Spec PyProof.Rows L2 PySem.Calls
section
variable {prog : Program} {w : World} {A : Around} {E : Value → Shared → Prop} {R : Result → Shared → Prop} {h : Heap} {g : Array GenState} {d : Drawn} {t : Nat} {os : OsState} {kw : List (Str × Value)}
variable {nm q : Str} {C N fI : Addr} {bs bm bmB : List Value} {hdct : Bool} {sn : List Str} {sub : List Value} {ab : Bool} {col : Option Bool} {dd : Option Addr} {k0 k1 k2 k3 k5 : Option Value} {B nw ini : String}
theorem kw_new (F : ExcBaseFacts B nw ini bmB) (hT : ∀ X : String, bm.contains (.type X) = bmB.contains (.type X)) (hC : h.get? C = some (excClassObj nm q C N bs bm hdct sn sub ab col dd k0 k1 k2 k3 k5 nw))
    (k : R (.ok (.ret (.ref (h.objs.size + 1)))) ⟨(h.push (PySem.W.kdv_tup [])).push (PySem.HandSPX.excO C h.objs.size), g, d, t, os⟩) : codeAny (model prog w) A (.builtin nw ⟨[.ref C], kw⟩) R ⟨h, g, d, t, os⟩ := by
  have e0 := F.ends
  have e1 : (Value.ref C :: bm).contains (.type B) = true := by rw [List.contains_cons, hT B, F.hasB, Bool.or_true]
  have e2 : (Value.ref C :: bm).contains (.type "AttributeError") = false := by rw [List.contains_cons, hT "AttributeError", F.noAttr] <;> rfl
  have e3 : (Value.ref C :: bm).contains (.type "NameError") = false := by rw [List.contains_cons, hT "NameError", F.noName] <;> rfl
  refine codeAny_builtinAt F.entry ?_
  unfold Builtin.«BaseException.__new__»
  refine PySem.wpAt_bind ?_
  show PySem.wpAt _ _ _ (stack >>= _) _ _ _
  refine PySem.wpAt_bind (PySem.wpAt_stack fun p below => PySem.wpAt_of_wpAny ?_)
  wp_walk
  refine PySem.wpAt_of_wpAny ?_
  rw [F.owner]
  repeat (first
    | with_reducible refine wpAny_madeHere_exc F.canon hC ?_
    | with_reducible refine wpAny_loadPart_at hC ?_
    | (with_reducible refine wpAny_isSubtype_exc hC ?_; first | rw [e1] | rw [e2] | rw [e3])
    | wp_step)
  show R _ _
  rw [Heap.size_push]
  exact k
theorem kw_check (F : ExcBaseFacts B nw ini bmB) (hT : ∀ X : String, bm.contains (.type X) = bmB.contains (.type X)) {M : Model} {Q : Unit → Shared → Prop} (hC : h.get? C = some (excClassObj nm q C N bs bm hdct sn sub ab col dd k0 k1 k2 k3 k5 nw))
    (k : Q () ⟨h, g, d, t, os⟩) : wpAny M A (checkBuiltinCall nw ⟨[.ref C], kw⟩) Q E ⟨h, g, d, t, os⟩ := by
  have e1 : (Value.ref C :: bm).contains (.type B) = true := by rw [List.contains_cons, hT B, F.hasB, Bool.or_true]
  have e0 := F.noStar
  simp only [checkBuiltinCall, F.newSplit, F.newKind, F.newRow]
  repeat (first
    | refine wpAny_loadPart_at hC ?_
    | (refine wpAny_isSubtype_exc hC ?_; rw [e1])
    | refine wpAny_staticBase_exc hC ?_
    | refine wpAny_madeBy_exc hC ?_
    | simp only [bne_self_eq_false, Bool.false_eq_true, if_false]
    | wp_step)
  exact k
theorem kw_check2 {M : Model} {Q : Unit → Shared → Prop} (hC : h.get? C = some (excClassObj nm q C N bs bm hdct sn sub ab col dd k0 k1 k2 k3 k5 nw)) (k : Q () ⟨h, g, d, t, os⟩) : wpAny M A (checkBuiltinCall "type.__call__" ⟨[.ref C], kw⟩) Q E ⟨h, g, d, t, os⟩ := by
  have f3 := PySem.tc_sub
  have ty : (⟨h, g, d, t, os⟩ : Shared).TypeIs (.ref C) "type" := ⟨_, hC, rfl⟩
  simp only [checkBuiltinCall, PySem.tc_kind, PySem.tc_split]
  repeat (any_goals (first
    | assumption
    | with_reducible refine wpAny_loadPart_at hC ?_
    | with_reducible refine wpAny_onRaise ?_
    | with_reducible refine wpAny_map ?_
    | wp_step))
theorem kw_type (F : ExcBaseFacts B nw ini bmB) (hT : ∀ X : String, bm.contains (.type X) = bmB.contains (.type X)) {Q : Fin → Shared → Prop} (hC : h.get? C = some (excClassObj nm q C N bs bm hdct sn sub ab col dd k0 k1 k2 k3 k5 nw))
    (hi : PySem.W.Looks (model prog w) h (typeLookup (.ref C) "__init__") (some (.ref fI))) (hb : ∀ me, PySem.W.Looks (model prog w) h (bindSpecial (.ref fI) me) (.ref fI, [me]))
    (k : codeAny (model prog w) A (.call (.ref fI) ⟨[.ref (h.objs.size + 1)], kw⟩) (fun r s' => match r with | .ok (.ret v) => v = .none ∧ Q (.done (.ret (.ref (h.objs.size + 1)))) s' | .ok _ => False | .error e => E e s')
      ⟨(h.push (PySem.W.kdv_tup [])).push (PySem.HandSPX.excO C h.objs.size), g, d, t, os⟩) :
    wpAny (model prog w) A (Builtin.«type.__call__» ⟨[.ref C], kw⟩) Q E ⟨h, g, d, t, os⟩ := by
  repeat (first
    | with_reducible refine wpAny_loadPart_at hC ?_
    | with_reducible refine wpAny_madeBy_exc hC ?_
    | wp_step)
  refine codeAny_call_builtin_code (Code.quiet_builtin _ F.quiet) (kw_check F hT hC (kw_new F hT hC ?_))
  show wpAny _ _ _ _ _ _
  have kp : ∀ b o, h.get? b = some o → ((h.push (PySem.W.kdv_tup [])).push (PySem.HandSPX.excO C h.objs.size)).get? b = some o := fun b o z => Heap.get?_push_of_some _ (Heap.get?_push_of_some _ z)
  have gC := kp _ _ hC
  have ge : ((h.push (PySem.W.kdv_tup [])).push (PySem.HandSPX.excO C h.objs.size)).get? (h.objs.size + 1) = some (PySem.HandSPX.excO C h.objs.size) := by heap_get
  have e4 : (Value.ref C :: bm).contains (.ref C) = true := by simp
  unfold isInstance
  repeat (first
    | with_reducible refine wpAny_loadPart_at ge ?_
    | (with_reducible refine wpAny_isSubtype_exc gC ?_; rw [e4])
    | wp_step)
  show wpAny _ _ (typeLookup (.ref C) _) _ _ _
  refine (hi.keeps kp).at (wpAny_holding (wpAny_bind (((hb (.ref (h.objs.size + 1))).keeps kp).at (wpAny_bind (wpAny_call (codeAny_mono k fun r s' z => ?_))))))
  rcases r with e | (v | _ | _ | _) <;> first | exact z | exact z.elim | skip
  obtain ⟨rfl, z⟩ := z
  first
    | exact wpAny_pure (wpAny_pure z)
    | (wp_walk; exact z)
theorem kw_call (F : ExcBaseFacts B nw ini bmB) (hT : ∀ X : String, bm.contains (.type X) = bmB.contains (.type X)) (hC : h.get? C = some (excClassObj nm q C N bs bm hdct sn sub ab col dd k0 k1 k2 k3 k5 nw))
    (hi : PySem.W.Looks (model prog w) h (typeLookup (.ref C) "__init__") (some (.ref fI))) (hb : ∀ me, PySem.W.Looks (model prog w) h (bindSpecial (.ref fI) me) (.ref fI, [me]))
    (k : codeAny (model prog w) (A.under (.builtin "type.__call__" ⟨[.ref C], kw⟩)) (.call (.ref fI) ⟨[.ref (h.objs.size + 1)], kw⟩) (PySem.W.InitBack (h.objs.size + 1) R)
      ⟨(h.push (PySem.W.kdv_tup [])).push (PySem.HandSPX.excO C h.objs.size), g, d, t, os⟩) :
    codeAny (model prog w) A (.call (.ref C) ⟨[], kw⟩) R ⟨h, g, d, t, os⟩ := by
  have f1 := PySem.tc_lookup
  have f2 := PySem.tc_bind (.ref C)
  have ty : (⟨h, g, d, t, os⟩ : Shared).TypeIs (.ref C) "type" := ⟨_, hC, rfl⟩
  refine codeAny_of_tree ?_
  show wpAny _ _ (callAny (.ref C) _) _ _ _
  repeat (any_goals (first
    | assumption
    | with_reducible refine wpAny_loadPart_at hC ?_
    | wp_step))
  refine ⟨rfl, codeAny_call_builtin_at (Code.quiet_builtin _ (by decide +kernel)) entry_typeCall (kw_check2 hC (kw_type F hT hC hi hb (codeAny_mono k fun r s' z => ?_)))⟩
  rcases r with e | (v | _ | _ | _) <;> exact z
end
end L3

/-! rules: C(x=..), C() without an own __init__ -/
namespace L3
open PySem PySem.Spec PyProof.Rows L2
/-- an own class whose own __init__ is given keywords -/
structure Xk (P : Program) (w : World) (K : PySem.W.Frag) (mg : Str → Option Value) (base : Heap) (k : Nat) (C : Addr) (ps ks : List Str) (sp : Sp) (g : List Value → List Value → List Value) (gV : List V → List V → List V) : Prop where
  ex : ∃ (fI : Addr) (fd : FuncData), FnOk P w K mg base CX0 k fI fd ps sp ∧ PySem.W.findIn K (.ref C) "__init__" = some (some (.ref fI)) ∧ PySem.W.typeIn K (.ref fI) = some (.type "function") ∧ KBinds K fd ps ks g gV
/-- C(x=..): the exception itself -/
def tNewK (C : Addr) (sp : Sp) (gV : List V → List V → List V) (tk : TA) : TE := fun σ H Q => tk σ H fun zs H1 => ∀ a, H1 a = none → sp (gV [.ref a] zs) (upd H1 a (exo a C none)) (fun v H2 => v = .non ∧ Q (.ref a) H2) E0
section
variable {X : Cx} {e : Expr} {tk : TA} {kws : List Keyword} {p pos : Pos} {bmB : List Value} {B nw ini : String} {C : Addr}
theorem pe_newK {x : Str} {k : Nat} {ps ks : List Str} {sp : Sp} {g : List Value → List Value → List Value} {gV : List V → List V → List V} (FB : ExcBaseFacts B nw ini bmB) (T : Xc X.K C bmB nw) (D : Xk X.prog X.w X.K X.mg X.base k C ps ks sp g gV) (hr : Room (k + 1) X.A) (hm : X.mg x = some (.ref C)) (hkw : PK X kws tk) (hg : Gl X x := by rfl)
    (hdb : (x == ("__debug__" : Str)) = false := by decide) (hall : (backToKw pos (keywordEach kws X.env)).all (·.1.isSome) = true := by rfl) (hks : (backToKw pos (keywordEach kws X.env)).filterMap (·.1) = ks := by rfl)
    (hpl : ((backTo pos (starEach [] X.env)).any (·.1) || (backToKw pos (keywordEach kws X.env)).any (·.1.isNone)) = false := by rfl) : PE X (.Call (.Name x p) [] kws pos) (tNewK C sp gV tk) := by
  obtain ⟨fI, fd, F1, iC, tI, hb⟩ := D.ex
  refine ⟨fun pins s σ H Q I h => wpAny_Call_Name_kw (ld_glob I hg hm ?_ hdb)⟩
  refine PySem.W.callWith_KW0 (h₀ := X.base) I.ok.mod.kin T.kC hall (thn (hkw.run pos pins s σ H _ I h) fun ws s1 ⟨zs, H1, I1, rz, q1⟩ => ⟨I1.kIn, ?_⟩) hpl
  rw [hks]
  show wpAny _ _ (call (.ref C) [] (ks.zip ws)) _ _ _
  obtain ⟨nm, N, qn, bs, bm, hd, sn, sb, ab, col, dd, k0, k1, k2, k3, k5, hC, hT⟩ := PySem.W.excInit_of I1.kIn T.ini
  obtain ⟨hp, gg, dr, t, os⟩ := s1
  have fr : H1 (hp.objs.size + 1) = none := I1.hok.fresh (Nat.le_succ _)
  have J : Inv X pins σ (upd H1 (hp.objs.size + 1) (exo (hp.objs.size + 1) C none)) ⟨(hp.push (PySem.W.kdv_tup [])).push (PySem.HandSPX.excO C hp.objs.size), gg, dr, t, os⟩ :=
    I1.laid (t' := t) (fun b o q => Heap.get?_push_of_some _ (Heap.get?_push_of_some _ q)) (Nat.le_succ _) (exo_ok (by heap_get))
  have q2 := q1 _ fr
  have rv : Vals (gV [V.ref (hp.objs.size + 1)] zs) (g [Value.ref (hp.objs.size + 1)] ws) := hb.rel (.cons rfl .nil) rz
  have ln : (g [Value.ref (hp.objs.size + 1)] ws).length = ps.length := by
    rw [← rv.length]
    exact F1.len _ _ _ _ q2
  have bi := hb.to ⟨(hp.push (PySem.W.kdv_tup [])).push (PySem.HandSPX.excO C hp.objs.size), gg, dr, t, os⟩ [Value.ref (hp.objs.size + 1)] ws J.kIn ln
  refine wpAny_call (kw_call FB hT hC (PySem.W.looks_findIn I1.kIn iC) (fun me => PySem.W.bind_fn I1.kIn me tI) (codeAny_mono (F1.run _ X.stack _ _ ⟨[Value.ref (hp.objs.size + 1)], ks.zip ws⟩ _ _ _ E0 (hr.make C [] (ks.zip ws)) (J.env0.make C [] (ks.zip ws)) bi rv q2) fun r s' z => ?_))
  cases r with
  | error er => exact z.elim
  | ok fl =>
    cases fl with
    | ret u =>
      obtain ⟨v, H2, I2, r2, ev, q3⟩ := J.after z
      subst ev
      exact ⟨r2, .ref (hp.objs.size + 1), H2, I2, rfl, q3⟩
    | next => exact z.elim
    | brk => exact z.elim
    | cont => exact z.elim
theorem pe_new0 {x : Str} (FB : ExcBaseFacts B nw ini bmB) (q : PySem.W.excIn X.K C bmB nw = true) (hm : X.mg x = some (.ref C)) (kC : PySem.W.keepIn X.K (.ref C) = true) (hg : Gl X x := by rfl) (hdb : (x == ("__debug__" : Str)) = false := by decide) :
    PE X (.Call (.Name x p) [] [] pos) (fun _ H Q => ∀ a, H a = none → Q (.ref a) (upd H a (exo a C none))) := by
  refine ⟨fun pins s σ H Q I h => wpAny_Call_Name_kw (ld_glob I hg hm ?_ hdb)⟩
  refine PySem.W.callWith_KW0 (h₀ := X.base) (kws := []) I.ok.mod.kin kC rfl ?_ rfl
  show wpAny _ _ (evalAll []) _ _ _
  refine wpAny_pure ⟨I.kIn, ?_⟩
  show wpAny _ _ (call (.ref C) []) _ _ _
  obtain ⟨bm, N, nm, qn, bs, hd, sn, sb, ab, col, dd, k0, k1, k2, k3, k5, mN, hC, hN, hni, T⟩ := exc_obj I.kIn q
  refine wpAny_call_exc_subT FB T hC hN hni (fun h' a hm2 => ?_) (Nat.zero_le _)
  have fr : H a = none := I.hok.gone hm2.new
  obtain ⟨t, ht, _, _⟩ := hm2.there
  exact ⟨.ref a, _, I.laidN (o := exo a C none) hm2.keeps hm2.new fr (exo_ok ht), rfl, h a fr⟩
end
end L3

namespace L3
open PySem L2
def inS (s : Stmt) (j : Nat) : Stmt := match s with
  | .ClassDef _ _ _ body _ _ _ _ _ _ _ => body.getD j (.Pass ⟨0, 0, 0, 0⟩)
  | s => s
/-! the error classes -/
abbrev mroV : List Value := [.type "ValueError", .type "Exception", .type "BaseException", .type "object"]
abbrev mroL : List Value := [.type "LookupError", .type "Exception", .type "BaseException", .type "object"]
abbrev mroR : List Value := [.type "RuntimeError", .type "Exception", .type "BaseException", .type "object"]
def spI1 (K : PySem.W.Frag) (bm : List Value) (nw : String) (f : Str) : Sp := fun vs H Q _ => ∃ (a C : Addr) (v : V), vs = [.ref a, v] ∧ Xc K C bm nw ∧ PySem.W.takerIn K C f = some none ∧ H a = some (exo a C none) ∧ ∀ d, H d = none → d ≠ a → Q .non (upd (upd H d (exd d [(f, v)])) a (exo a C (some d)))
def spI2 (K : PySem.W.Frag) (bm : List Value) (nw : String) (f g : Str) : Sp := fun vs H Q _ => ∃ (a C : Addr) (v u : V), vs = [.ref a, v, u] ∧ Xc K C bm nw ∧ PySem.W.takerIn K C f = some none ∧ PySem.W.takerIn K C g = some none ∧ H a = some (exo a C none) ∧
  ∀ d, H d = none → d ≠ a → Q .non (upd (upd (upd H d (exd d [(f, v)])) a (exo a C (some d))) d (exd d [(g, u), (f, v)]))
/-! how their arguments stand when they are given by keywords -/
def g1 : List Value → List Value → List Value
  | [s], [x] => [s, x]
  | _, _ => []
def gV1 : List V → List V → List V
  | [s], [x] => [s, x]
  | _, _ => []
def g2 : List Value → List Value → List Value
  | [s], [x, y] => [s, y, x]
  | _, _ => []
def gV2 : List V → List V → List V
  | [s], [x, y] => [s, y, x]
  | _, _ => []
theorem kb1 {K : PySem.W.Frag} {fd : FuncData} {f : Str} (h : ∀ (s : Shared) (a b : Value), BindsTo s fd ⟨[a], [(f, b)]⟩ [("self", a), (f, b)]) : KBinds K fd ["self", f] [f] g1 gV1 where
  to := fun s us ws _ hl => by
    match us, ws, hl with
    | [a], [b], _ => exact h s a b
    | [], _, hl => cases hl
    | [_], [], hl => cases hl
    | [_], _ :: _ :: _, hl => cases hl
    | _ :: _ :: _, _, hl => cases hl
  rel := fun r rz => by
    cases r with
    | nil => exact .nil
    | cons a r =>
      cases r with
      | nil =>
        cases rz with
        | nil => exact .nil
        | cons b rz =>
          cases rz with
          | nil => exact .cons a (.cons b .nil)
          | cons => exact .nil
      | cons => exact .nil
theorem kb2 {K : PySem.W.Frag} {fd : FuncData} {f g : Str} (h : ∀ (s : Shared) (a b d : Value), BindsTo s fd ⟨[a], [(g, b), (f, d)]⟩ [("self", a), (f, d), (g, b)]) : KBinds K fd ["self", f, g] [g, f] g2 gV2 where
  to := fun s us ws _ hl => by
    match us, ws, hl with
    | [a], [b, d], _ => exact h s a b d
    | [], _, hl => cases hl
    | [_], [], hl => cases hl
    | [_], [_], hl => cases hl
    | [_], _ :: _ :: _ :: _, hl => cases hl
    | _ :: _ :: _, _, hl => cases hl
  rel := fun r rz => by
    cases r with
    | nil => exact .nil
    | cons a r =>
      cases r with
      | nil =>
        cases rz with
        | nil => exact .nil
        | cons b rz =>
          cases rz with
          | nil => exact .nil
          | cons d rz =>
            cases rz with
            | nil => exact .cons a (.cons d (.cons b .nil))
            | cons => exact .nil
      | cons => exact .nil
/-- a class of one field -/
structure E1 (P : Program) (w : World) (K : PySem.W.Frag) (mg : Str → Option Value) (base : Heap) (x f : Str) (bm : List Value) (nw : String) (C : Addr) : Prop where
  hm : mg x = some (.ref C)
  T : Xc K C bm nw
  R : Xr K C
  tk : PySem.W.takerIn K C f = some none
  no : PySem.W.findIn K (.ref C) f = some none
  I : Xi P w K mg base 1 C ["self", f] (spI1 K bm nw f)
  J : Xk P w K mg base 1 C ["self", f] [f] (spI1 K bm nw f) g1 gV1
  cd : ∃ cd, PySem.W.clsIn K C = some cd ∧ cd.mro = .ref C :: bm
  ty : PySem.W.typeIn K (.ref C) = some (.type "type")
/-- a class of two fields -/
structure E2 (P : Program) (w : World) (K : PySem.W.Frag) (mg : Str → Option Value) (base : Heap) (x f g : Str) (bm : List Value) (nw : String) (C : Addr) : Prop where
  hm : mg x = some (.ref C)
  T : Xc K C bm nw
  R : Xr K C
  tk : PySem.W.takerIn K C f = some none
  tk2 : PySem.W.takerIn K C g = some none
  no : PySem.W.findIn K (.ref C) f = some none
  no2 : PySem.W.findIn K (.ref C) g = some none
  I : Xi P w K mg base 1 C ["self", f, g] (spI2 K bm nw f g)
  J : Xk P w K mg base 1 C ["self", f, g] [g, f] (spI2 K bm nw f g) g2 gV2
  cd : ∃ cd, PySem.W.clsIn K C = some cd ∧ cd.mro = .ref C :: bm
  ty : PySem.W.typeIn K (.ref C) = some (.type "type")
/-- the class without fields -/
structure E0c (K : PySem.W.Frag) (mg : Str → Option Value) (x : Str) (bm : List Value) (nw : String) (C : Addr) : Prop where
  hm : mg x = some (.ref C)
  q : PySem.W.excIn K C bm nw = true
  kC : PySem.W.keepIn K (.ref C) = true
  R : Xr K C
  cd : ∃ cd, PySem.W.clsIn K C = some cd ∧ cd.mro = .ref C :: bm
  ty : PySem.W.typeIn K (.ref C) = some (.type "type")
end L3

/-! enumerate(t), t a tuple -/
namespace L3
open PySem PySem.Spec PyProof.Rows L2
open Sem (wp)
/-- the pairs (i, t[i]), each new -/
def Iet (K : PySem.W.Frag) (a : Addr) : It :=
  ⟨fun i H => ∃ (xs : List V) (x : V), SqT K H a xs ∧ xs[i]? = some x, fun i H v H' => ∃ T x, v = .ref T ∧ H T = none ∧ H' = upd H T (.tup [.int (i : Nat), x]) ∧ ∀ xs, SqT K H a xs → xs[i]? = some x, fun i H => ∃ xs : List V, SqT K H a xs ∧ xs.length = i⟩
theorem turn_enumT {P : Program} {w : World} {K : PySem.W.Frag} {elts : List Expr} {kk : Nat} {tpos : Pos} (a e it : Addr) (na : a ≠ it) (nae : a ≠ e) :
    Turn P w K (.Tuple elts kk tpos) (Iet K a) [e, it] e (fun i h => (∃ old, IsEnum h e it ((i : Nat) : Int) old) ∧ h.IsTupleIter it a i ∧ e ≠ it) where
  mem := List.mem_cons_self ..
  obj := by
    rintro i h ⟨⟨old, he⟩, ⟨o, ho, hc, hd⟩, _⟩ b hb
    rcases List.mem_cons.mp hb with z | z
    · rw [z]; exact ⟨_, he, fun v q => nomatch q⟩
    · have z := List.mem_singleton.mp z
      rw [z]; exact ⟨o, ho, fun v q => by rw [hd] at q; cases q⟩
  keep := by
    rintro i h h' ⟨⟨old, he⟩, hi, hne⟩ k
    exact ⟨⟨old, k e (by simp) _ he⟩, hi.at fun o q => k it (by simp) o q, hne⟩
  item := by
    intro X hP hw hK hc i pins s σ H E I hf st hg
    subst hP hw hK
    obtain ⟨⟨old, he⟩, hit, hne⟩ := st
    obtain ⟨xs, x, hq, hx⟩ := hg
    obtain ⟨its, rv, p, hz⟩ := I.tuple hq
    obtain ⟨u, hu, ru⟩ := rv.get hx
    have ht : s.heap.IsTuple a its.toArray := p
    have hel : e < s.heap.objs.size := Heap.lt_size he
    have hil : it < s.heap.objs.size := by obtain ⟨_, q, _⟩ := hit; exact Heap.lt_size q
    have lt : i < its.toArray.size := by
      obtain ⟨q, _⟩ := List.getElem?_eq_some_iff.mp hu
      simpa using q
    refine wpAny_pyNext_enum_itemD (Draws.tuple (A := X.A.in1) (show X.A.in1.handled = none from I.ok.hd hc) it a na its.toArray) he ⟨hit, ht⟩ lt hne (by simp [hne, nae.symm]) fun y h' tk hy ho hs' hT hsz hk => ?_
    have ey : y = u := by
      have h2 : its[i]? = some y := by simpa using hy
      rw [hu] at h2
      exact (Option.some.inj h2).symm
    subst ey
    refine ⟨_, rfl, wpAny_letOwnedTupleGo_enum (s := { s with heap := h', toks := tk + 1 }) ho fun h'' he' sb => ?_⟩
    have hT2 : h''.get? s.heap.objs.size = some { cls := .type "tuple", data := .seq #[.int i tk, y] } := (sb.2 _ (Nat.ne_of_gt hel)).trans hT
    have new : ObjOk X.prog X.w (upd H s.heap.objs.size (.tup [.int (i : Nat), x])) h'' s.heap.objs.size (.tup [.int (i : Nat), x]) :=
      ⟨by show 2 ≤ sizeLine; decide, [.int i tk, y], .cons ⟨_, rfl⟩ (.cons ru .nil), ⟨_, hT2, rfl, _, rfl⟩⟩
    have I1 : Inv X pins σ (upd H s.heap.objs.size (.tup [.int (i : Nat), x])) { s with heap := h'', toks := tk + 1 } :=
      I.turnedNew (ch := [e, it]) (fun b ob hb q => (sb.2 b (fun z => hb (by simp [z]))).trans (hk b ob (fun z => hb (by simp [z])) (fun z => hb (by simp [z])) q)) hf (Nat.le_refl _) new
    refine ⟨.ref s.heap.objs.size, _, I1, rfl, ⟨_, x, rfl, I.hok.fresh (Nat.le_refl _), rfl, fun ys hy => by rw [I.tuple_inj hy hq]; exact hx⟩, ⟨⟨y, ?_⟩, hs'.1.at fun o q => (sb.2 it (Ne.symm hne)).trans q, hne⟩, fun b hb => ?_⟩
    · have e1 : ((i + 1 : Nat) : Int) = (i : Int) + 1 := by omega
      rw [e1]; exact he'
    · have hb' : b < s.heap.objs.size := by
        rcases List.mem_cons.mp hb with z | z
        · rw [z]; exact hel
        · rw [List.mem_singleton.mp z]; exact hil
      rw [upd_ne (Nat.ne_of_lt hb')]
      exact (hf b hb).1
  done := by
    intro X hP hw hK hc i pins s σ H E I hf st hg
    subst hP hw hK
    obtain ⟨⟨old, he⟩, hit, hne⟩ := st
    obtain ⟨xs, hq, hx⟩ := hg
    obtain ⟨its, rv, p, hz⟩ := I.tuple hq
    have ht : s.heap.IsTuple a its.toArray := p
    obtain ⟨f0, f1, f2, f3, f4, f5⟩ := hf it (by simp)
    have hl := rv.length
    have ei : i = its.toArray.size := by simp; omega
    refine wpAny_pyNext_enum_endD (Draws.tuple (A := X.A.in1) (show X.A.in1.handled = none from I.ok.hd hc) it a na its.toArray) he ⟨ei ▸ hit, ht⟩ fun h' eb => ?_
    exact ⟨rfl, I.turned (t' := s.toks) (fun b o hb q => eb b o hb q) f0 f1 f3 f4 f5⟩
  self := fun A i s Q E st h => let ⟨⟨_, he⟩, _⟩ := st; wpAny_pyIter_enum he h
/-- what enumerate(v) makes: an iterator of v and the pair-maker above it -/
def twoNew (h : Heap) (o : Obj) : Heap := (h.push o).push { cls := .type "enumerate", data := .fields #[.none, .bool false, .ref h.objs.size, rawInt 0, .none, .none] }
theorem meets_enum1 {v : Value} {o : Obj} {G : Heap → Prop} (B : Begins v o G) : Meets (Builtin.«enumerate.__new__» ⟨[.type "enumerate", v], []⟩) (fun _ R s => G s.heap ∧ R (.ok (.ret (.ref (s.heap.push o).objs.size))) { s with heap := twoNew s.heap o }) :=
  .of_wp fun prog w A R s h => by
    obtain ⟨hp, g, d, tk, os⟩ := s
    obtain ⟨h1, h⟩ := h
    have hsub := sub_enumerate
    have q1 : ∀ {A' : Around} {E : Value → Shared → Prop} {Q : Value → Shared → Prop}, Q (.ref hp.objs.size) ⟨hp.push o, g, d, tk, os⟩ → wpAny (model prog w) A' (pyIter v) Q E ⟨hp, g, d, tk, os⟩ := fun q => B.iter prog w _ _ ⟨hp, g, d, tk, os⟩ _ h1 q
    wp_walk using q1
    refine wpAny_stack_any fun st => wpAny_pure ?_
    split
    · rename_i c _ _ _ _ _
      cases (c == Value.type "enumerate") <;> (wp_walk using q1; exact ⟨_, rfl, h⟩)
    · wp_walk using q1
      exact ⟨_, rfl, h⟩
theorem call_enum1 {prog : Program} {w : World} {A : Around} {E : Value → Shared → Prop} {s : Shared} {v : Value} {o : Obj} {G : Heap → Prop} {Q : Value → Shared → Prop} (B : Begins v o G) (h1 : G s.heap)
    (h : ∀ h', IsEnum h' (s.heap.objs.size + 1) s.heap.objs.size 0 .none → h'.get? s.heap.objs.size = some o → (∀ b q, s.heap.get? b = some q → h'.get? b = some q) → Q (.ref (s.heap.objs.size + 1)) { s with heap := h' }) :
    wpAny (model prog w) A (call (.type "enumerate") [v]) Q E s := by
  have hz : (s.heap.push o).objs.size = s.heap.objs.size + 1 := Heap.size_push ..
  refine callType_new F.called_enumerate (by decide) (F.typeCall_enumerate_1 _) (F.newCall_enumerate_1 _) (fun obj => F.args_object_init_2 obj _) F.entry_enumerate_new (meets_enum1 B) ⟨h1, ?_⟩
  show _ ∧ _
  rw [hz]
  have he : IsEnum (twoNew s.heap o) (s.heap.objs.size + 1) s.heap.objs.size 0 .none := by
    rw [← hz]
    exact Heap.get?_push_size _ rfl
  exact ⟨⟨_, he, rfl⟩, h _ he (Heap.get?_push_of_some _ (Heap.get?_push_size _ B.free)) fun b q x => Heap.get?_push_of_some _ (Heap.get?_push_of_some _ x)⟩
def iEnumT (K : PySem.W.Frag) (ta : TA) : TI := fun σ H R => ta σ H fun vs H1 => ∃ a xs, vs = [.ref a] ∧ SqT K H1 a xs ∧ R (Iet K a) H1
theorem pi_enumT {X : Cx} {e : Expr} {ta : TA} {p pos tpos : Pos} {elts : List Expr} {kk : Nat} (hg : Gl X "enumerate") (hm : X.mg "enumerate" = none) (ha : PA X [e] ta) (hs : starEach [e] X.env = [(false, eval e X.env)] := by rfl) :
    PI X (.Tuple elts kk tpos) (.Call (.Name "enumerate" p) [e] [] pos) (iEnumT X.K ta) := by
  refine ⟨fun pins s σ H R I h => ?_⟩
  refine Call_ (ld_blt I hg hm boot_enumerate (PyProof.Rows.callWith_type1 (thn (ha.run pos pins s σ H _ I h) fun us s1 ⟨vs, H1, I1, r1, q1⟩ => ?_) hs rfl))
  obtain ⟨a, xs, rfl, hq, q⟩ := q1
  obtain ⟨u, rfl, ru⟩ := vals1 r1
  cases ru
  obtain ⟨its, rv, p', hz⟩ := I1.tuple hq
  have ht : s1.heap.IsTuple a its.toArray := p'
  have al : a < s1.heap.objs.size := by
    obtain ⟨_, z, _⟩ := ht
    exact Heap.lt_size z
  refine call_enum1 (begins_tuple a its.toArray) ht fun h' he hit hk => wpAny_pyIter_enum he ?_
  have I2 : Inv X pins σ H1 { s1 with heap := h' } := I1.kept (t' := s1.toks) hk
  refine ⟨s1.heap.objs.size + 1, [s1.heap.objs.size + 1, s1.heap.objs.size], _, _, H1, rfl, I2, turn_enumT a (s1.heap.objs.size + 1) s1.heap.objs.size (Nat.ne_of_lt al) (Nat.ne_of_lt (Nat.lt_succ_of_lt al)), ⟨⟨.none, he⟩, ⟨_, hit, rfl, rfl⟩, Nat.succ_ne_self _⟩, fun b hb => ?_, q⟩
  have hle : s1.heap.objs.size ≤ b := by
    rcases List.mem_cons.mp hb with z | z
    · rw [z]; exact Nat.le_add_right _ _
    · rw [List.mem_singleton.mp z]; exact Nat.le_refl _
  exact I1.fpOk hle (I1.hok.fresh hle)
end L3

/-! f(*t), f a local name that holds a def; the walk of enumerate(t) -/
namespace L3
open PySem PySem.Spec PyProof.Rows L2 StX
/-- the def at f keeps the promise sp -/
structure Does (P : Program) (w : World) (K : PySem.W.Frag) (mg : Str → Option Value) (base : Heap) (k : Nat) (f : Addr) (sp : Sp) : Prop where
  fn : FnR P w K mg base CX0 k f sp
  kp : PySem.W.keepIn K (.ref f) = true
def tCallLS (P : Program) (w : World) (K : PySem.W.Frag) (mg : Str → Option Value) (base : Heap) (k i : Nat) (te : TE) : TE := fun σ H Q => ∃ f sp, σ[i]? = some (some (.ref f)) ∧ Does P w K mg base k f sp ∧ te σ H fun y H1 => ∃ a xs, y = V.ref a ∧ (SqT K H1 a xs ∨ SqL K H1 a xs) ∧ sp xs H1 Q E0
theorem pe_callLS {X : Cx} {k i : Nat} {x : Str} {p pos sp_ : Pos} {e : Expr} {te : TE} (hr : Room k X.A) (hN : X.N[i]? = some x) (hv : Vis X.env.scope x) (he : PE X e te)
    (hdb : (x == ("__debug__" : Str)) = false := by decide) (hcd : (x == ("__classdict__" : Str)) = false := by decide) (hst : starEach [.Starred e sp_] X.env = [(true, eval e X.env)] := by rfl) :
    PE X (.Call (.Name x p) [.Starred e sp_] [] pos) (tCallLS X.prog X.w X.K X.mg X.base k i te) := by
  refine ⟨fun pins s σ H Q I h => ?_⟩
  obtain ⟨f, sp, hs, D, ht⟩ := h
  refine wpAny_Call_Name_kw (thn ((pe_var (pos := p) hN hv hdb hcd).run pins s σ H (fun v H1 => v = .ref f ∧ H1 = H) I ⟨.ref f, hs, rfl, rfl⟩) fun u s1 ⟨v, H1, I1, r1, q1⟩ => ?_)
  obtain ⟨rfl, rfl⟩ := q1
  cases r1
  refine PySem.W.callWith_S (h₀ := X.base) I.ok.mod.kin D.kp (thn (he.run pins s1 σ _ _ I1 ht) fun v s2 ⟨y, H2, I2, ry, a, xs, ey, hxs, q⟩ => ?_) hst
  subst ey
  obtain rfl : v = Value.ref a := ry
  exact star_any I2 hxs fun us s3 I3 rv => ⟨I3.kIn, wpAny_call (run_fnR D.fn hr pass0 I3 rv q)⟩
theorem walk_enumT {K : PySem.W.Frag} {a : Addr} {xs : List V} : Walk (Iet K a) xs.length (fun H => SqT K H a xs) (YPair (fun i => some (.int (i : Nat))) (fun i => xs[i]?)) := by
  refine ⟨fun i _ hi q => ⟨xs, xs[i], q, by simp [hi]⟩, fun _ q => ⟨xs, q, rfl⟩, fun i H v H' _ q y => ?_⟩
  obtain ⟨T, x, h1, h2, h3, h4⟩ := y
  exact ⟨T, .int (i : Nat), x, h1, h2, h3, rfl, h4 xs q⟩
end L3

/-! a dict of the module whose keys are texts: what it has -/
namespace L3
open PySem L2
def keyNm (e : DictEntry) : Option Str := match e.key with
  | .str x _ => some x
  | _ => none
theorem has_of {K : PySem.W.Frag} {a : Addr} {es : Array DictEntry} {n : Nat} {ks : List Str} (l : K.lookup a = some ⟨.type "dict", none, .dict es n, #[]⟩) (hk : es.toList.map keyNm = ks.map some) : ∀ z : Str, ∃ r, PySem.W.nsIn K a z = some r ∧ r.isSome = decide (z ∈ ks) := by
  intro z
  unfold PySem.W.nsIn
  rw [l]
  show ∃ r, (match es.toList.find? (·.key.isStr z) with
    | some e => some (some e.val)
    | none => if es.toList.any (·.refKey) then none else some none) = some r ∧ _
  generalize es.toList = l at hk
  have key : ∀ (l : List DictEntry) (ks : List Str), l.map keyNm = ks.map some → (l.find? (·.key.isStr z)).isSome = decide (z ∈ ks) ∧ l.any (·.refKey) = false := by
    intro l
    induction l with
    | nil =>
      intro ks h
      cases ks with
      | nil => exact ⟨rfl, rfl⟩
      | cons _ _ => cases h
    | cons e r ih =>
      intro ks h
      cases ks with
      | nil => cases h
      | cons x ks =>
        rw [List.map_cons, List.map_cons] at h
        injection h with h1 h2
        obtain ⟨i1, i2⟩ := ih ks h2
        obtain ⟨tk, ek⟩ : ∃ tk, e.key = .str x tk := by
          unfold keyNm at h1
          split at h1
          · rename_i y tk q
            injection h1 with h1
            exact ⟨tk, by rw [q, h1]⟩
          · cases h1
        refine ⟨?_, ?_⟩
        · rw [List.find?_cons]
          have es : e.key.isStr z = decide (z = x) := by
            rw [ek]
            show (x == z) = decide (z = x)
            rw [Bool.eq_iff_iff, beq_iff_eq, decide_eq_true_eq]
            exact eq_comm
          rw [es]
          by_cases c : z = x
          · rw [decide_eq_true c]
            simp [c]
          · rw [decide_eq_false c]
            simp only [i1]
            rw [Bool.eq_iff_iff, decide_eq_true_eq, decide_eq_true_eq, List.mem_cons]
            exact ⟨.inr, fun h => h.resolve_left c⟩
        · rw [List.any_cons, i2, Bool.or_false]
          unfold DictEntry.refKey
          rw [ek]
  obtain ⟨k1, k2⟩ := key l ks hk
  cases hf : l.find? (·.key.isStr z) with
  | some e =>
    rw [hf] at k1
    exact ⟨some e.val, rfl, k1⟩
  | none =>
    rw [hf] at k1
    refine ⟨none, ?_, k1⟩
    show (if l.any (·.refKey) = true then none else some none) = some none
    rw [k2]
    rfl
end L3

/-! a tuple of anything beside the empty one -/
namespace L3
open PySem PySem.Spec PyProof.Rows L2
open PySem.SeqAt
def rNeNil : R2 := fun x y H Q => ∃ (a b : Addr) (xs : List V), x = .ref a ∧ y = .ref b ∧ H a = some (.tup xs) ∧ H b = some (.tup []) ∧ Q (.bl (!xs.isEmpty)) H
theorem op_neNil {X : Cx} (hu : X.A.units + 64 < cLine) : OpR X (compareOp .NotEq) rNeNil := by
  intro pins s σ H x y v u Q I rx ry h
  obtain ⟨a, b, xs, rfl, rfl, ha, hb, q⟩ := h
  obtain rfl : v = Value.ref a := rx
  obtain rfl : u = Value.ref b := ry
  obtain ⟨its, rv, ⟨o, ho, hc, n, hd⟩, _⟩ := I.tuple (SqT.of ha)
  obtain ⟨its2, rv2, ⟨o2, ho2, hc2, n2, hd2⟩, _⟩ := I.tuple (SqT.of hb)
  cases rv2
  have hl := rv.length
  refine RcNeAt.tuples (e := fun _ => true) ⟨o, ho, hc, n, hd⟩ ⟨o2, ho2, hc2, n2, hd2⟩ (by omega) (fun j h1 h2 => absurd h2 (by simp)) _ _ _ _ ?_
  refine ⟨.bl (!xs.isEmpty), H, I, ?_, q⟩
  cases rv with
  | nil => rfl
  | cons _ _ =>
    show Value.bool _ = Value.bool _
    simp
end L3

/-! slices of tuples, put together; list(t) -/
namespace L3
open PySem L2
theorem catA_ok {K : PySem.W.Frag} {H : Hp} {Q : VK} {a b : Addr} {xs ys : List V} (ha : H a = some (.tup xs)) (hb : H b = some (.tup ys)) (hz : xs.length + ys.length ≤ 900000) (k : ∀ H' q, Same H H' → H' q = some (.tup (xs ++ ys)) → Q (.ref q) H') : rCatA K (.ref a) (.ref b) H Q := by
  refine ⟨a, b, xs, ys, rfl, rfl, SqT.of ha, SqT.of hb, Nat.le_of_lt (szl (by omega)), fun e => ?_, fun _ e => ?_, fun _ _ p hp => k _ p (same_new hp) upd_same⟩
  · subst e
    exact k H b (Same.refl H) hb
  · subst e
    exact k H a (Same.refl H) (by rw [List.append_nil]; exact ha)
theorem slA_ok {K : PySem.W.Frag} {H : Hp} {Q : VK} {a : Addr} {xs : List V} {lo hi : Option Int} (ha : H a = some (.tup xs)) (k : ∀ H' q, Same H H' → H' q = some (.tup (cutV xs lo hi)) → Q (.ref q) H') : rSlA K (.ref a) lo hi H Q := by
  refine ⟨a, xs, rfl, SqT.of ha, fun e => k H a (Same.refl H) ?_, fun _ p hp => k _ p (same_new hp) upd_same⟩
  have : cutV xs lo hi = xs := by
    unfold cutV
    rw [e.1, e.2, List.drop_zero, Nat.sub_zero, List.take_length]
  rw [this]
  exact ha
theorem cut_front (l : List V) (x : V) (r : List V) : cutV (l ++ x :: r) none (some (l.length : Int)) = l := by
  unfold cutV
  rw [HT.sIx_none, HT.sIx_nat, List.length_append, List.length_cons, Nat.min_eq_left (by omega), List.drop_zero, Nat.sub_zero, List.take_left']
  rfl
theorem cut_back (l : List V) (x : V) (r : List V) : cutV (l ++ x :: r) (some ((l.length : Int) + 1)) none = r := by
  unfold cutV
  rw [show (l.length : Int) + 1 = ((l.length + 1 : Nat) : Int) by omega, HT.sIx_none, HT.sIx_nat, List.length_append, List.length_cons, Nat.min_eq_left (by omega)]
  have e : (l ++ x :: r).drop (l.length + 1) = r := by
    rw [← List.drop_drop, List.drop_left]
    rfl
  rw [e, List.take_of_length_le (by omega)]
theorem daAll_split {t : Addr} {H : Hp} : ∀ {ds : List PyData} {vs : List V} (i : Nat), i < vs.length → DaAll t H vs ds → ∃ l x r dl dx dr, vs = l ++ x :: r ∧ ds = dl ++ dx :: dr ∧ l.length = i ∧ DaAll t H l dl ∧ Da t H x dx ∧ DaAll t H r dr
  | [], _, i, hi, h => by cases h; cases hi
  | d :: ds, _, 0, hi, h => by
    cases h with
    | @cons v vs _ _ h1 h2 => exact ⟨[], v, vs, [], d, ds, rfl, rfl, rfl, .nil, h1, h2⟩
  | d :: ds, _, i + 1, hi, h => by
    cases h with
    | @cons v vs _ _ h1 h2 =>
      obtain ⟨l, x, r, dl, dx, dr, e1, e2, e3, g1, g2, g3⟩ := daAll_split i (by simpa using hi) h2
      exact ⟨v :: l, x, r, d :: dl, dx, dr, by rw [e1]; rfl, by rw [e2]; rfl, by rw [List.length_cons, e3], .cons h1 g1, g2, g3⟩
theorem depthAll_app : ∀ (a b : List PyData), PyData.depthAll (a ++ b) = max (PyData.depthAll a) (PyData.depthAll b)
  | [], b => by simp [PyData.depthAll]
  | d :: a, b => by simp only [List.cons_append, PyData.depthAll, depthAll_app a b]; omega
theorem call_listN {X : Cx} : CallR X (.type "list") (fun xs H Q => ∃ p ys, xs = [.ref p] ∧ SqT X.K H p ys ∧ ∀ l, H l = none → l ≠ sysModules → Q (.ref l) (upd H l (.lst ys))) := by
  intro pins s σ H xs us Q I r ⟨p, ys, e, hq, q⟩
  subst e
  obtain ⟨u, rfl, rx⟩ := vals1 r
  cases rx
  obtain ⟨its, rv, pl, hz⟩ := I.tuple hq
  have hn := rv.length
  obtain ⟨o, ho, hc, n, hd⟩ := pl
  refine call_list_seq p (.inr rfl) ho hc hd (fun h' c' kp e => ?_) (by simp only [List.size_toArray] <;> omega)
  exact ⟨.ref _, _, I.laid (t' := s.toks) kp (Nat.le_refl _) (show ObjOk X.prog X.w _ h' _ (.lst ys) from ⟨hz, its, c', rv, e⟩), rfl, q _ (I.hok.fresh (Nat.le_refl _)) (Nat.ne_of_gt I.big)⟩
end L3

namespace L3
open PySem L2 StX
def nmL : List Str := ["plus", "minus", "times", "equal", "upto", "join", "size", "eqtext", "uptotext", "spell"]
/-- the two dicts of the module -/
structure Mk (K : PySem.W.Frag) (w : World) (mg : Str → Option Value) (kA : Addr) (es : Array DictEntry) (nb : Nat) (aA : Addr) (es2 : Array DictEntry) (nb2 : Nat) : Prop where
  KINDS : ∃ u, mg "KINDS" = some u ∧ RelV (.ref kA) u
  enum : mg "enumerate" = none
  kd : KDict K w kA es nb
  has : ∀ z : Str, ∃ r, PySem.W.nsIn K kA z = some r ∧ r.isSome = decide (z ∈ nmL)
  ACTIONS : ∃ u, mg "ACTIONS" = some u ∧ RelV (.ref aA) u
  ad : KDict K w aA es2 nb2
theorem raise_one {P : Program} {w : World} {K : PySem.W.Frag} {mg : Str → Option Value} {base : Heap} {x f : Str} {bm : List Value} {nw : String} {C : Addr} (X : E1 P w K mg base x f bm nw C) {u : V} {H1 : Hp} {Q : XK} (h : ∀ H' dx, Same H1 H' → H' dx = some (.xd [(f, u)]) → Q (.ref C) (some dx) H') :
    ([u] : List V).length ≤ 1000 ∧ ∀ a, H1 a = none → spI1 K bm nw f (.ref a :: [u]) (upd H1 a (exo a C none)) (fun v H2 => v = .non ∧ ∃ (d : Addr) (fs : List (Str × V)), H2 a = some (exo a C (some d)) ∧ H2 d = some (exd d fs) ∧ H1 d = none ∧ Q (.ref C) (some d) (upd (del H2 a) d (.xd fs))) E0 := by
  refine ⟨by simp, fun a ha => ⟨a, C, u, rfl, X.T, X.tk, upd_same, fun dx hdx nd => ⟨rfl, dx, [(f, u)], upd_same, by rw [upd_ne nd, upd_same], by rw [upd_ne nd] at hdx; exact hdx, h _ dx (fun b o q => ?_) upd_same⟩⟩⟩
  rw [upd_ne nd] at hdx
  have nb : b ≠ dx := fun z => by rw [z, hdx] at q; cases q
  have na : b ≠ a := fun z => by rw [z, ha] at q; cases q
  rw [upd_ne nb, del_ne na, upd_ne na, upd_ne nb, upd_ne na]
  exact q
section
variable {P : Program} {w : World} {K : PySem.W.Frag} {mg : Str → Option Value} {base : Heap} {kA aA CN CV : Addr} {es es2 : Array DictEntry} {nb nb2 : Nat}
/-- a name of no primitive -/
def badN : PyData → Bool
  | .str x => !decide (x ∈ nmL)
  | _ => true
abbrev s_check_primitive : Stmt := topS 61
abbrev N_check_primitive : List Str := ["name"]
theorem sc_check_primitive : FnScope N_check_primitive ["name"] (defScope s_check_primitive) := ⟨rfl, rfl, rfl, by decide +kernel, rfl, by decide +kernel, by decide +kernel⟩
def spCheck (CN : Addr) : Sp := fun vs H Q E => ∃ (t : Addr) (v : V) (d : PyData), vs = [v] ∧ Da t H v d ∧ (badN d = false → Q .non H) ∧ (badN d = true → ∀ H' dx, Same H H' → H' dx = some (.xd [("word", v)]) → E (.ref CN) (some dx) H')
theorem ok_check {f : Addr} {fd : FuncData} (F : Fun K "check_primitive" "check_primitive" s_check_primitive f fd) (B9 : Bl9 mg) (M : Mk K w mg kA es nb aA es2 nb2) (X_NoPrimitive : E1 P w K mg base "NoPrimitive" "word" mroL "LookupError.__new__" CN) : FnOk P w K mg base (L2.CX P w) 3 f fd ["name"] (spCheck CN) := by
  refine F.okX sc_check_primitive (fun vs H Q E h => ?_) (fun cdv A outer s H vs Q E hr h => ?_)
  · obtain ⟨t, v, d, rfl, _⟩ := h
    rfl
  · obtain ⟨t, v, d, rfl, hd, kQ, kE⟩ := h
    have hu64 := hr.units
    have hr2 : Room 2 _ := hr
    refine ⟨_, (pss_one (ps_if (PW.pt (pw_or (pt_not (pt_val (pe_callB call_isi (by rfl) B9.isinstance PyProof.Rows.boot_isinstance (pa_cons (pv 0) (pa_cons (pe_bltn (v := .ty "str") (by rfl) B9.str_ (by decide +kernel) rfl) pa_nil))))) (pw_or1 (pt_cmpR (op_notIn_kd M.kd) (pv 0) (pe_gc (by rfl) M.KINDS) (by rfl)))))
  (pss_one (ps_raise rfl (takes_of rfl rfl rfl rfl) (pmk_newX PySem.F.excBase_LookupError X_NoPrimitive.T X_NoPrimitive.R.sb X_NoPrimitive.ty X_NoPrimitive.I hr2 X_NoPrimitive.hm (pa_cons (pv 0) pa_nil))))
  pss_nil)), ?_⟩
    refine ⟨_, rfl, v, .ty "str", .type (tyName d), .type "str", isStr d, rfl, .ty "str", hd.ty, kit_str d, _, rfl, ?_⟩
    cases hs : isStr d with
    | false =>
      have e : badN d = true := by cases d <;> first | rfl | cases hs
      refine iT rfl ?_
      exact ⟨_, rfl, raise_one X_NoPrimitive (kE e)⟩
    | true =>
      obtain ⟨x, rfl⟩ : ∃ x, d = .str x := by
        cases d with
        | str x => exact ⟨x, rfl⟩
        | _ => cases hs
      cases hd
      obtain ⟨r, er, hr2⟩ := M.has x
      refine iF rfl ?_
      refine ⟨_, rfl, x, r, rfl, rfl, er, ?_⟩
      rw [hr2]
      by_cases hx : x ∈ nmL
      · rw [decide_eq_true hx]
        exact ⟨_, rfl, iF rfl (kQ (by show (!decide (x ∈ nmL)) = false; rw [decide_eq_true hx]; rfl))⟩
      · rw [decide_eq_false hx]
        refine ⟨_, rfl, iT rfl ?_⟩
        exact ⟨_, rfl, raise_one X_NoPrimitive (kE (by show (!decide (x ∈ nmL)) = true; rw [decide_eq_false hx]; rfl))⟩
end
end L3

set_option maxRecDepth 900000
namespace L3
open PySem L2
section
variable {P : Program} {w : World} {K : PySem.W.Frag} {mg : Str → Option Value} {base : Heap} {bA : Addr} {es : Array DictEntry} {nb : Nat}
/-! ### leaves, kinds -/
def isLeafD : List PyData → Bool
  | [a, b] => (isS "var" a || isS "con" a) && isNameD b
  | _ => false
/-- every text that is looked at is short -/
def sOk : PyData → Bool
  | .str x => decide (x.length ≤ 100)
  | _ => true
abbrev s_is_leaf : Stmt := topS 19
abbrev N_is_leaf : List Str := ["value"]
theorem sc_is_leaf : FnScope N_is_leaf ["value"] (defScope s_is_leaf) := ⟨rfl, rfl, rfl, by decide +kernel, rfl, by decide +kernel, by decide +kernel⟩
def spLeaf : Sp := fun vs H Q _ => ∃ (t : Addr) (v : V) (ds : List PyData), vs = [v] ∧ Da t H v (.tuple ds) ∧ (∀ e ∈ ds, ∀ x, e = .str x → x.length ≤ 100) ∧ ∀ H', Same H H' → Q (.bl (isLeafD ds)) H'
theorem ok_leaf {f : Addr} {fd : FuncData} (F : Fun K "is_leaf" "is_leaf" s_is_leaf f fd) (B : Bl mg) (D_is_name : Kn P w K mg base 2 "is_name" ["value"] spName) : FnOk P w K mg base CX0 3 f fd ["value"] spLeaf := by
  refine F.ok sc_is_leaf (fun vs H Q E h => ?_) (fun cdv A outer s H vs Q E hr h => ?_)
  · obtain ⟨t, v, ds, rfl, _⟩ := h
    rfl
  · obtain ⟨t, v, ds, rfl, hd, hx, k⟩ := h
    have hr_is_name : Room 2 _ := hr
    have hu64 := hr.units
    refine ⟨_, (pss_one (ps_ret (pe_and (pe_cmpR op_eq (pe_callB call_len (by rfl) B.len PySem.boot_len (pa_cons (pv 0) pa_nil)) pe_int (nomark _)) (pe_and (pe_or (pe_cmpR (op_eqStr (t := t) hu64) (pe_ix ix_tup (pv 0) pe_int (fun _ _ => rfl)) pe_str (nomark _)) (pe_one (pe_cmpR (op_eqStr (t := t) hu64) (pe_ix ix_tup (pv 0) pe_int (fun _ _ => rfl)) pe_str (nomark _)))) (pe_one (pe_kn D_is_name hr_is_name (pa_cons (pe_ix ix_tup (pv 0) pe_int (fun _ _ => rfl)) pa_nil))))))), ?_⟩
    cases hd with
    | @tup a xs _ ga da =>
      have le := da.len
      refine ⟨_, rfl, .ref a, xs.length, rfl, .inr ⟨xs, SqT.of ga, rfl⟩, ?_⟩
      refine ⟨rfl, _, rfl, ?_⟩
      by_cases h2 : ds.length = 2
      · match ds, h2, da, hx, k with
        | [d1, d2], _, da, hx, k =>
          cases da with
          | @cons v1 _ _ _ q1 t1 =>
            cases t1 with
            | @cons v2 _ _ _ q2 t2 =>
              cases t2
              refine iT rfl ?_
              have fin : ∀ c : Bool, c = (isS "var" d1 || isS "con" d1) → (c = true → ∀ H', Same H H' → Q (.bl (isNameD d2)) H') ∧ (c = false → Q (.bl false) H) := fun c e => ⟨fun z H' s' => by
                have this : Q (.bl ((isS "var" d1 || isS "con" d1) && isNameD d2)) H' := k H' s'
                rw [← e, z] at this
                exact this, fun z => by
                have this : Q (.bl ((isS "var" d1 || isS "con" d1) && isNameD d2)) H := k H (Same.refl H)
                rw [← e, z] at this
                exact this⟩
              refine ⟨_, rfl, a, _, 0, _, rfl, rfl, SqT.of ga, rfl, d1, _, rfl, q1, _, rfl, ?_⟩
              have cal := fun (z : (isS "var" d1 || isS "con" d1) = true) => (⟨_, rfl, a, _, 1, _, rfl, rfl, SqT.of ga, rfl, t, v2, d2, rfl, q2, fun x e => Nat.le_trans (hx d2 (by simp) x e) (by decide), (fin _ rfl).1 z H (Same.refl H)⟩ : tCall spName [] E0 (tCons (tOp (rIxT K) (tVar 0) (tC (V.int 1))) tNil) [some (V.ref a)] H Q)
              cases h3 : isS "var" d1 with
              | true =>
                exact ⟨_, rfl, iT rfl (cal (by rw [h3]; rfl))⟩
              | false =>
                refine iF rfl ?_
                refine ⟨_, rfl, a, _, 0, _, rfl, rfl, SqT.of ga, rfl, d1, _, rfl, q1, _, rfl, ?_⟩
                cases h4 : isS "con" d1 with
                | true => exact iT rfl (cal (by rw [h4]; simp))
                | false => exact iF rfl ((fin _ rfl).2 (by rw [h3, h4]; rfl))
      · have e0 : isLeafD ds = false := by
          match ds, h2 with
          | [], _ => rfl
          | [_], _ => rfl
          | [_, _], h2 => exact absurd rfl h2
          | _ :: _ :: _ :: _, _ => rfl
        rw [e0] at k
        refine iF (decide_eq_false fun z => h2 (by rw [← le]; exact Int.ofNat.inj (V.int.inj z))) ?_
        exact k H (Same.refl H)
mutual
def isKindD : PyData → Bool
  | .tuple ds => isKindL ds
  | _ => false
def isKindL : List PyData → Bool
  | [h, a, b] => isS "apply" h && isKindD a && isKindD b
  | ds => isLeafD ds
end
end
mutual
/-- texts are short, all can be shown -/
def okD : PyData → Bool
  | .str x => decide (x.length ≤ 100) && PyData.strOk x
  | .tuple ds => okL ds
  | .int i => decide (i.natAbs.log2 < 1920)
  | .list ds => PyData.showableAll ds
  | .dict kvs => PyData.showableKv kvs
  | .none => true
  | .bool _ => true
def okL : List PyData → Bool
  | [] => true
  | d :: ds => okD d && okL ds
end
theorem okL_mem : ∀ {ds : List PyData} {d : PyData}, okL ds = true → d ∈ ds → okD d = true
  | e :: ds, d, h, hd => by
    simp only [okL, Bool.and_eq_true] at h
    rcases List.mem_cons.mp hd with rfl | hd
    · exact h.1
    · exact okL_mem h.2 hd
theorem okL_app : ∀ (a b : List PyData), okL (a ++ b) = (okL a && okL b)
  | [], b => by simp [okL]
  | d :: a, b => by simp only [List.cons_append, okL, okL_app a b, Bool.and_assoc]
theorem okD_str {x : Str} (h : okD (.str x) = true) : x.length ≤ 100 := by
  simp only [okD, Bool.and_eq_true, decide_eq_true_eq] at h
  exact h.1
theorem okD_sign {x : Str} (h : okD (.str x) = true) : PyData.strOk x = true := by
  simp only [okD, Bool.and_eq_true] at h
  exact h.2
theorem daAll_last {t : Addr} {H : Hp} {d : PyData} : ∀ {ds : List PyData} {vs : List V}, DaAll t H vs (ds ++ [d]) → ∃ vs0 v, vs = vs0 ++ [v] ∧ DaAll t H vs0 ds ∧ Da t H v d
  | [], _, h => by
    cases h with
    | cons h1 h2 =>
      cases h2
      exact ⟨[], _, rfl, .nil, h1⟩
  | e :: ds, _, h => by
    cases h with
    | cons h1 h2 =>
      obtain ⟨vs0, v, rfl, g1, g2⟩ := daAll_last (ds := ds) h2
      exact ⟨_, v, rfl, .cons h1 g1, g2⟩
theorem isKindL_three (h a b : PyData) : isKindL [h, a, b] = (isS "apply" h && isKindD a && isKindD b) := by
  simp only [isKindL]
theorem isKindL_else {ds : List PyData} (h : ds.length ≠ 3) : isKindL ds = isLeafD ds := by
  match ds, h with
  | [], _ => simp only [isKindL]
  | [_], _ => simp only [isKindL]
  | [_, _], _ => simp only [isKindL]
  | [_, _, _], h => exact absurd rfl h
  | _ :: _ :: _ :: _ :: _, _ => simp only [isKindL]
theorem isKindD_not {d : PyData} (h : isTup d = false) : isKindD d = false := by
  cases d with
  | tuple ds => cases h
  | _ => simp only [isKindD]
section
variable {P : Program} {w : World} {K : PySem.W.Frag} {mg : Str → Option Value} {base : Heap} {bA : Addr}
abbrev s_is_kind : Stmt := topS 18
abbrev N_is_kind : List Str := ["value", "waiting", "part"]
theorem sc_is_kind : FnScope N_is_kind ["value"] (defScope s_is_kind) := ⟨rfl, rfl, rfl, by decide +kernel, rfl, by decide +kernel, by decide +kernel⟩
def spKind : Sp := fun vs H Q _ => ∃ (t : Addr) (v : V) (d : PyData), vs = [v] ∧ Da t H v d ∧ okD d = true ∧ psz d ≤ 900000 ∧ ∀ H', Same H H' → Q (.bl (isKindD d)) H'
theorem ok_kind {f : Addr} {fd : FuncData} (F : Fun K "is_kind" "is_kind" s_is_kind f fd) (B : Bl mg) (B9 : Bl9 mg) (D_is_leaf : Kn P w K mg base 3 "is_leaf" ["value"] spLeaf) : FnOk P w K mg base CX0 4 f fd ["value"] spKind := by
  refine F.ok sc_is_kind (fun vs H Q E h => ?_) (fun cdv A outer s H vs Q E hr h => ?_)
  · obtain ⟨t, v, d, rfl, _⟩ := h
    rfl
  · obtain ⟨t, v, d, rfl, hd, hok, hsz, k⟩ := h
    have hr_is_leaf : Room 3 _ := hr
    have hu64 := hr.units
    refine ⟨_, (pss_cons (ps_set (i := 1) sc_is_kind.nd rfl (Or.inl rfl) (pe_lst (pa_cons (pv 0) pa_nil)))
  (pss_cons (ps_while PassesOwn.never (pt_truth (pv 1) (by intro _; rfl))
  (pss_cons (ps_set (i := 2) sc_is_kind.nd rfl (Or.inl rfl) (pe_bm0 PySem.F.plainAttrs_list PySem.F.slot_list_pop PySem.F.type_list_pop mt_pop (pv 1)))
  (pss_cons (ps_if (pt_not (pt_val (pe_callB call_isi (by rfl) B9.isinstance PyProof.Rows.boot_isinstance (pa_cons (pv 2) (pa_cons (pe_bltn (v := .ty "tuple") (by rfl) B9.tuple (by decide +kernel) rfl) pa_nil)))))
  (pss_one (ps_ret pe_bl))
  pss_nil)
  (pss_one (ps_if (PW.pt (pw_and (pt_cmpR op_eq (pe_callB call_len (by rfl) B.len PySem.boot_len (pa_cons (pv 2) pa_nil)) pe_int (nomark _)) (pw_and1 (pt_cmpR (op_eqStr (t := t) hu64) (pe_ix ix_tup (pv 2) pe_int (fun _ _ => rfl)) pe_str (nomark _)))))
  (pss_cons (ps_expr (pe_bm PySem.F.plainAttrs_list PySem.F.slot_list_append PySem.F.type_list_append mt_append (pv 1) (pa_cons (pe_ix ix_tup (pv 2) pe_int (fun _ _ => rfl)) pa_nil)))
  (pss_one (ps_expr (pe_bm PySem.F.plainAttrs_list PySem.F.slot_list_append PySem.F.type_list_append mt_append (pv 1) (pa_cons (pe_ix ix_tup (pv 2) pe_int (fun _ _ => rfl)) pa_nil)))))
  (pss_one (ps_if (pt_not (pt_val (pe_kn D_is_leaf hr_is_leaf (pa_cons (pv 2) pa_nil))))
  (pss_one (ps_ret pe_bl))
  pss_nil)))))))
  (pss_one (ps_ret pe_bl)))), ?_⟩
    refine ⟨_, rfl, slz rfl, fun lw hlw => ?_⟩
    have s1 : Same H (upd H lw (.lst [v])) := same_new hlw
    have g1 : (upd H lw (.lst [v])) lw = some (.lst [v]) := upd_same
    generalize upd H lw (.lst [v]) = H1 at s1 g1 ⊢
    refine ⟨fun m σ H' => ∃ (ds : List PyData) (vs : List V) (v3 : Option V), σ = [some v, some (.ref lw), v3] ∧ Same H H' ∧ H' lw = some (.lst vs) ∧ DaAll t H vs ds ∧ okL ds = true ∧ m = pszL ds ∧ pszL ds ≤ 900000 ∧ ds.all isKindD = isKindD d, ⟨pszL [d], [d], [v], none, rfl, s1, g1, .cons hd .nil, by simp only [okL, hok]; rfl, rfl, by simpa [pszL] using hsz, by simp⟩, ?_⟩
    rintro m σ H2 ⟨ds, vs, v3, rfl, s2, g2, da, ho, rfl, hz, hk⟩
    refine ⟨_, rfl, _, .inl ⟨vs, SqL.of g2, rfl⟩, ?_⟩
    rcases List.eq_nil_or_concat ds with rfl | ⟨ds0, d1, rfl⟩
    · cases da
      refine iteF ?_
      have e : isKindD d = true := by rw [← hk]; rfl
      rw [e] at k
      exact k H2 s2
    · rw [List.concat_eq_append] at *
      obtain ⟨vs0, v1, rfl, da0, dv⟩ := daAll_last da
      have hne : (!(vs0 ++ [v1]).isEmpty) = true := by cases vs0 <;> rfl
      refine iT hne ?_
      refine ⟨fun σ' H' => ∃ (ds : List PyData) (vs : List V) (v3 : Option V), σ' = [some v, some (.ref lw), v3] ∧ Same H H' ∧ H' lw = some (.lst vs) ∧ DaAll t H vs ds ∧ okL ds = true ∧ pszL ds < pszL (ds0 ++ [d1]) ∧ pszL ds ≤ 900000 ∧ ds.all isKindD = isKindD d, ?_, ?_⟩
      · rintro σ' H' ⟨ds, vs, v3, e1, e2, e3, e4, e5, e6, e7, e8⟩
        exact ⟨pszL ds, e6, ds, vs, v3, e1, e2, e3, e4, e5, rfl, e7, e8⟩
      · have lz : pszL (ds0 ++ [d1]) = pszL ds0 + psz d1 := by rw [pszL_app]; simp [pszL]
        have hp1 := psz_pos d1
        rw [okL_app, Bool.and_eq_true] at ho
        obtain ⟨ho0, ho1⟩ := ho
        have ho1 : okD d1 = true := okL_mem ho1 (List.mem_singleton.mpr rfl)
        rw [List.all_append] at hk
        have hk : (ds0.all isKindD && isKindD d1) = isKindD d := by rw [← hk]; simp
        have S3 : Same H (upd H2 lw (.lst vs0)) := fun b o z => by
          rw [upd_ne (ne_of_none z hlw)]
          exact s2 _ _ z
        refine ⟨_, rfl, .inl ⟨rfl, _, SqL.of g2⟩, lw, vs0 ++ [v1], v1, rfl, rfl, g2, by simp, ?_⟩
        rw [List.dropLast_concat]
        have g3 : (upd H2 lw (.lst vs0)) lw = some (.lst vs0) := upd_same
        generalize upd H2 lw (.lst vs0) = H3 at S3 g3 ⊢
        have dv3 := dv.kp (kp_same S3)
        refine ⟨_, rfl, v1, .ty "tuple", .type (tyName d1), .type "tuple", isTup d1, rfl, .ty "tuple", dv3.ty, kit_tup d1, ?_⟩
        refine ⟨_, rfl, ?_⟩
        cases ht : isTup d1 with
        | false =>
          have e : isKindD d = false := by rw [← hk, isKindD_not ht, Bool.and_false]
          rw [e] at k
          exact k H3 S3
        | true =>
          obtain ⟨es, rfl⟩ : ∃ es, d1 = .tuple es := by
            cases d1 with
            | tuple es => exact ⟨es, rfl⟩
            | _ => cases ht
          cases id dv with
          | @tup a xs _ ga0 daa0 =>
            have ga : H3 a = some (.tup xs) := S3 _ _ ga0
            have le := daa0.len
            refine iF rfl ?_
            refine ⟨_, rfl, .ref a, xs.length, rfl, .inr ⟨xs, SqT.of ga, rfl⟩, ?_⟩
            have ho2 : okL es = true := by simpa only [okD] using ho1
            have ps : psz (.tuple es) = 1 + pszL es := by simp only [psz]
            refine ⟨rfl, _, rfl, ?_⟩
            by_cases h3 : es.length = 3
            · match es, h3, daa0, ho2, dv, dv3, hk, ps, lz with
              | [d1, d2, d3], _, daa0, ho2, dv, dv3, hk, ps, lz =>
                cases daa0 with
                | @cons v1 _ _ _ q1 t1 =>
                  cases t1 with
                  | @cons v2 _ _ _ q2 t2 =>
                    cases t2 with
                    | @cons v3' _ _ _ q3 t3 =>
                      cases t3
                      refine iT rfl ?_
                      refine ⟨_, rfl, a, _, 0, _, rfl, rfl, SqT.of ga, rfl, d1, _, rfl, q1.kp (kp_same S3), _, rfl, ?_⟩
                      have e3 := isKindL_three d1 d2 d3
                      cases hap : isS "apply" d1 with
                      | false =>
                        have eL : isKindL [d1, d2, d3] = isLeafD [d1, d2, d3] := by
                          rw [e3, hap]
                          rfl
                        generalize hes : [d1, d2, d3] = es at daa0 ho2 dv dv3 hk ps lz hz eL ⊢
                        refine iF rfl ?_
                        refine ⟨_, rfl, t, .ref a, es, rfl, dv3, fun e he x ex => okD_str (by rw [← ex]; exact okL_mem ho2 he), fun H4 s4 => ⟨_, rfl, ?_⟩⟩
                        cases hlf : isLeafD es with
                        | false =>
                          have e : isKindD d = false := by
                            rw [← hk, show isKindD (.tuple es) = isKindL es by simp only [isKindD], eL, hlf, Bool.and_false]
                          rw [e] at k
                          exact k H4 (S3.trans s4)
                        | true =>
                          refine iF rfl ?_
                          exact ⟨ds0, vs0, _, rfl, S3.trans s4, s4 _ _ g3, da0, ho0, by rw [lz]; omega, by rw [lz] at hz; omega, by rw [← hk, show isKindD (.tuple es) = isKindL es by simp only [isKindD], eL, hlf, Bool.and_true]⟩
                      | true =>
                        refine iT rfl ?_
                        have lv0 : vs0.length ≤ 900000 := by
                          have := pszL_len ds0
                          rw [da0.len]
                          omega
                        refine ⟨_, rfl, .inl ⟨rfl, _, SqL.of g3⟩, _, rfl, _, _, 1, _, rfl, rfl, SqT.of ga, rfl, lw, _, _, rfl, rfl, g3, szl (by omega), ?_⟩
                        have S8 : Same H (upd H3 lw (.lst (vs0 ++ [v2]))) := fun b o zz => by
                          rw [upd_ne (ne_of_none zz hlw)]
                          exact S3 _ _ zz
                        have g8 : (upd H3 lw (.lst (vs0 ++ [v2]))) lw = some (.lst (vs0 ++ [v2])) := upd_same
                        generalize upd H3 lw (.lst (vs0 ++ [v2])) = H4 at S8 g8 ⊢
                        refine ⟨_, rfl, .inl ⟨rfl, _, SqL.of g8⟩, _, rfl, _, _, 2, _, rfl, rfl, SqT.of (S8 _ _ ga0), rfl, lw, _, _, rfl, rfl, g8, szl (by rw [List.length_append, List.length_singleton]; omega), ?_⟩
                        have pl : pszL [d1, d2, d3] = psz d1 + (psz d2 + psz d3) := by simp only [pszL]; omega
                        have hp2 := psz_pos d1
                        have ok3 : okD d2 = true ∧ okD d3 = true := ⟨okL_mem ho2 (by simp), okL_mem ho2 (by simp)⟩
                        have ln : pszL (ds0 ++ [d2] ++ [d3]) = pszL ds0 + psz d2 + psz d3 := by rw [pszL_app, pszL_app]; simp only [pszL]; omega
                        refine ⟨ds0 ++ [d2] ++ [d3], vs0 ++ [v2] ++ [v3'], _, rfl, fun b o zz => ?_, upd_same, (da0.app (.cons q2 .nil)).app (.cons q3 .nil), ?_, by rw [lz, ln, ps, pl]; omega, by rw [ln]; rw [lz, ps, pl] at hz; omega, ?_⟩
                        · rw [upd_ne (ne_of_none zz hlw)]
                          exact S8 _ _ zz
                        · rw [okL_app, okL_app, ho0]
                          simp only [okL, ok3.1, ok3.2]
                          rfl
                        · rw [← hk, show isKindD (.tuple [d1, d2, d3]) = isKindL [d1, d2, d3] by simp only [isKindD], e3, hap, List.all_append, List.all_append]
                          simp [Bool.and_assoc]
            · have eL := isKindL_else h3
              refine iF (decide_eq_false fun z => h3 (by rw [← le]; exact Int.ofNat.inj (V.int.inj z))) ?_
              refine iF rfl ?_
              refine ⟨_, rfl, t, .ref a, es, rfl, dv3, fun e he x ex => okD_str (by rw [← ex]; exact okL_mem ho2 he), fun H4 s4 => ⟨_, rfl, ?_⟩⟩
              cases hlf : isLeafD es with
              | false =>
                have e : isKindD d = false := by
                  rw [← hk, show isKindD (.tuple es) = isKindL es by simp only [isKindD], eL, hlf, Bool.and_false]
                rw [e] at k
                exact k H4 (S3.trans s4)
              | true =>
                refine iF rfl ?_
                exact ⟨ds0, vs0, _, rfl, S3.trans s4, s4 _ _ g3, da0, ho0, by rw [lz]; omega, by rw [lz] at hz; omega, by rw [← hk, show isKindD (.tuple es) = isKindL es by simp only [isKindD], eL, hlf, Bool.and_true]⟩
end
end L3

/-! tuple(d) of a dict: its keys -/
namespace L3
open PySem PySem.Spec PyProof.Rows L2
section
variable {prog : Program} {w : World} {A : Around} {E : Value → Shared → Prop} {s : Shared} {T : String} {r d : Addr} {n : Nat} {P : Nat → Value → Prop} {OK : Heap → Prop}
/-- what is collected, and what else is there -/
abbrev Got (P : Nat → Value → Prop) (n : Nat) (s : Shared) (Q : List Value → Shared → Prop) : Prop := ∀ (h' : Heap) (tk : Nat) (acc : Array Value), (∀ b o, s.heap.get? b = some o → h'.get? b = some o) → ItemsOf P acc n → Q acc.toList { s with heap := h', toks := tk }
theorem collect_src {Q : List Value → Shared → Prop} (K : PySem.W.KdlSrc prog w T r d n P OK) (hh : A.handled = none) (hok : OK s.heap) (hn : n ≤ sizeLine) (hQ : Got P n s Q) : wpAny (model prog w) A (collect (.ref r)) Q E s := by
  unfold collect
  refine wpAny_bind (wpAny_runValue (codeAny_builtin F.entry_proto_collect ?_))
  rw [Around.under_plainId F.plain_proto_collect _]
  show wpAny _ A.in1 (newList [] >>= fun l => again (.builtin "list.__iadd__" ⟨[l, .ref r], []⟩)) _ _ s
  refine wpAny_bind (wpAny_newObj_type ?_)
  refine wpAny_pure ⟨plainId_quiet F.plain_list_iadd _, codeAny_builtin F.entry_list_iadd ?_⟩
  rw [Around.under_plainId F.plain_list_iadd _]
  show wpAny _ A.in1 (Builtin.List.listExtendWith (.ref s.heap.objs.size) (.ref r) (.ref s.heap.objs.size)) _ _ _
  have hS : (s.heap.push { cls := .type "list", data := .seq ([] : List Value).toArray }).get? s.heap.objs.size = some { cls := .type "list", data := .seq #[] 0 } := Heap.get?_push_size _ rfl
  obtain ⟨lr, ld⟩ := K.there _ hok
  refine wpAny_mono (PySem.W.kdl_extend (A := A) (R := fun rr s' => rr = .ok (.ret (.ref s.heap.objs.size)) ∧ ∃ (h' : Heap) (tk : Nat) (acc : Array Value) (c' : Nat), s' = { s with heap := h', toks := tk } ∧
      (∀ b o, s.heap.get? b = some o → h'.get? b = some o) ∧ h'.get? s.heap.objs.size = some { cls := .type "list", dict := none, data := .seq acc c', slots := #[] } ∧ ItemsOf P acc n)
    (s := { s with heap := s.heap.push { cls := .type "list", data := .seq ([] : List Value).toArray } }) K hh (K.keep _ _ hok fun b _ o e => Heap.get?_push_of_some _ e) _ (Nat.ne_of_gt lr) (Nat.ne_of_gt ld) _ 0 hS
    (fun h' tk acc c' hk e hi => ⟨rfl, h', tk, acc, c', rfl, fun b o q => hk b o (Nat.ne_of_lt (Heap.lt_size q)) (Heap.get?_push_of_some _ q), e, hi⟩) hn) (fun fin s' h => ?_) (fun e s' h => ?_)
  · cases fin with
    | done f =>
      obtain ⟨e, h', tk, acc, c', rfl, hk, hS', hi⟩ := h
      cases e
      show wpAny _ A (load s.heap.objs.size >>= _) _ _ _
      exact wpAny_bind (wpAny_load hS' (wpAny_pure (hQ h' tk acc hk hi)))
    | again c' =>
      refine ⟨h.1, codeAny_mono h.2 fun rr s'' hr' => ?_⟩
      obtain ⟨rfl, h', tk, acc, c', rfl, hk, hS', hi⟩ := hr'
      show wpAny _ A (load s.heap.objs.size >>= _) _ _ _
      exact wpAny_bind (wpAny_load hS' (wpAny_pure (hQ h' tk acc hk hi)))
  · exact absurd h.1 (by simp)
theorem call_tuple_src {Q : Value → Shared → Prop} (K : PySem.W.KdlSrc prog w T r d n P OK) (hh : A.handled = none) (hok : OK s.heap) (hn : n ≤ sizeLine) (hT : s.TypeIs (.ref r) "dict")
    (hQ : ∀ (h' : Heap) (tk : Nat) (acc : Array Value), (∀ b o, s.heap.get? b = some o → h'.get? b = some o) → ItemsOf P acc n → Q (.ref h'.objs.size) { s with heap := h'.push { cls := .type "tuple", data := .seq acc }, toks := tk }) :
    wpAny (model prog w) A (call (.type "tuple") [.ref r]) Q E s := by
  refine callType_codes (Q₁ := fun obj s₁ => s₁.TypeIs obj "tuple" ∧ Q obj s₁) F.called_tuple (F.typeCall_tuple_1 _) F.entry_object_init ?_ fun obj s₁ h₁ => ?_
  · refine codeAny_of_tree ?_
    show wpAny _ A.in1.in1 (do checkBuiltinCall "tuple.__new__" ⟨[.type "tuple", .ref r], []⟩; again (.builtin "tuple.__new__" ⟨[.type "tuple", .ref r], []⟩)) _ _ s
    refine wpAny_bind (wpAny_of_eq (F.newCall_tuple_1 _) (wpAny_pure ⟨plainId_quiet F.plain_tuple_new _, codeAny_builtin F.entry_tuple_new ?_⟩))
    rw [Around.under_plainId F.plain_tuple_new _]
    have hsub := sub_tuple_self
    have hinit := init_tuple_lookup
    have hmh := madeHere_tuple
    have hh1 : A.in1.in1.handled = none := hh
    wp_walk using wpAny_typeOf hT, collect_src (A := A.in1.in1) K hh1 hok hn
    intro h' tk acc hk hacc
    show wpAny _ _ (Builtin.Tuple.tupleExact acc.toList.toArray >>= fun v => ret v) _ _ _
    unfold Builtin.Tuple.tupleExact
    refine wpAny_bind (wpAny_newObj_type ?_ (by show acc.toList.toArray.size ≤ sizeLine; simp only [Array.toArray_toList]; rw [hacc.1]; exact hn))
    refine wpAny_pure ?_
    have e : acc.toList.toArray = acc := by simp
    rw [e]
    exact ⟨⟨_, Heap.get?_push_size _ rfl, rfl⟩, hQ h' tk acc hk hacc⟩
  · exact ⟨h₁.1, F.args_object_init_2 obj _, object_init_meets F.called_tuple.init.lookup F.called_tuple.made (by decide) prog w A.in1 _ s₁ ⟨h₁.1, rfl, h₁.2⟩⟩
end
def rTupD : List V → Hp → VK → Prop := fun xs H Q => ∃ p kvs, xs = [.ref p] ∧ H p = some (.dK kvs) ∧ ∀ q, H q = none → Q (.ref q) (upd H q (.tup (kvs.map fun kv => kV kv.1)))
theorem call_tuple_dK {X : Cx} (hc : X.calm = true) : CallR X (.type "tuple") rTupD := by
  intro pins s σ H xs us Q I r h
  obtain ⟨p, kvs, e, hk, q⟩ := h
  subst e
  obtain ⟨u, eu, rx⟩ := vals1 r
  subst eu
  obtain rfl : u = Value.ref p := rx
  obtain ⟨z, lo, vs, rk, hd⟩ := (show ObjOk X.prog X.w H s.heap p (.dK kvs) from I.hok p _ hk)
  obtain ⟨ep, hat⟩ := hd.dictAt
  have hl : kvs.length = vs.length := Paired.length rk
  have K := PySem.W.kdl_dict (prog := X.prog) (w := X.w) (d := p) (knd := mixKind X.prog X.w) (kvs := vs) (ep := ep) lo
  refine call_tuple_src K (I.ok.hd hc) hat (by rw [← hl]; exact z) (K.type s hat) fun h' tk acc hkeep hacc => ?_
  have I2 : Inv X pins σ H { s with heap := h', toks := tk } := I.kept hkeep
  refine ⟨.ref h'.objs.size, upd H h'.objs.size (.tup (kvs.map fun kv => kV kv.1)), I2.laid (t' := tk) (fun c o e => Heap.get?_push_of_some _ e) (Nat.le_refl _) (show ObjOk X.prog X.w _ _ _ (.tup (kvs.map fun kv => kV kv.1)) from ⟨?_, acc.toList, ?_, ?_⟩), rfl, q _ (I2.hok.fresh (Nat.le_refl _))⟩
  · rw [List.length_map]; exact z
  · have el : acc.toList.length = acc.size := by simp
    refine vals_of_at (by rw [List.length_map, el, hacc.1, hl]) fun j x w h1 h2 => ?_
    obtain ⟨k, y, hky, hi⟩ := hacc.2 j w (by rw [← Array.getElem?_toList]; exact h2)
    have e1 : (kvs.map (·.1))[j]? = some k := by
      rw [KV.keys rk, List.getElem?_map, hky] <;> rfl
    have e2 : (kvs.map fun kv => kV kv.1)[j]? = some (kV k) := by
      have e3 : (kvs.map fun kv => kV kv.1) = (kvs.map (·.1)).map kV := by rw [List.map_map] <;> rfl
      rw [e3, List.getElem?_map, e1] <;> rfl
    rw [e2] at h1
    cases h1
    exact keyIs_rel hi
  · rw [Array.toArray_toList]; exact IsTup.new _ _
end L3

namespace L3
open PySem L2 RT
structure Bl5 (mg : Str → Option Value) : Prop where
  reversed : mg "reversed" = none
  sum : mg "sum" = none
theorem SqT.same' {K : PySem.W.Frag} {H H' : Hp} (e : Same H H') {a : Addr} {xs : List V} (h : SqT K H a xs) : SqT K H' a xs := by
  rcases h with (h | ⟨o, h⟩) | h
  · exact .inl (.inl (e _ _ h))
  · exact .inl (.inr ⟨o, e _ _ h⟩)
  · exact .inr h
def arrow (a b : Kd) : Kd := .app (.app (.con "to") a) b
section
variable {P : Program} {w : World} {K : PySem.W.Frag} {mg : Str → Option Value} {base : Heap}
abbrev s_var : Stmt := topS 14
abbrev N_var : List Str := ["name"]
theorem sc_var : FnScope N_var ["name"] (defScope s_var) := ⟨rfl, rfl, rfl, by decide +kernel, rfl, by decide +kernel, by decide +kernel⟩
def spVar : Sp := fun vs H Q _ => ∃ (x : Str), vs = [.str x] ∧ ∀ q, H q = none → Q (.ref q) (upd H q (.tup [.str "var", .str x]))
theorem ok_var {f : Addr} {fd : FuncData} (F : Fun K "var" "var" s_var f fd) : FnOk P w K mg base CX0 1 f fd ["name"] spVar := by
  refine F.ok sc_var (fun vs H Q E h => ?_) (fun cdv A outer s H vs Q E hr h => ?_)
  · obtain ⟨x, rfl, _⟩ := h
    rfl
  · obtain ⟨x, rfl, k⟩ := h
    refine ⟨_, (pss_one (ps_ret (pe_tup (pa_cons pe_str (pa_cons (pv 0) pa_nil))))), ?_⟩
    exact ⟨_, rfl, slz rfl, fun q hq => k q hq⟩
abbrev s_applied : Stmt := topS 16
abbrev N_applied : List Str := ["head", "parts", "found", "part"]
theorem sc_applied : FnScope N_applied ["head", "parts"] (defScope s_applied) := ⟨rfl, rfl, rfl, by decide +kernel, rfl, by decide +kernel, by decide +kernel⟩
def spApplied (K : PySem.W.Frag) : Sp := fun vs H Q _ => ∃ (v0 : V) (l : Addr) (k0 : Kd) (xs : List V) (ks : List Kd), vs = [v0, .ref l] ∧ KdAt H v0 k0 ∧ SqT K H l xs ∧ KdsAt H xs ks ∧
  ∀ (H' : Hp) (v : V), Same H H' → KdAt H' v (ks.foldl Kd.app k0) → Q v H'
theorem ok_applied {f : Addr} {fd : FuncData} (F : Fun K "applied" "applied" s_applied f fd) : FnOk P w K mg base CX0 1 f fd ["head", "parts"] (spApplied K) := by
  refine F.ok sc_applied (fun vs H Q E h => ?_) (fun cdv A outer s H vs Q E hr h => ?_)
  · obtain ⟨v0, l, k0, xs, ks, rfl, _⟩ := h
    rfl
  · obtain ⟨v0, l, k0, xs, ks, rfl, h0, h1, h2, k⟩ := h
    refine ⟨_, (pss_cons (ps_set (i := 2) sc_applied.nd rfl (Or.inl rfl) (pv 0))
  (pss_cons (ps_for PassesOwn.never rfl (pi_tup (pv 1)) (pg_name (i := 3) sc_applied.nd rfl (Or.inl rfl))
  (pss_one (ps_set (i := 2) sc_applied.nd rfl (Or.inl rfl) (pe_tup (pa_cons pe_str (pa_cons (pv 2) (pa_cons (pv 3) pa_nil)))))))
  (pss_one (ps_ret (pv 2))))), ?_⟩
    refine ⟨_, rfl, _, rfl, l, rfl, ⟨_, h1⟩, for_tup (K := K) (a := l) (xs := xs) (fun i σ H' => Same H H' ∧ ∃ (v : V) (pv : Option V), σ = [some v0, some (.ref l), some v, pv] ∧ KdAt H' v ((ks.take i).foldl Kd.app k0)) ⟨fun _ _ q => q, v0, none, rfl, h0⟩ (fun i σ H' _ ⟨s1, _⟩ => SqT.same' s1 h1) ?_ ?_⟩
    · rintro i y σ H' hi ⟨s1, v, pv, rfl, hv⟩
      obtain ⟨ky, hky, hy⟩ := paired_get h2 hi
      refine ⟨_, rfl, _, rfl, slz rfl, fun q hq => ?_⟩
      have s2 : Same H' (upd H' q (.tup [.str "apply", v, y])) := same_new hq
      refine ⟨s1.trans s2, _, _, rfl, ?_⟩
      have tk : ks.take (i + 1) = ks.take i ++ [ky] := by
        rw [List.take_add_one, hky]
        rfl
      rw [tk, List.foldl_append]
      exact ⟨q, v, y, rfl, upd_same, KdAt.tups (same_tups s2) hv, KdAt.tups (same_tups (s1.trans s2)) hy⟩
    · rintro σ H' ⟨s1, v, pv, rfl, hv⟩
      have e : ks.take xs.length = ks := by rw [Paired.length h2, List.take_length]
      rw [e] at hv
      exact ⟨_, rfl, k _ _ s1 hv⟩
abbrev s_con : Stmt := topS 15
abbrev N_con : List Str := ["name", "parts"]
theorem sc_con : FnScope N_con ["name", "parts"] (defScope s_con) := ⟨rfl, rfl, rfl, by decide +kernel, rfl, by decide +kernel, by decide +kernel⟩
def spConT (K : PySem.W.Frag) : Sp := fun vs H Q _ => ∃ (x : Str) (l : Addr) (xs : List V) (ks : List Kd), vs = [.str x, .ref l] ∧ SqT K H l xs ∧ KdsAt H xs ks ∧
  ∀ (H' : Hp) (v : V), Same H H' → KdAt H' v (conK x ks) → Q v H'
theorem ok_conP {f : Addr} {fd : FuncData} (F : Fun K "con" "con" s_con f fd) (D_applied : Kn P w K mg base 1 "applied" ["head", "parts"] (spApplied K)) : FnR P w K mg base CX0 2 f (spStar 1 (spConT K)) := by
  refine fn_starK (ps := ["name"]) F sc_con (fun _ _ _ _ _ _ us rest hl => match us, rest, hl with | [_], [], _ => rfl | [_], _ :: _, _ => rfl) (fun cdv A outer s H vs Q E hr h => ?_)
  obtain ⟨x, l, xs, ks, rfl, h1, h2, k⟩ := h
  have hr_applied := hr
  refine ⟨_, (pss_one (ps_ret (pe_kn D_applied hr_applied (pa_cons (pe_tup (pa_cons pe_str (pa_cons (pv 0) pa_nil))) (pa_cons (pv 1) pa_nil))))), ?_⟩
  refine ⟨_, rfl, slz rfl, fun q hq => ?_⟩
  have s1 : Same H (upd H q (.tup [.str "con", .str x])) := same_new hq
  refine ⟨_, rfl, .ref q, l, .con x, xs, ks, rfl, ⟨q, rfl, upd_same⟩, SqT.same' s1 h1, KdsAt.tups (same_tups s1) h2, fun H' v s2 hv => ?_⟩
  exact k _ _ (s1.trans s2) hv
abbrev s_to : Stmt := topS 17
abbrev N_to : List Str := ["kinds", "found", "kind"]
theorem sc_to : FnScope N_to ["kinds"] (defScope s_to) := ⟨rfl, rfl, rfl, by decide +kernel, rfl, by decide +kernel, by decide +kernel⟩
def spTo (K : PySem.W.Frag) : Sp := fun vs H Q _ => ∃ (l : Addr) (xs : List V) (x : V) (ks : List Kd) (kl : Kd), vs = [.ref l] ∧ SqT K H l (xs ++ [x]) ∧ KdsAt H xs ks ∧ KdAt H x kl ∧
  ∀ (H' : Hp) (v : V), Same H H' → KdAt H' v (ks.foldr arrow kl) → Q v H'
theorem cut_last (xs : List V) (x : V) : cutV (xs ++ [x]) none (some (-1)) = xs := by
  unfold cutV
  have e : HT.sIx (xs ++ [x]).length (xs ++ [x]).length (some (-1)) = xs.length := by
    unfold HT.sIx
    rw [List.length_append]
    simp
    omega
  rw [e, HT.sIx_none, List.drop_zero, Nat.sub_zero, List.take_left']
  rfl
theorem ok_to {f : Addr} {fd : FuncData} (F : Fun K "to" "to" s_to f fd) (B : Bl mg) (B5 : Bl5 mg) (D_con : KnR P w K mg base 2 "con" (spStar 1 (spConT K))) : FnR P w K mg base CX0 3 f (spStar 0 (spTo K)) := by
  refine fn_starK (ps := []) F sc_to (fun _ _ _ _ _ _ us rest hl => ?_) (fun cdv A outer s H vs Q E hr h => ?_)
  · cases us with
    | nil => cases rest <;> rfl
    | cons a r => cases hl
  obtain ⟨l, xs, x, ks, kl, rfl, h1, h2, h3, k⟩ := h
  have hr_con := hr
  refine ⟨_, (pss_cons (ps_set (i := 1) sc_to.nd rfl (Or.inl rfl) (pe_ix ix_tup (pv 0) (pe_un un_neg pe_int) (fun _ _ => rfl)))
  (pss_cons (ps_for PassesOwn.never rfl (pi_revA (by rfl) B5.reversed (pe_slice sl_tup (pv 0) po_none (po_some (pe_un un_neg pe_int)))) (pg_name (i := 2) sc_to.nd rfl (Or.inl rfl))
  (pss_one (ps_set (i := 1) sc_to.nd rfl (Or.inl rfl) (pe_ks D_con hr_con (pa_cons pe_str (pa_cons (pv 2) (pa_cons (pv 1) pa_nil)))))))
  (pss_one (ps_ret (pv 1))))), ?_⟩
  refine ⟨_, rfl, _, rfl, _, _, _, _, rfl, rfl, h1, atI_last xs x, ?_⟩
  refine ⟨_, rfl, _, rfl, _, rfl, l, xs ++ [x], rfl, h1, ?_, fun q hq => ?_⟩
  · rintro ⟨_, e⟩
    have e2 : HT.sIx (xs ++ [x]).length (xs ++ [x]).length (some (-1)) = xs.length := by
      unfold HT.sIx
      rw [List.length_append]
      simp
      omega
    rw [e2, List.length_append] at e
    simp at e
  · rw [cut_last]
    have s0 : Same H (upd H q (.tup xs)) := same_new hq
    have g0 : (upd H q (.tup xs)) q = some (.tup xs) := upd_same
    generalize upd H q (.tup xs) = H0 at s0 g0 ⊢
    have lk : xs.length = ks.length := Paired.length h2
    refine ⟨q, xs, rfl, .inr ⟨SqT.of g0, for_ItvT (K := K) (a := q) (xs := xs) (fun i σ H' => Same H0 H' ∧ ∃ (v : V) (pv : Option V), σ = [some (.ref l), some v, pv] ∧ KdAt H' v ((ks.drop (xs.length - i)).foldr arrow kl)) ⟨fun _ _ z => z, x, none, rfl, ?_⟩ (fun i σ H' ⟨s1, _⟩ => SqT.of (s1 _ _ g0)) ?_ ?_⟩⟩
    · rw [Nat.sub_zero, lk, List.drop_length]
      exact KdAt.tups (same_tups s0) h3
    · rintro i y σ H' hi hy ⟨s1, v, pv, rfl, hv⟩
      obtain ⟨ky, hky, hyy⟩ := paired_get h2 hy
      refine ⟨_, rfl, _, rfl, [.str "to"], [y, v], rfl, rfl, slz rfl, fun p hp => ?_⟩
      have s2 : Same H' (upd H' p (.tup [y, v])) := same_new hp
      refine ⟨"to", p, [y, v], [ky, (ks.drop (xs.length - i)).foldr arrow kl], rfl, SqT.of upd_same, .cons (KdAt.tups (same_tups ((s0.trans s1).trans s2)) hyy) (.cons (KdAt.tups (same_tups s2) hv) .nil), fun H2 v2 s3 hv2 => ?_⟩
      refine ⟨(s1.trans s2).trans s3, v2, _, rfl, ?_⟩
      obtain ⟨hj, ej⟩ := List.getElem?_eq_some_iff.mp hky
      have dr : ks.drop (xs.length - (i + 1)) = ky :: ks.drop (xs.length - i) := by
        rw [show xs.length - (i + 1) = xs.length - 1 - i by omega, List.drop_eq_getElem_cons hj, ej, show xs.length - 1 - i + 1 = xs.length - i by omega]
      rw [dr]
      exact hv2
    · rintro σ H' ⟨s1, v, pv, rfl, hv⟩
      rw [Nat.sub_self, List.drop_zero] at hv
      exact ⟨_, rfl, k _ _ (s0.trans s1) hv⟩
end
end L3

/-! walks: reversed(tuple); dict comprehensions over any walk -/
namespace L3
open PySem L2 RT
theorem walk_revT {K : PySem.W.Frag} {a : Addr} {xs : List V} : Walk (ItvT K a xs.length) xs.length (fun H => SqT K H a xs) (fun i H x H' => H' = H ∧ xs[xs.length - 1 - i]? = some x) :=
  ⟨fun i _ hi q => ⟨hi, xs, xs[xs.length - 1 - i]'(by omega), q, by simp [show xs.length - 1 - i < xs.length by omega]⟩, fun _ _ => Nat.le_refl _, fun _ _ _ _ _ q y => ⟨y.1, y.2 xs q⟩⟩
theorem rev_at {α : Type} {xs : List α} {i : Nat} {y : α} (hi : i < xs.length) (h : xs[xs.length - 1 - i]? = some y) : xs.reverse[i]? = some y := by
  rw [List.getElem?_reverse hi]
  exact h
theorem dc_it {J : It} {n : Nat} {G : Hp → Prop} {Y : Nat → Hp → V → Hp → Prop} (w : Walk J n G Y) {g : TG} {tt : TT} {tk tv : TE} {vs : List Nat} {σ : L2.St} {H1 : Hp} {D : Addr} {Qd : Hp → Prop} (Pv : Nat → Hp → Prop) (h0 : Pv 0 (upd H1 D (.dK []))) (hG : ∀ i H, i ≤ n → Pv i H → G H)
    (hs : ∀ i x H H', i < n → Pv i H → Y i H x H' → g x (wipe σ vs) H' fun σ2 H2 => wipe σ2 vs = wipe σ vs ∧ tt σ2 H2 fun b H3 =>
      if b = true then tk σ2 H3 fun y H4 => tv σ2 H4 fun z H5 => ∃ kvs k, y = kV k ∧ H5 D = some (.dK kvs) ∧ kvs.length < sizeLine ∧ Pv (i + 1) (upd H5 D (.dK (putK kvs k z))) else Pv (i + 1) H3) (hd : ∀ H, Pv n H → Qd H) :
    ∃ W : Nat → Nat → Hp → Prop, (∃ m, W 0 m (upd H1 D (.dK []))) ∧ ∀ i m H, W i m H →
      (J.stop i H ∧ Qd H) ∨ (J.go i H ∧ ∃ Nx : Hp → Prop, (∀ H', Nx H' → ∃ m', m' < m ∧ W (i + 1) m' H') ∧ ∀ x H', J.yld i H x H' → g x (wipe σ vs) H' fun σ2 H2 => wipe σ2 vs = wipe σ vs ∧ tt σ2 H2 fun b H3 =>
        if b = true then tk σ2 H3 fun y H4 => tv σ2 H4 fun z H5 => ∃ kvs k, y = kV k ∧ H5 D = some (.dK kvs) ∧ kvs.length < sizeLine ∧ Nx (upd H5 D (.dK (putK kvs k z))) else Nx H3) := by
  refine ⟨fun i m H => m = n - i ∧ i ≤ n ∧ Pv i H, ⟨n, by simp, Nat.zero_le _, h0⟩, ?_⟩
  rintro i m H ⟨rfl, hi, p⟩
  have q := hG i H hi p
  by_cases hlt : i < n
  · exact .inr ⟨w.goes i H hlt q, Pv (i + 1), fun H' p' => ⟨n - (i + 1), by omega, rfl, hlt, p'⟩, fun x H' y => hs i x H H' hlt p (w.yields i H x H' hlt q y)⟩
  · have e : i = n := by omega
    subst e
    exact .inl ⟨w.stops H q, hd H p⟩
end L3

/-! what is sorted is told by what is in it -/
namespace L3
open PySem PySem.Spec PyProof.Rows L2
theorem str_ext {x y : Str} (h : x.cps.toList = y.cps.toList) : x = y := by
  obtain ⟨⟨a⟩⟩ := x
  obtain ⟨⟨b⟩⟩ := y
  have e : a = b := h
  rw [e]
theorem rising_pw : ∀ (l : List Str) (p : Str), risingS p l = true → (p :: l).Pairwise fun a b => a.cps.toList ≤ b.cps.toList
  | [], p, _ => List.pairwise_singleton _ _
  | x :: r, p, h => by
    unfold risingS at h
    rw [Bool.and_eq_true, ltCps_eq] at h
    obtain ⟨h1, h2⟩ := h
    have ih := rising_pw r x h2
    have le : p.cps.toList ≤ x.cps.toList := by
      have : ¬ x.cps.toList < p.cps.toList := by simpa using h1
      exact this
    refine List.pairwise_cons.mpr ⟨fun y hy => ?_, ih⟩
    rcases List.mem_cons.mp hy with e | e
    · rw [e]; exact le
    · exact List.le_trans le ((List.pairwise_cons.mp ih).1 y e)
theorem sorted_pw : ∀ {l : List Str}, sortedS l = true → l.Pairwise fun a b => a.cps.toList ≤ b.cps.toList
  | [], _ => List.Pairwise.nil
  | x :: r, h => rising_pw r x h
theorem sorted_uniq {xs ys : List Str} (p : xs.Perm ys) (a : sortedS xs = true) (b : sortedS ys = true) : xs = ys :=
  List.Perm.eq_of_pairwise (le := fun a b : Str => a.cps.toList ≤ b.cps.toList) (fun x y _ _ h1 h2 => str_ext (List.le_antisymm h1 h2)) (sorted_pw a) (sorted_pw b) p
/-! the size of kinds, words of a script -/
theorem Kd.size_fit : ∀ {k : Kd} {n : Nat}, k.fit n → k.size + 1 ≤ 2 * 2 ^ n
  | .var x, n, _ => by
    have : 1 ≤ 2 ^ n := Nat.one_le_two_pow
    show 1 + 1 ≤ _
    omega
  | .con x, n, _ => by
    have : 1 ≤ 2 ^ n := Nat.one_le_two_pow
    show 1 + 1 ≤ _
    omega
  | .app a b, n, h => by
    obtain ⟨m, rfl, ha, hb⟩ := Kd.fit_app h
    have h1 := Kd.size_fit ha
    have h2 := Kd.size_fit hb
    have h5 : 2 ^ (m + 1) = 2 ^ m * 2 := Nat.pow_succ ..
    show a.size + b.size + 1 + 1 ≤ _
    omega
theorem sizeL_fit {n : Nat} : ∀ {ks : List Kd}, (∀ k ∈ ks, k.fit n) → sizeL ks ≤ ks.length * (2 * 2 ^ n)
  | [], _ => Nat.zero_le _
  | k :: r, h => by
    have h1 := Kd.size_fit (h k List.mem_cons_self)
    have h2 := sizeL_fit (ks := r) fun y hy => h y (List.mem_cons_of_mem _ hy)
    have e : (r.length + 1) * (2 * 2 ^ n) = r.length * (2 * 2 ^ n) + 2 * 2 ^ n := Nat.succ_mul ..
    show k.size + sizeL r ≤ (r.length + 1) * (2 * 2 ^ n)
    rw [e]
    omega
theorem vs_len : ∀ (k : Kd) (fs : List Str), (k.vs fs).length ≤ fs.length + k.size
  | .var x, fs => by
    show (addV fs x).length ≤ fs.length + 1
    unfold addV
    split
    · omega
    · simp
  | .con _, fs => Nat.le_add_right _ _
  | .app a b, fs => by
    have h1 := vs_len a fs
    have h2 := vs_len b (a.vs fs)
    show (b.vs (a.vs fs)).length ≤ fs.length + (a.size + b.size + 1)
    omega
theorem addV_of {ws fs : List Str} {x : Str} (h : x ∈ ws) (hf : ∀ y ∈ fs, y ∈ ws) : ∀ y ∈ addV fs x, y ∈ ws := by
  intro y hy
  unfold addV at hy
  split at hy
  · exact hf y hy
  · rcases List.mem_append.mp hy with q | q
    · exact hf y q
    · rw [List.mem_singleton.mp q]; exact h
theorem Kd.vs_of {ws : List Str} : ∀ {k : Kd} {fs : List Str}, Kd.of ws k → (∀ y ∈ fs, y ∈ ws) → ∀ y ∈ k.vs fs, y ∈ ws
  | .var x, _, h, hf => addV_of h hf
  | .con _, _, _, hf => hf
  | .app a b, fs, h, hf => Kd.vs_of (k := b) h.2 (Kd.vs_of (k := a) h.1 hf)
theorem vsL_of {ws : List Str} : ∀ {ks : List Kd} {fs : List Str}, (∀ k ∈ ks, Kd.of ws k) → (∀ y ∈ fs, y ∈ ws) → ∀ y ∈ vsL ks fs, y ∈ ws
  | [], _, _, hf => hf
  | k :: r, _, h, hf => vsL_of (ks := r) (fun y hy => h y (List.mem_cons_of_mem _ hy)) (Kd.vs_of (h k List.mem_cons_self) hf)
end L3

namespace L3
open PySem L2 RT
theorem vsL_append : ∀ (a b : List Kd) (fs : List Str), vsL (a ++ b) fs = vsL b (vsL a fs)
  | [], _, _ => rfl
  | k :: r, b, fs => vsL_append r b (k.vs fs)
theorem sizeL_append : ∀ (a b : List Kd), sizeL (a ++ b) = sizeL a + sizeL b
  | [], b => (Nat.zero_add _).symm
  | k :: r, b => by
    show k.size + sizeL (r ++ b) = k.size + sizeL r + sizeL b
    rw [sizeL_append r b, Nat.add_assoc]
theorem sizeL_rev : ∀ (a : List Kd), sizeL a.reverse = sizeL a
  | [] => rfl
  | k :: r => by
    rw [List.reverse_cons, sizeL_append, sizeL_rev r]
    show sizeL r + (k.size + 0) = k.size + sizeL r
    omega
theorem sizeL_len : ∀ (a : List Kd), a.length ≤ sizeL a
  | [] => Nat.le_refl _
  | k :: r => by
    have := sizeL_len r
    have := k.size_pos
    simp only [List.length_cons, sizeL]
    omega
theorem size_line {n : Nat} (h : n ≤ 1000000) : n < sizeLine := Nat.lt_of_le_of_lt h (by decide)
section
variable {P : Program} {w : World} {K : PySem.W.Frag} {mg : Str → Option Value} {base : Heap}
abbrev s_put : Stmt := topS 23
abbrev N_put : List Str := ["kind", "by"]
theorem sc_put : FnScope N_put ["kind", "by"] (defScope s_put) := ⟨rfl, rfl, rfl, by decide +kernel, rfl, by decide +kernel, by decide +kernel⟩
def spPutK (K : PySem.W.Frag) (n : Nat) : Sp := fun vs H Q _ => ∃ (v : V) (d : Addr) (k : Kd) (kvs : List (Key × V)) (by' : By), vs = [v, .ref d] ∧ KdAt H v k ∧ k.fit n ∧ H d = some (.dK kvs) ∧ ByAt H kvs by' ∧
  ∀ (H' : Hp) (v' : V), Same H H' → KdAt H' v' (k.put by') → Q v' H'
def spPrev (f : Nat → Sp) : Nat → Sp
  | 0 => fun _ _ _ _ => False
  | n + 1 => f n

theorem ok_putP_step {n : Nat} {f : Addr} {fd : FuncData} (F : Fun K "put" "put" s_put f fd) (D_put : Kn P w K mg base n "put" ["kind", "by"] (spPrev (spPutK K) n)) : FnOk P w K mg base CX0 (n + 1) f fd ["kind", "by"] (spPutK K n) := by
  refine F.ok sc_put (fun vs H Q E h => ?_) (fun cdv A outer s H vs Q E hr h => ?_)
  · obtain ⟨v, d, k, kvs, by', rfl, _⟩ := h
    rfl
  · obtain ⟨v, d, kd, kvs, by', rfl, h1, h2, h3, h4, k⟩ := h
    have hr_put := hr
    have hu := hu_of hr
    refine ⟨_, (pss_cons (ps_if (pt_cmpR op_eq (pe_ix ix_tup (pv 0) pe_int (fun _ _ => rfl)) pe_str (nomark _))
  (pss_one (ps_ret (pe_tup (pa_cons pe_str (pa_cons (pe_kn D_put hr_put (pa_cons (pe_ix ix_tup (pv 0) pe_int (fun _ _ => rfl)) (pa_cons (pv 1) pa_nil))) (pa_cons (pe_kn D_put hr_put (pa_cons (pe_ix ix_tup (pv 0) pe_int (fun _ _ => rfl)) (pa_cons (pv 1) pa_nil))) pa_nil))))))
  pss_nil)
  (pss_cons (ps_if (pt_cmpR op_eq (pe_ix ix_tup (pv 0) pe_int (fun _ _ => rfl)) pe_str (nomark _))
  (pss_one (ps_ret (pe_dget2 hu (pv 1) (pe_ix ix_tup (pv 0) pe_int (fun _ _ => rfl)) (pv 0) ⟨rfl, rfl, rfl, rfl⟩)))
  pss_nil)
  (pss_one (ps_ret (pv 0))))), ?_⟩
    cases kd with
    | app a b =>
      obtain ⟨m, rfl, ha, hb⟩ := Kd.fit_app h2
      obtain ⟨p, u, z, rfl, hp, hu1, hz1⟩ := h1
      refine ⟨_, rfl, _, _, _, _, rfl, rfl, SqT.of hp, rfl, rfl, _, rfl, iT tg_aa ?_⟩
      refine ⟨_, rfl, _, _, _, _, rfl, rfl, SqT.of hp, rfl, _, rfl, u, d, a, kvs, by', rfl, hu1, ha, h3, h4, fun H1 v1 s1 g1 => ?_⟩
      refine ⟨_, rfl, _, _, _, _, rfl, rfl, SqT.of (s1 _ _ hp), rfl, _, rfl, z, d, b, kvs, by', rfl, KdAt.tups (same_tups s1) hz1, hb, s1 _ _ h3, ByAt.tups (same_tups s1) h4, fun H2 v2 s2 g2 => ?_⟩
      refine ⟨slz rfl, fun q hq => ?_⟩
      have s3 : Same H2 (upd H2 q (.tup [.str "apply", v1, v2])) := same_new hq
      exact k _ _ ((s1.trans s2).trans s3) ⟨q, v1, v2, rfl, upd_same, KdAt.tups (same_tups (s2.trans s3)) g1, KdAt.tups (same_tups s3) g2⟩
    | var x =>
      obtain ⟨p, rfl, hp⟩ := id h1
      refine ⟨_, rfl, _, _, _, _, rfl, rfl, SqT.of hp, rfl, rfl, _, rfl, iF tg_va ?_⟩
      refine ⟨_, rfl, _, _, _, _, rfl, rfl, SqT.of hp, rfl, rfl, _, rfl, iT tg_vv ?_⟩
      refine ⟨_, rfl, d, rfl, .inl ⟨_, .inl h3⟩, _, rfl, _, _, _, _, rfl, rfl, SqT.of hp, rfl, _, rfl, _, DGet.k (k := .inr x) h3, ?_⟩
      rcases h4.get x with ⟨e1, e2⟩ | ⟨v, kd, e1, e2, g⟩
      · rw [e1]
        refine k _ _ (Same.refl _) ?_
        show KdAt H (.ref p) ((lk by' x).getD (.var x))
        rw [e2]
        exact h1
      · rw [e1]
        refine k _ _ (Same.refl _) ?_
        show KdAt H v ((lk by' x).getD (.var x))
        rw [e2]
        exact g
    | con x =>
      obtain ⟨p, rfl, hp⟩ := id h1
      refine ⟨_, rfl, _, _, _, _, rfl, rfl, SqT.of hp, rfl, rfl, _, rfl, iF tg_ca ?_⟩
      refine ⟨_, rfl, _, _, _, _, rfl, rfl, SqT.of hp, rfl, rfl, _, rfl, iF tg_cv ?_⟩
      exact ⟨_, rfl, k _ _ (Same.refl _) h1⟩
theorem ok_putP {f : Addr} {fd : FuncData} (F : Fun K "put" "put" s_put f fd) (hm : mg "put" = some (.ref f)) : ∀ n, FnOk P w K mg base CX0 (n + 1) f fd ["kind", "by"] (spPutK K n)
  | 0 => ok_putP_step F ⟨f, fd, fn_false, hm, F.kp, F.binds fun _ _ _ _ _ _ us hl => match us, hl with | [_, _], _ => rfl⟩
  | n + 1 => ok_putP_step F ⟨f, fd, ok_putP F hm n, hm, F.kp, F.binds fun _ _ _ _ _ _ us hl => match us, hl with | [_, _], _ => rfl⟩
/-! ### leaves -/
end
def Kd.leaves : Kd → List Kd
  | .var x => [.var x]
  | .con x => [.con x]
  | .app a b => a.leaves ++ b.leaves
def leavesL : List Kd → List Kd
  | [] => []
  | k :: r => k.leaves ++ leavesL r
theorem leavesL_append : ∀ a b : List Kd, leavesL (a ++ b) = leavesL a ++ leavesL b
  | [], _ => rfl
  | k :: r, b => by
    show k.leaves ++ leavesL (r ++ b) = k.leaves ++ leavesL r ++ leavesL b
    rw [leavesL_append r b, List.append_assoc]
theorem leaves_size : ∀ k : Kd, k.leaves.length ≤ k.size
  | .var _ => Nat.le_refl _
  | .con _ => Nat.le_refl _
  | .app a b => by
    have h1 := leaves_size a
    have h2 := leaves_size b
    show (a.leaves ++ b.leaves).length ≤ a.size + b.size + 1
    rw [List.length_append]
    omega
theorem leavesL_size : ∀ ks : List Kd, (leavesL ks).length ≤ sizeL ks
  | [] => Nat.le_refl _
  | k :: r => by
    have h1 := leaves_size k
    have h2 := leavesL_size r
    show (k.leaves ++ leavesL r).length ≤ k.size + sizeL r
    rw [List.length_append]
    omega
theorem vsL_leaves : ∀ (k : Kd) (fs : List Str), vsL k.leaves fs = k.vs fs
  | .var _, _ => rfl
  | .con _, _ => rfl
  | .app a b, fs => by
    show vsL (a.leaves ++ b.leaves) fs = b.vs (a.vs fs)
    rw [vsL_append, vsL_leaves a, vsL_leaves b]
theorem vsL_leavesL : ∀ (ks : List Kd) (fs : List Str), vsL (leavesL ks) fs = vsL ks fs
  | [], _ => rfl
  | k :: r, fs => by
    show vsL (k.leaves ++ leavesL r) fs = vsL r (k.vs fs)
    rw [vsL_append, vsL_leaves, vsL_leavesL r]
section
variable {P : Program} {w : World} {K : PySem.W.Frag} {mg : Str → Option Value} {base : Heap}
abbrev s_leaves_of : Stmt := topS 20
abbrev N_leaves_of : List Str := ["kinds", "found", "waiting", "part", "kind"]
theorem sc_leaves_of : FnScope N_leaves_of ["kinds"] (defScope s_leaves_of) := ⟨rfl, rfl, rfl, by decide +kernel, rfl, by decide +kernel, by decide +kernel⟩
def spLeaves (K : PySem.W.Frag) : Sp := fun vs H Q _ => ∃ (l : Addr) (xs : List V) (ks : List Kd), vs = [.ref l] ∧ SqT K H l xs ∧ KdsAt H xs ks ∧ sizeL ks ≤ 100000 ∧
  ∀ (H' : Hp) (p : Addr) (ls : List V), Same H H' → H p = none → H' p = some (.lst ls) → KdsAt H' ls (leavesL ks) → Q (.ref p) H'
theorem ok_leaves {f : Addr} {fd : FuncData} (F : Fun K "leaves_of" "leaves_of" s_leaves_of f fd) (B : Bl mg) (B5 : Bl5 mg) : FnR P w K mg base CX0 1 f (spStar 0 (spLeaves K)) := by
  refine fn_starK (ps := []) F sc_leaves_of (fun _ _ _ _ _ _ us rest hl => ?_) (fun cdv A outer s H vs Q E hr h => ?_)
  · cases us with
    | nil => cases rest <;> rfl
    | cons a r => cases hl
  obtain ⟨l, xs, ks, rfl, h1, h2, h4, k⟩ := h
  refine ⟨_, (pss_cons (ps_set (i := 1) sc_leaves_of.nd rfl (Or.inl rfl) (pe_lst pa_nil))
  (pss_cons (ps_setLc (i := 2) (own := [("kind", 4)]) rfl sc_leaves_of.nd rfl rfl (sw_true rfl rfl rfl (by decide +kernel)) (pi_revA (by rfl) B5.reversed (pv 0)) (blkOk_by (N := N_leaves_of) (sc := (defScope s_leaves_of)) (own := [("kind", 4)]) (by decide +kernel)) (fun _ _ _ _ _ => (pg_name (i := 4) sc_leaves_of.nd rfl (Or.inl rfl))) (fun _ _ _ _ _ => pts_nil) (fun _ _ _ _ _ => (pv 4)))
  (pss_cons (ps_while PassesOwn.never (pt_truth (pv 2) (by intro _; rfl))
  (pss_cons (ps_set (i := 3) sc_leaves_of.nd rfl (Or.inl rfl) (pe_bm0 PySem.F.plainAttrs_list PySem.F.slot_list_pop PySem.F.type_list_pop mt_pop (pv 2)))
  (pss_one (ps_if (pt_cmpR op_eq (pe_ix ix_tup (pv 3) pe_int (fun _ _ => rfl)) pe_str (nomark _))
  (pss_cons (ps_expr (pe_bm PySem.F.plainAttrs_list PySem.F.slot_list_append PySem.F.type_list_append mt_append (pv 2) (pa_cons (pe_ix ix_tup (pv 3) pe_int (fun _ _ => rfl)) pa_nil)))
  (pss_one (ps_expr (pe_bm PySem.F.plainAttrs_list PySem.F.slot_list_append PySem.F.type_list_append mt_append (pv 2) (pa_cons (pe_ix ix_tup (pv 3) pe_int (fun _ _ => rfl)) pa_nil)))))
  (pss_one (ps_expr (pe_bm PySem.F.plainAttrs_list PySem.F.slot_list_append PySem.F.type_list_append mt_append (pv 1) (pa_cons (pv 3) pa_nil))))))))
  (pss_one (ps_ret (pv 1)))))), ?_⟩
  refine ⟨slz rfl, fun lf hlf => ?_⟩
  have s1 : Same H (upd H lf (.lst [])) := same_new hlf
  have gf1 : (upd H lf (.lst [])) lf = some (.lst []) := upd_same
  generalize upd H lf (.lst []) = H1 at s1 gf1 ⊢
  refine ⟨_, rfl, l, xs, rfl, .inr ⟨SqT.same' s1 h1, fun lw hlw => lc_it walk_revT (fun i H' => Same H1 H' ∧ H' lw = some (.lst (xs.reverse.take i))) ⟨same_new hlw, upd_same⟩ (fun i H' _ h => SqT.same' h.1 (SqT.same' s1 h1)) ?_ ?_⟩⟩
  · rintro i y H2 H3 hi ⟨s2, g2⟩ ⟨rfl, ey⟩
    refine ⟨rfl, ?_⟩
    refine ⟨_, rfl, _, g2, size_line (by have := sizeL_len ks; have := Paired.length h2; simp; omega), fun b o e => ?_, ?_⟩
    · rw [upd_ne (ne_of_none e hlw)]
      exact s2 _ _ e
    · rw [upd_same, List.take_add_one, rev_at hi ey]
      rfl
  rintro H2 ⟨s3, gw0⟩
  rw [List.take_of_length_le (by simp)] at gw0
  have ss := s1.trans s3
  have nlw : H lw = none := s1.free hlw
  have nfw : lf ≠ lw := ne_of_none gf1 hlw
  refine ⟨fun m σ H' => ∃ (st dn : List Kd) (vs fs : List V) (v3 : Option V), σ = [some (.ref l), some (.ref lf), some (.ref lw), v3, none] ∧ Same H H' ∧ H' lf = some (.lst fs) ∧ KdsAt H' fs dn ∧ H' lw = some (.lst vs) ∧ KdsAt H' vs st ∧ m = sizeL st ∧
      dn.length + sizeL st ≤ 100000 ∧ dn ++ leavesL st.reverse = leavesL ks, ⟨sizeL ks, ks.reverse, [], xs.reverse, [], none, rfl, ss, s3 _ _ gf1, .nil, gw0, KdsAt.tups (same_tups ss) (paired_rev h2), (sizeL_rev ks).symm, by rw [sizeL_rev]; simpa using h4, by rw [List.reverse_reverse]; rfl⟩, ?_⟩
  rintro m σ H2 ⟨st, dn, vs, fs, v3, rfl, s4, g1, gd, g2, g3, rfl, g5, g6⟩
  refine ⟨_, rfl, _, .inl ⟨vs, SqL.of g2, rfl⟩, ?_⟩
  by_cases hst : st = []
  · subst hst
    cases g3
    refine iteF ?_
    have e : dn = leavesL ks := by rw [← g6]; simp [leavesL]
    exact ⟨_, rfl, k H2 lf fs s4 hlf g1 (by rw [← e]; exact gd)⟩
  · obtain ⟨st0, kd, rfl⟩ := kds_snoc st hst
    obtain ⟨vs0, v, rfl, g31, g32⟩ := paired_last g3
    have hne : (!(vs0 ++ [v]).isEmpty) = true := by cases vs0 <;> rfl
    refine iT hne ?_
    refine ⟨fun σ' H' => ∃ (st dn : List Kd) (vs fs : List V) (v3 : Option V), σ' = [some (.ref l), some (.ref lf), some (.ref lw), v3, none] ∧ Same H H' ∧ H' lf = some (.lst fs) ∧ KdsAt H' fs dn ∧ H' lw = some (.lst vs) ∧ KdsAt H' vs st ∧ sizeL st < sizeL (st0 ++ [kd]) ∧
        dn.length + sizeL st ≤ 100000 ∧ dn ++ leavesL st.reverse = leavesL ks, ?_, ?_⟩
    · rintro σ' H' ⟨st, dn, vs, fs, v3, e1, e2, e3, e4, e5, e6, e7, e8, e9⟩
      exact ⟨sizeL st, e7, st, dn, vs, fs, v3, e1, e2, e3, e4, e5, e6, rfl, e8, e9⟩
    · have lsz : sizeL (st0 ++ [kd]) = sizeL st0 + kd.size := by rw [sizeL_append]; rfl
      rw [List.reverse_append] at g6
      have g6' : dn ++ (kd.leaves ++ leavesL st0.reverse) = leavesL ks := g6
      have S6 : Same H (upd H2 lw (.lst vs0)) := fun b o z => by
        rw [upd_ne (ne_of_none z nlw)]
        exact s4 _ _ z
      have tu : Tups H2 (upd H2 lw (.lst vs0)) := Tups.put g2 (by intro xs z; cases z)
      have gf : (upd H2 lw (.lst vs0)) lf = some (.lst fs) := by rw [upd_ne nfw]; exact g1
      refine ⟨_, rfl, .inl ⟨rfl, _, SqL.of g2⟩, lw, vs0 ++ [v], v, rfl, rfl, g2, by simp, ?_⟩
      rw [List.dropLast_concat]
      have gw : (upd H2 lw (.lst vs0)) lw = some (.lst vs0) := upd_same
      have k1 := KdsAt.tups tu g31
      have k2 := KdAt.tups tu g32
      have kd' := KdsAt.tups tu gd
      generalize upd H2 lw (.lst vs0) = H3 at S6 gf gw k1 k2 kd' ⊢
      clear tu
      have hs1 := kd.size_pos
      have lnv : vs0.length ≤ 100000 := by
        have := sizeL_len st0
        rw [Paired.length k1]
        omega
      have leaf : ∀ (kl : Kd), kl = kd → kd.leaves = [kd] → ∃ acc, H3 lf = some (.lst acc) ∧ acc.length < sizeLine ∧ ∃ (st dn : List Kd) (vs fs : List V) (v3 : Option V), [some (.ref l), some (.ref lf), some (.ref lw), some v, none] = [some (V.ref l), some (.ref lf), some (.ref lw), v3, none] ∧ Same H (upd H3 lf (.lst (acc ++ [v]))) ∧ (upd H3 lf (.lst (acc ++ [v]))) lf = some (.lst fs) ∧ KdsAt (upd H3 lf (.lst (acc ++ [v]))) fs dn ∧ (upd H3 lf (.lst (acc ++ [v]))) lw = some (.lst vs) ∧ KdsAt (upd H3 lf (.lst (acc ++ [v]))) vs st ∧ sizeL st < sizeL (st0 ++ [kd]) ∧
          dn.length + sizeL st ≤ 100000 ∧ dn ++ leavesL st.reverse = leavesL ks := by
        intro kl _ el
        have tu8 : Tups H3 (upd H3 lf (.lst (fs ++ [v]))) := Tups.put gf (by intro xs z; cases z)
        refine ⟨fs, gf, by rw [Paired.length kd']; exact size_line (by omega), st0, dn ++ [kd], vs0, fs ++ [v], _, rfl, fun b o zz => ?_, upd_same, Paired.snoc (KdsAt.tups tu8 kd') (KdAt.tups tu8 k2), by rw [upd_ne nfw.symm]; exact gw, KdsAt.tups tu8 k1, by rw [lsz]; omega, ?_, ?_⟩
        · rw [upd_ne (ne_of_none zz hlf)]
          exact S6 _ _ zz
        · rw [lsz] at g5
          rw [List.length_append, List.length_singleton]
          omega
        · rw [← g6', el, List.append_assoc]
      cases kd with
      | app a d =>
        obtain ⟨p, u, z, rfl, hp, ha, hd⟩ := id k2
        refine ⟨_, rfl, _, _, _, _, rfl, rfl, SqT.of hp, rfl, rfl, _, rfl, iT tg_aa ?_⟩
        refine ⟨_, rfl, .inl ⟨rfl, _, SqL.of gw⟩, _, rfl, _, _, _, _, rfl, rfl, SqT.of hp, rfl, lw, _, _, rfl, rfl, gw, size_line (by omega), ?_⟩
        have tu8 : Tups H3 (upd H3 lw (.lst (vs0 ++ [z]))) := Tups.put gw (by intro xs z; cases z)
        have gw8 : (upd H3 lw (.lst (vs0 ++ [z]))) lw = some (.lst (vs0 ++ [z])) := upd_same
        have gf8 : (upd H3 lw (.lst (vs0 ++ [z]))) lf = some (.lst fs) := by rw [upd_ne nfw]; exact gf
        have S8 : Same H (upd H3 lw (.lst (vs0 ++ [z]))) := fun b o zz => by
          rw [upd_ne (ne_of_none zz nlw)]
          exact S6 _ _ zz
        generalize upd H3 lw (.lst (vs0 ++ [z])) = H4 at tu8 gw8 gf8 S8 ⊢
        refine ⟨_, rfl, .inl ⟨rfl, _, SqL.of gw8⟩, _, rfl, _, _, _, _, rfl, rfl, SqT.of (tu8 _ _ hp), rfl, lw, _, _, rfl, rfl, gw8, size_line (by rw [List.length_append, List.length_singleton]; omega), ?_⟩
        have tu9 : Tups H3 (upd H4 lw (.lst (vs0 ++ [z] ++ [u]))) := tu8.trans (Tups.put gw8 (by intro xs z; cases z))
        refine ⟨st0 ++ [d] ++ [a], dn, vs0 ++ [z] ++ [u], fs, _, rfl, fun b o zz => ?_, by rw [upd_ne nfw]; exact gf8, KdsAt.tups tu9 kd', upd_same, Paired.snoc (Paired.snoc (KdsAt.tups tu9 k1) (KdAt.tups tu9 hd)) (KdAt.tups tu9 ha), ?_, ?_, ?_⟩
        · rw [upd_ne (ne_of_none zz nlw)]
          exact S8 _ _ zz
        · rw [sizeL_append, sizeL_append, lsz]
          simp only [sizeL, Kd.size]
          omega
        · rw [sizeL_append, sizeL_append]
          rw [lsz] at g5
          simp only [sizeL, Kd.size] at g5 ⊢
          omega
        · rw [← g6', List.reverse_append, List.reverse_append]
          show dn ++ (a.leaves ++ (d.leaves ++ leavesL st0.reverse)) = dn ++ (a.leaves ++ d.leaves ++ leavesL st0.reverse)
          rw [List.append_assoc]
      | var x =>
        obtain ⟨p, rfl, hp⟩ := id k2
        refine ⟨_, rfl, _, _, _, _, rfl, rfl, SqT.of hp, rfl, rfl, _, rfl, iF tg_va ?_⟩
        obtain ⟨acc, a1, a2, a3⟩ := leaf _ rfl rfl
        exact ⟨_, rfl, .inl ⟨rfl, _, SqL.of a1⟩, _, rfl, lf, _, _, rfl, rfl, a1, a2, a3⟩
      | con x =>
        obtain ⟨p, rfl, hp⟩ := id k2
        refine ⟨_, rfl, _, _, _, _, rfl, rfl, SqT.of hp, rfl, rfl, _, rfl, iF tg_ca ?_⟩
        obtain ⟨acc, a1, a2, a3⟩ := leaf _ rfl rfl
        exact ⟨_, rfl, .inl ⟨rfl, _, SqL.of a1⟩, _, rfl, lf, _, _, rfl, rfl, a1, a2, a3⟩
abbrev s_size_of : Stmt := topS 21
abbrev N_size_of : List Str := ["kinds"]
theorem sc_size_of : FnScope N_size_of ["kinds"] (defScope s_size_of) := ⟨rfl, rfl, rfl, by decide +kernel, rfl, by decide +kernel, by decide +kernel⟩
def spSize (K : PySem.W.Frag) : Sp := fun vs H Q _ => ∃ (l : Addr) (xs : List V) (ks : List Kd), vs = [.ref l] ∧ SqT K H l xs ∧ KdsAt H xs ks ∧ sizeL ks ≤ 100000 ∧
  ∀ (H' : Hp), Same H H' → Q (.int ((leavesL ks).length : Int)) H'
theorem ok_size {f : Addr} {fd : FuncData} (F : Fun K "size_of" "size_of" s_size_of f fd) (B : Bl mg) (D_leaves_of : KnR P w K mg base 1 "leaves_of" (spStar 0 (spLeaves K))) : FnR P w K mg base CX0 2 f (spStar 0 (spSize K)) := by
  refine fn_starK (ps := []) F sc_size_of (fun _ _ _ _ _ _ us rest hl => ?_) (fun cdv A outer s H vs Q E hr h => ?_)
  · cases us with
    | nil => cases rest <;> rfl
    | cons a r => cases hl
  obtain ⟨l, xs, ks, rfl, h1, h2, h4, k⟩ := h
  have hr_leaves_of := hr
  have lx : xs.length ≤ 100000 := by
    have := sizeL_len ks
    rw [Paired.length h2]
    omega
  refine ⟨_, (pss_one (ps_ret (pe_callB call_len (by rfl) B.len PySem.boot_len (pa_cons (pe_ks1 D_leaves_of hr_leaves_of (pv 0)) pa_nil)))), ?_⟩
  refine ⟨_, rfl, l, xs, rfl, .inl h1, [], xs, rfl, rfl, Nat.le_of_lt (size_line (by omega)), fun q hq => ⟨q, xs, ks, rfl, SqT.of upd_same, KdsAt.tups (same_tups (same_new hq)) h2, h4, fun H1 p ls s1 hp g1 g2 => ?_⟩⟩
  refine ⟨_, _, rfl, .inl ⟨_, SqL.of g1, rfl⟩, ?_⟩
  have := k H1 ((same_new hq).trans s1)
  rw [← Paired.length g2] at this
  exact this
abbrev s_variables_of : Stmt := topS 22
abbrev N_variables_of : List Str := ["kinds", "leaf"]
theorem sc_variables_of : FnScope N_variables_of ["kinds"] (defScope s_variables_of) := ⟨rfl, rfl, rfl, by decide +kernel, rfl, by decide +kernel, by decide +kernel⟩
def spVarsT (K : PySem.W.Frag) : Sp := fun vs H Q _ => ∃ (l : Addr) (xs : List V) (ks : List Kd), vs = [.ref l] ∧ SqT K H l xs ∧ KdsAt H xs ks ∧ sizeL ks ≤ 100000 ∧
  ∀ (H' : Hp) (q : Addr), Same H H' → H q = none → H' q = some (.tup ((vsL ks []).map V.str)) → Q (.ref q) H'
end
theorem leaf_cases : ∀ {k q : Kd}, q ∈ k.leaves → (∃ x, q = .var x) ∨ ∃ x, q = .con x
  | .var x, q, h => .inl ⟨x, List.mem_singleton.mp h⟩
  | .con x, q, h => .inr ⟨x, List.mem_singleton.mp h⟩
  | .app a b, q, h => by
    rcases List.mem_append.mp (show q ∈ a.leaves ++ b.leaves from h) with h | h
    · exact leaf_cases h
    · exact leaf_cases h
theorem leafL_cases : ∀ {ks : List Kd} {q : Kd}, q ∈ leavesL ks → (∃ x, q = .var x) ∨ ∃ x, q = .con x
  | [], _, h => nomatch h
  | k :: r, q, h => by
    rcases List.mem_append.mp (show q ∈ k.leaves ++ leavesL r from h) with h | h
    · exact leaf_cases h
    · exact leafL_cases h
theorem vsL_len : ∀ (ks : List Kd) (fs : List Str), (vsL ks fs).length ≤ fs.length + sizeL ks
  | [], _ => Nat.le_refl _
  | k :: r, fs => by
    have h1 := vs_len k fs
    have h2 := vsL_len r (k.vs fs)
    show (vsL r (k.vs fs)).length ≤ fs.length + (k.size + sizeL r)
    omega
theorem sizeL_leaf : ∀ {ks : List Kd}, (∀ q ∈ ks, (∃ x, q = Kd.var x) ∨ ∃ x, q = Kd.con x) → sizeL ks = ks.length
  | [], _ => rfl
  | k :: r, h => by
    have h2 := sizeL_leaf (ks := r) fun q hq => h q (List.mem_cons_of_mem _ hq)
    have h1 : k.size = 1 := by
      rcases h k List.mem_cons_self with ⟨x, rfl⟩ | ⟨x, rfl⟩ <;> rfl
    show k.size + sizeL r = r.length + 1
    omega
def flag (x : Str) : Key × V := (.inr x, .bl true)
theorem flag_put (fs : List Str) (x : Str) : putK (fs.map flag) (.inr x) (.bl true) = (addV fs x).map flag := by
  have e : ((fs.map flag).any fun kv => decide (kv.1 = (.inr x : Key))) = decide (x ∈ fs) := by
    induction fs with
    | nil => rfl
    | cons y r ih =>
      rw [List.map_cons, List.any_cons, ih]
      by_cases h : y = x
      · subst h
        simp [flag]
      · have h2 : ¬ x = y := fun z => h z.symm
        have h3 : ¬ (flag y).1 = (.inr x : Key) := fun z => h (Sum.inr.inj z)
        simp [h2, h3]
  unfold putK addV
  rw [e]
  by_cases h : x ∈ fs
  · rw [if_pos (decide_eq_true h), if_pos h, List.map_map]
    apply List.map_congr_left
    intro y _
    show (if (flag y).1 = (.inr x : Key) then ((flag y).1, V.bl true) else flag y) = flag y
    by_cases h3 : (flag y).1 = (.inr x : Key)
    · rw [if_pos h3]; rfl
    · rw [if_neg h3]
  · rw [if_neg (by rw [decide_eq_false h]; decide), if_neg h, List.map_append]
    rfl
theorem flag_keys (fs : List Str) : ((fs.map flag).map fun kv => kV kv.1) = fs.map V.str := by
  rw [List.map_map]
  rfl
section
variable {P : Program} {w : World} {K : PySem.W.Frag} {mg : Str → Option Value} {base : Heap}
theorem ok_variables {f : Addr} {fd : FuncData} (F : Fun K "variables_of" "variables_of" s_variables_of f fd) (B : Bl mg) (D_leaves_of : KnR P w K mg base 1 "leaves_of" (spStar 0 (spLeaves K))) : FnR P w K mg base CX0 2 f (spStar 0 (spVarsT K)) := by
  refine fn_starK (ps := []) F sc_variables_of (fun _ _ _ _ _ _ us rest hl => ?_) (fun cdv A outer s H vs Q E hr h => ?_)
  · cases us with
    | nil => cases rest <;> rfl
    | cons a r => cases hl
  obtain ⟨l, xs, ks, rfl, h1, h2, h4, k⟩ := h
  have hr_leaves_of := hr
  have hu := hu_of hr
  have lx : xs.length ≤ 100000 := by
    have := sizeL_len ks
    rw [Paired.length h2]
    omega
  have lL := leavesL_size ks
  refine ⟨_, (pss_one (ps_ret (pe_callTy (call_tuple_dK rfl) (by rfl) B.tuple (by decide +kernel) (pa_cons (pe_dc (own := [("leaf", 1)]) rfl sc_variables_of.nd (pi_list (pe_ks1 D_leaves_of hr_leaves_of (pv 0))) (blkOk_by (N := N_variables_of) (sc := (defScope s_variables_of)) (own := [("leaf", 1)]) (by decide +kernel)) (fun _ _ _ _ _ => (pg_name (i := 1) sc_variables_of.nd rfl (Or.inl rfl))) (fun _ _ _ _ _ => (pts_one (pt_cmpR op_eq (pe_ix (show IxR _ (rIxT K) from ix_tup) (pv 1) pe_int (fun _ _ => rfl)) pe_str (nomark _)))) (fun _ _ _ _ _ => (pe_ix (show IxR _ (rIxT K) from ix_tup) (pv 1) pe_int (fun _ _ => rfl))) (fun _ _ _ _ _ => pe_bl)) pa_nil)))), ?_⟩
  refine ⟨_, rfl, l, xs, rfl, .inl h1, [], xs, rfl, rfl, Nat.le_of_lt (size_line (by omega)), fun q hq => ⟨q, xs, ks, rfl, SqT.of upd_same, KdsAt.tups (same_tups (same_new hq)) h2, h4, fun H1 p ls s1 hp g1 g2 => ?_⟩⟩
  have S1 := (same_new hq).trans s1
  refine ⟨p, rfl, ⟨_, SqL.of g1⟩, fun d hd => dc_it walk_list (fun i H' => Same H1 H' ∧ H' d = some (.dK ((vsL ((leavesL ks).take i) []).map flag))) ⟨same_new hd, upd_same⟩ (fun i H' _ h => SqL.of (h.1 _ _ g1)) ?_ ?_⟩
  · rintro i y H2 H3 hi ⟨s2, gd2⟩ ⟨rfl, ey⟩
    obtain ⟨ky, hky, hy⟩ := paired_get g2 ey
    have tk : vsL ((leavesL ks).take (i + 1)) [] = ky.vs (vsL ((leavesL ks).take i) []) := by
      rw [List.take_add_one, hky, vsL_append]
      rfl
    have hy2 := KdAt.tups (same_tups s2) hy
    refine ⟨rfl, ?_⟩
    rcases leafL_cases (List.mem_of_getElem? hky) with ⟨x, rfl⟩ | ⟨x, rfl⟩
    · obtain ⟨a, rfl, ha⟩ := hy2
      refine ⟨_, rfl, _, _, _, _, rfl, rfl, SqT.of ha, rfl, rfl, _, rfl, iT tg_vv ?_⟩
      have ln : (vsL ((leavesL ks).take i) []).length + 1 ≤ 1000000 := by
        have h1 := vsL_len ((leavesL ks).take i) []
        have h2 := sizeL_leaf (ks := (leavesL ks).take i) fun q hq => leafL_cases (List.mem_of_mem_take hq)
        rw [List.length_take] at h2
        simp only [List.length_nil] at h1
        omega
      refine ⟨_, rfl, _, _, _, _, rfl, rfl, SqT.of ha, rfl, _, (.inr x), rfl, gd2, size_line (by rw [List.length_map]; omega), fun b o z => ?_, ?_⟩
      · rw [upd_ne (ne_of_none z hd)]
        exact s2 _ _ z
      · rw [upd_same, flag_put, tk]
        rfl
    · obtain ⟨a, rfl, ha⟩ := hy2
      refine ⟨_, rfl, _, _, _, _, rfl, rfl, SqT.of ha, rfl, rfl, _, rfl, iF tg_cv ?_⟩
      exact ⟨s2, by rw [tk]; exact gd2⟩
  · rintro H' ⟨s2, gd2⟩
    have e : (leavesL ks).take ls.length = leavesL ks := by rw [Paired.length g2, List.take_length]
    rw [e, vsL_leavesL] at gd2
    refine ⟨d, _, rfl, gd2, fun q2 hq2 => ?_⟩
    rw [flag_keys]
    exact k _ _ ((S1.trans s2).trans (same_new hq2)) ((S1.trans s2).free hq2) upd_same
end
end L3

/-! list(d.values()); e that is never reached -/
namespace L3
open PySem PySem.Spec PyProof.Rows L2
/-- an expression that is never reached -/
def tNo : TE := fun _ _ _ => False
theorem pe_no {X : Cx} {e : Expr} : PE X e tNo := ⟨fun _ _ _ _ _ _ h => h.elim⟩
def iNo : TI := fun _ _ _ => False
theorem pi_no {X : Cx} {tg e : Expr} : PI X tg e iNo := ⟨fun _ _ _ _ _ _ h => h.elim⟩
theorem kv_snd {kvs : List (Key × V)} {vs : List (Key × Value)} (h : KV kvs vs) : Vals (kvs.map (·.2)) (vs.map (·.2)) := by
  unfold KV at h
  induction h with
  | nil => exact .nil
  | cons h t ih => exact .cons h.2 ih
def tListVals (te : TE) : TE := fun σ H Q => te σ H fun x H1 => ∃ (d : Addr) (kvs : List (Key × V)), x = .ref d ∧ H1 d = some (.dK kvs) ∧ ∀ l, H1 l = none → Q (.ref l) (upd H1 l (.lst (kvs.map (·.2))))
section
variable {X : Cx} {e : Expr} {te : TE} {p apos cpos pos : Pos}
theorem pe_listVals (hc : X.calm = true) (he : PE X e te) (hg : Gl X "list") (hm : X.mg "list" = none) (hv : bootBuiltins "list" = some (.type "list")) (hbase : attributeBase e "values" X.env (eval e X.env) = eval e X.env := by rfl) (hline : (apos.endLine == cpos.line) = true := by rfl)
    (hs : starEach [.Call (.Attribute e "values" apos) [] [] cpos] X.env = (false, eval (.Call (.Attribute e "values" apos) [] [] cpos) X.env) :: starEach [] X.env := by rfl) :
    PE X (.Call (.Name "list" p) [.Call (.Attribute e "values" apos) [] [] cpos] [] pos) (tListVals te) := by
  refine ⟨fun pins s σ H Q I hq => ?_⟩
  refine wpAny_Call_Name_kw (ld_blt I hg hm hv ?_)
  refine PyProof.Rows.callWith_type1 ?_ hs rfl
  rw [hs]
  show wpAny _ _ (spliced ((false, eval (.Call (.Attribute e "values" apos) [] [] cpos) X.env) :: backTo pos (starEach [] X.env))) _ _ s
  refine Calls.spliced_cons ?_
  refine wpAny_Call_method (T := "dict") (id := "dict.values") hbase rfl hline F.plainAttrs_dict F.slot_dict_values F.type_dict_values (thn (he.run pins s σ H _ I hq) fun u s1 ⟨x, H1, I1, rx, d, kvs, ex, hd, q⟩ => ?_)
  subst ex
  obtain rfl : u = Value.ref d := rx
  obtain ⟨hz, hs0, vs, kv, hdo⟩ := I1.hok d _ hd
  obtain ⟨ep, hat⟩ := hdo.dictAt
  have lk : kvs.length = vs.length := Paired.length kv
  have I2 : Inv X pins σ H1 { s1 with heap := s1.heap.push { cls := .type "dict_values", data := .fields #[.ref d] } } := I1.kept (t' := s1.toks) fun b ob q => Heap.get?_push_of_some _ q
  refine ⟨hdo.typeIs, hdo.mapOf.noDict, ?_⟩
  show wpAny _ _ (callWith cpos (.builtin "dict.values") [.ref d] [] []) _ X.xe s1
  refine method_meetsIn F.slot_dict_values F.entry_dict_values rfl (PySem.evalArgs_none ⟨rfl, hdo.typeIs, F.args_dict_values_1 _, _, meets_dict_values (mixKind X.prog X.w) d hs0, ⟨vs, hdo⟩, ?_⟩)
  refine Calls.spliced_nil ?_
  refine PySem.W.kdl_call (PySem.W.kdl_values (knd := mixKind X.prog X.w) (kvs := vs) (ep := ep)) (I1.ok.hd hc) ⟨⟨_, Heap.get?_push_size _ rfl, rfl, rfl⟩, hat.push _⟩ (by omega) fun h' tk acc c hk hS hacc => ?_
  have ea : acc.toList = vs.map (·.2) := by
    refine PySem.W.kdl_vals_eq acc.toList (by simpa using hacc.1) fun j v hv => hacc.2 j v ?_
    rw [← Array.getElem?_toList]
    exact hv
  have J := I2.laid (a := (s1.heap.push { cls := .type "dict_values", data := .fields #[.ref d] }).objs.size) (o := .lst (kvs.map (·.2))) (h' := h') (t' := tk) hk (Nat.le_refl _) ⟨by rw [List.length_map]; exact hz, acc.toList, c, by rw [ea]; exact kv_snd kv, by rw [Array.toArray_toList]; exact hS⟩
  exact ⟨.ref _, _, J, rfl, q _ (I2.hok.fresh (Nat.le_refl _))⟩
end
end L3

/-! {**a, **b} of two empty dicts -/
namespace L3
open PySem PySem.Spec PyProof.Rows L2
section
variable {prog : Program} {w : World} {A : Around} {E : Value → Shared → Prop} {s : Shared}
theorem merge_empty {d a : Addr} {od oa : Obj} {ep eq : Nat} {Q : Unit → Shared → Prop} (hd : s.heap.get? d = some od) (dd : od.data = .dict #[] ep) (ha : s.heap.get? a = some oa) (ca : oa.cls = .type "dict") (da : oa.data = .dict #[] eq) (hm : (a == sysModules) = false) (h : Q () s) :
    wpAny (model prog w) A (mergeMapping d (.ref a) false) Q E s := by
  have tA : s.TypeIs (.ref a) "dict" := ⟨oa, ha, ca⟩
  unfold mergeMapping
  refine wpAny_bind (wpAny_isInstance (T := "dict") (b := true) tA (by rw [isSubtype_type]; kernel_rfl) ?_)
  simp only [if_true]
  refine wpAny_bind (wpAny_specialOf tA F.slot_dict_iter.lookup ?_)
  refine wpAny_bind (wpAny_pure ?_)
  have e : (some (Value.builtin "dict.__iter__") == some (Value.builtin "dict.__iter__")) = true := by decide
  rw [e]
  dsimp only
  rw [if_neg (by rw [hm]; exact Bool.false_ne_true)]
  refine wpAny_bind (wpAny_dictEntries hd dd ?_)
  rw [if_pos (by rfl)]
  refine wpAny_bind (wpAny_dictEntries ha da ?_)
  rw [show (∀ f : DictEntry → PUnit → Sem (ForInStep PUnit), forIn (#[] : Array DictEntry) PUnit.unit f = pure PUnit.unit) from fun f => by simp]
  refine wpAny_bind (wpAny_pure ?_)
  refine wpAny_bind (wpAny_dictEntries ha da ?_)
  refine wpAny_bind (wpAny_dictEpoch ha da ?_)
  simp only [List.size_toArray, List.length_nil, List.range_zero, List.forIn_nil]
  exact wpAny_bind (wpAny_pure (wpAny_pure h))
end
def mergeX (d : Addr) (m : Value) : Sem Unit :=
  (((holding [.ref d, m] (mergeMapping d m false)).onRaise fun x => do let _ ← holding [.ref d, m, x] (runValue (.builtin "proto.let_go" {}))).tryCatch fun e => do
        if ← isInstance e (.type "AttributeError") then
          rule "dict.display.not-a-mapping"; raiseError "TypeError" s!"'{← typeNameOf m}' object is not a mapping"
        throw e).onRaise fun x => do let _ ← holding [.ref d, x] (runValue (.builtin "proto.let_go" {}))
theorem display_two (v1 v2 : Sem Value) : dictDisplay [(none, v1), (none, v2)] = (do
    let d ← alloc { cls := .type "dict", data := .dict #[] }
    let m ← holding [.ref d] v1
    mergeX d m
    let m2 ← holding [.ref d] v2
    mergeX d m2
    pure (.ref d)) := by
  unfold dictDisplay
  simp only [List.forIn_cons, List.forIn_nil, List.isEmpty_nil, if_true, pure_bind, bind_assoc]
  rfl
theorem wpAny_mergeX {prog : Program} {w : World} {A : Around} {E : Value → Shared → Prop} {s : Shared} {d : Addr} {m : Value} {Q : Unit → Shared → Prop} (h : ∀ E', wpAny (model prog w) A (mergeMapping d m false) Q E' s) : wpAny (model prog w) A (mergeX d m) Q E s := by
  unfold mergeX
  refine wpAny_onRaise (wpAny_mono (E := fun _ _ => False) ?_ (fun _ _ q => q) fun _ _ z => z.elim)
  refine wpAny_tryCatch (wpAny_mono (E := fun _ _ => False) ?_ (fun _ _ q => q) fun _ _ z => z.elim)
  exact wpAny_onRaise (wpAny_mono (E := fun _ _ => False) (wpAny_holding (h _)) (fun _ _ q => q) fun _ _ z => z.elim)
theorem dk_nil {P : Program} {w : World} {H : Hp} {h : Heap} {a : Addr} (ok : HOk P w H h) (e : H a = some (.dK [])) : (a == sysModules) = false ∧ ∃ o ep, h.get? a = some o ∧ o.cls = .type "dict" ∧ o.data = .dict #[] ep := by
  obtain ⟨_, hd, vs, kv, o, es, ep, ho, hx, hdat, _, pr, _⟩ := dk_of ok e
  cases kv
  have hz := pr.length
  have : es = #[] := by
    cases es with
    | mk l =>
      cases l with
      | nil => rfl
      | cons x y => simp at hz
  subst this
  exact ⟨hd, o, ep, ho, hx.1, hdat⟩
def tDm (t1 t2 : TE) : TE := fun σ H Q => ∀ p, H p = none → t1 σ (upd H p (.dK [])) fun x H1 => ∃ a, x = .ref a ∧ H1 a = some (.dK []) ∧ H1 p = some (.dK []) ∧ t2 σ H1 fun y H2 => ∃ b, y = .ref b ∧ H2 b = some (.dK []) ∧ H2 p = some (.dK []) ∧ Q (.ref p) H2
theorem pe_dm {X : Cx} {e1 e2 : Expr} {t1 t2 : TE} {pos : Pos} (h1 : PE X e1 t1) (h2 : PE X e2 t2) : PE X (.Dict [none, none] [e1, e2] pos) (tDm t1 t2) := by
  refine ⟨fun pins s σ H Q I q => ?_⟩
  have hn := I.hok.fresh (Nat.le_refl s.heap.objs.size)
  have I1 := I.laid (a := s.heap.objs.size) (o := .dK []) (h' := s.heap.push { cls := .type "dict", data := .dict #[] }) (t' := s.toks) (fun _ _ q => Heap.get?_push_of_some _ q) (Nat.le_refl _) (dk_empty s.heap I.big)
  rw [arm_eval_Dict]
  refine wpAny_bind (wpAny_standAt ?_)
  show wpAny _ _ (dictDisplay [(none, do let x ← eval e1 X.env; standAt pos; pure x), (none, do let x ← eval e2 X.env; standAt pos; pure x)]) _ _ _
  rw [display_two]
  refine wpAny_bind (wpAny_alloc ?_)
  refine wpAny_bind (wpAny_holding (wpAny_bind (thn (h1.run pins _ σ _ _ I1 (q _ hn)) fun u s2 ⟨x, H1, I2, rx, a, ex, ga, gp, q1⟩ => wpAny_bind (wpAny_standAt (wpAny_pure ?_)))))
  subst ex
  obtain rfl : u = Value.ref a := rx
  obtain ⟨ma, oa, epa, ha, ca, da⟩ := dk_nil I2.hok ga
  obtain ⟨_, op, epp, hp, _, dp⟩ := dk_nil I2.hok gp
  refine wpAny_bind (wpAny_mergeX fun E' => merge_empty hp dp ha ca da ma ?_)
  refine wpAny_bind (wpAny_holding (wpAny_bind (thn (h2.run pins _ σ _ _ I2 q1) fun u s3 ⟨y, H2, I3, ry, b, ey, gb, gp2, q2⟩ => wpAny_bind (wpAny_standAt (wpAny_pure ?_)))))
  subst ey
  obtain rfl : u = Value.ref b := ry
  obtain ⟨mb, ob, epb, hb, cb, db⟩ := dk_nil I3.hok gb
  obtain ⟨_, op2, epp2, hp2, _, dp2⟩ := dk_nil I3.hok gp2
  refine wpAny_bind (wpAny_mergeX fun E' => merge_empty hp2 dp2 hb cb db mb ?_)
  exact wpAny_pure ⟨.ref _, H2, I3, rfl, q2⟩
end L3

/-! f(x, ..), f a local name that holds a def -/
namespace L3
open PySem PySem.Spec PyProof.Rows L2 StX
def tCallD (P : Program) (w : World) (K : PySem.W.Frag) (mg : Str → Option Value) (base : Heap) (k i : Nat) (ta : TA) : TE := fun σ H Q => ∃ f sp, σ[i]? = some (some (.ref f)) ∧ Does P w K mg base k f sp ∧ ta σ H fun vs H1 => sp vs H1 Q E0
theorem pe_callD {X : Cx} {k i : Nat} {x : Str} {p pos : Pos} {e : Expr} {es : List Expr} {ta : TA} (hr : Room k X.A) (hN : X.N[i]? = some x) (hv : Vis X.env.scope x) (ha : PA X (e :: es) ta)
    (hdb : (x == ("__debug__" : Str)) = false := by decide) (hcd : (x == ("__classdict__" : Str)) = false := by decide)
    (he : starEach (e :: es) X.env = (false, eval e X.env) :: starEach es X.env := by rfl) (hpl : (backTo pos (starEach es X.env)).any (·.1) = false := by rfl) :
    PE X (.Call (.Name x p) (e :: es) [] pos) (tCallD X.prog X.w X.K X.mg X.base k i ta) := by
  refine ⟨fun pins s σ H Q I h => ?_⟩
  obtain ⟨f, sp, hs, D, ht⟩ := h
  refine wpAny_Call_Name_kw (thn ((pe_var (pos := p) hN hv hdb hcd).run pins s σ H (fun v H1 => v = .ref f ∧ H1 = H) I ⟨.ref f, hs, rfl, rfl⟩) fun u s1 ⟨v, H1, I1, r1, q1⟩ => ?_)
  obtain ⟨rfl, rfl⟩ := q1
  cases r1
  refine PySem.W.callWith_K (h₀ := X.base) I.ok.mod.kin D.kp (thn (ha.run pos pins s1 σ _ _ I1 ht) fun us s2 ⟨vs, H2, I2, r2, q2⟩ => ⟨I2.kIn, ?_⟩) he hpl
  exact wpAny_call (run_fnR D.fn hr pass0 I2 r2 q2)
/-- over a list or a tuple -/
def iAny (K : PySem.W.Frag) (tl : TE) : TI := fun σ H R => tl σ H fun x H1 => ∃ a, x = .ref a ∧ ((∃ xs, SqL K H1 a xs) ∧ R (Itl K a) H1 ∨ (∃ xs, SqT K H1 a xs) ∧ R (Itt K a) H1)
theorem pi_any {X : Cx} {tg l : Expr} {tl : TE} (hl : PE X l tl) : PI X tg l (iAny X.K tl) := by
  refine ⟨fun pins s σ H R I h => ?_⟩
  refine thn (hl.run pins s σ H _ I h) fun v s1 ⟨x, H1, I1, r1, q1⟩ => ?_
  obtain ⟨a, e, q⟩ := q1
  subst e
  cases r1
  rcases q with ⟨⟨xs, hq⟩, q⟩ | ⟨⟨xs, hq⟩, q⟩
  · obtain ⟨its, rv, p, hz⟩ := I1.list hq
    refine wpAny_pyIter_list p.isList ?_
    refine ⟨s1.heap.objs.size, [s1.heap.objs.size], _, _, H1, rfl, I1.kept (t' := s1.toks) fun b o e => Heap.get?_push_of_some _ e, turn_list a _, ⟨_, Heap.get?_push_size _ rfl, rfl, rfl⟩, fun b hb => ?_, q⟩
    have e : b = s1.heap.objs.size := by simpa using hb
    subst e
    exact I1.fpOk (Nat.le_refl _) (I1.hok.fresh (Nat.le_refl _))
  · obtain ⟨its, rv, p, hz⟩ := I1.tuple hq
    refine wpAny_pyIter_tuple (show s1.heap.IsTuple a its.toArray from p) ?_
    refine ⟨s1.heap.objs.size, [s1.heap.objs.size], _, _, H1, rfl, I1.kept (t' := s1.toks) fun b o e => Heap.get?_push_of_some _ e, turn_tuple a _, ⟨_, Heap.get?_push_size _ rfl, rfl, rfl⟩, fun b hb => ?_, q⟩
    have e : b = s1.heap.objs.size := by simpa using hb
    subst e
    exact I1.fpOk (Nat.le_refl _) (I1.hok.fresh (Nat.le_refl _))
def rLenK (K : PySem.W.Frag) : List V → Hp → VK → Prop := fun xs H Q => ∃ x n, xs = [x] ∧ LenV K x H n ∧ Q (.int n) H
end L3

/-! defs that are called where nothing is being shown: they may ask repr -/
namespace L3
open PySem PySem.Spec PyProof.Rows L2
def FnG (P : Program) (w : World) (K : PySem.W.Frag) (mg : Str → Option Value) (base : Heap) (k : Nat) (f : Addr) (sp : Sp) : Prop :=
  ∀ (A : Around) (outer : List Env) (s : Shared) (H : Hp) (us : List Value) (vs : List V) (Q : VK), Room k A → A.guards = some [] → Env0 P w K mg base A outer s H → Vals vs us → sp vs H Q E0 →
    codeAny (model P w) A (.call (.ref f) ⟨us, []⟩) (CR CX0 outer P w H s Q E0) s
structure KnG (P : Program) (w : World) (K : PySem.W.Frag) (mg : Str → Option Value) (base : Heap) (k : Nat) (x : Str) (sp : Sp) : Prop where
  ex : ∃ (f : Addr), FnG P w K mg base k f sp ∧ mg x = some (.ref f) ∧ PySem.W.keepIn K (.ref f) = true
section
variable {X : Cx} {x : Str} {k : Nat} {sp : Sp} {e : Expr} {es : List Expr} {t : TA} {p pos : Pos}
def tCallG (sp : Sp) (t : TA) : TE := fun σ H Q => t σ H fun vs H1 => sp vs H1 Q E0
theorem pe_kg (D : KnG X.prog X.w X.K X.mg X.base k x sp) (hr : Room k X.A) (h0 : X.A.guards = some []) (ha : PA X (e :: es) t) (hg : Gl X x := by rfl) (hdb : (x == ("__debug__" : Str)) = false := by decide)
    (he : starEach (e :: es) X.env = (false, eval e X.env) :: starEach es X.env := by rfl) (hpl : (backTo pos (starEach es X.env)).any (·.1) = false := by rfl) :
    PE X (.Call (.Name x p) (e :: es) [] pos) (tCallG sp t) := by
  obtain ⟨f, F, hm, hk⟩ := D.ex
  refine ⟨fun pins s σ H Q I h => ?_⟩
  refine wpAny_Call_Name_kw (ld_glob I hg hm ?_ hdb)
  refine PySem.W.callWith_K (h₀ := X.base) I.ok.mod.kin hk (thn (ha.run pos pins s σ H _ I h) fun us s1 ⟨vs, H1, I1, r, q⟩ => ⟨I1.kIn, ?_⟩) he hpl
  refine wpAny_call (codeAny_mono (F X.A X.stack s1 H1 us vs Q hr h0 I1.env0 r q) fun r' s' hq => ?_)
  cases r' with
  | error e => exact pass0 pins σ H1 s1 e s' I1 hq
  | ok fl =>
    cases fl with
    | ret u => exact I1.after hq
    | next => exact hq.elim
    | brk => exact hq.elim
    | cont => exact hq.elim
end
section
variable {P : Program} {w : World} {K : PySem.W.Frag} {mg : Str → Option Value} {base : Heap}
theorem fnG_of {qual : Str} {st : Stmt} {f : Addr} {fd : FuncData} {N ps : List Str} {k : Nat} {sp : Sp} (F : Fun K qual qual st f fd) (S : FnScope N ps (defScope st)) (len : ∀ vs H Q E, sp vs H Q E → vs.length = ps.length) (hb : Binds K fd ps [])
    (hbody : ∀ (cdv : Value) (A : Around) (outer : List Env) (s : Shared) (H : Hp) (vs : List V) (Q : VK), Room k (A.deeper (envOfC qual (defScope st) s.heap.objs.size f cdv)) → A.guards = some [] → sp vs H Q E0 →
      ∃ t, PSs (cxOf CX0 P w K mg base N qual (defScope st) f cdv A outer s H E0).nox (defBody st) t ∧ t { nx := fun _ H' => Q .non H', rt := Q } (start N vs) H) : FnG P w K mg base (k + 1) f sp := by
  obtain ⟨oc, od, kV, doc, pm, an, cdv, ct, osl, rfl, lk, hcd⟩ := F.ex
  intro A outer s H us vs Q hr h0 e0 rv hsp
  have inK : K.In s.heap := e0.mod.kin.keeps fun b o z => (e0.bs b o z).1
  have noL : s.heap.NoLimit := e0.mod.nolimit.keeps fun b o z => (e0.bs b o z).1
  have hl := len _ _ _ _ hsp
  have kinds : ∀ y ∈ (ps.zip us : List (Str × Value)), (defScope st).names.lookup y.1 = some .local ∨ ((defScope st).names.lookup y.1 = some .cell ∧ ((cellsFrom (s.heap.objs.size + 1) (defScope st).names []).lookup y.1).isSome = true) := by
    rintro ⟨n, z⟩ hy
    rcases S.par n (List.of_mem_zip hy).1 with q | q
    · exact Or.inl q
    · exact Or.inr ⟨q, PySem.W.cellsFrom_some _ _ _ (Or.inl q)⟩
  have bd : BindsTo s (PySem.W.fnOf qual qual (defArgs st) (defBody st) (defScope st) .none kV doc pm an cdv ct) ⟨us, []⟩ (ps.zip (us ++ [])) := hb s us inK (by rw [List.append_nil, ← rv.length]; exact hl)
  rw [List.append_nil] at bd
  refine codeAny_call_function hr.depth (inK _ _ lk) rfl S.co S.gen rfl (PySem.W.codeRec_of inK hcd) (bd _ _ _ _ ?_)
  refine wpAny_newFunctionEnv_cells S.kind kinds fun env he s1 xx => ?_
  subst he
  refine ⟨noL.keeps xx.toInCall.keep, codeAny_func ?_⟩
  obtain ⟨t, ht, hq⟩ := hbody cdv A outer s H vs Q (hr.deeper _) h0 hsp
  have J : Inv (cxOf CX0 P w K mg base N qual (defScope st) f cdv A outer s H E0) [] (start N vs) H s1 := inv_start S hr.hd e0 hl rv xx
  refine wpAny_mono ((PSs.nox ht).run [] s1 (start N vs) H _ J hq) (fun fl s' hs => ?_) (fun e s' hs => hs)
  cases fl with
  | next =>
    obtain ⟨σ', H', J', q⟩ := hs
    exact ⟨V.non, H', J'.os, J'.bare, J'.base, J'.hok, rfl, q⟩
  | ret z =>
    obtain ⟨v', σ', H', J', rz, q⟩ := hs
    exact ⟨v', H', J'.os, J'.bare, J'.base, J'.hok, rz, q⟩
  | brk =>
    obtain ⟨_, _, _, q⟩ := hs
    exact q.elim
  | cont =>
    obtain ⟨_, _, _, q⟩ := hs
    exact q.elim
theorem grd_deep {A : Around} {env : Env} (h : A.guards = some []) : (A.deeper env).guards = some [] := h
end
end L3

namespace L3
open PySem L2 StX RT
/-- no variable stands in it -/
def Kd.cons : Kd → Prop
  | .var _ => False
  | .con _ => True
  | .app a b => a.cons ∧ b.cons
structure Ms (mg : Str → Option Value) : Prop where
  sorted : mg "sorted" = none
section
variable {P : Program} {w : World} {K : PySem.W.Frag} {mg : Str → Option Value} {base : Heap}
abbrev s_kinds_of : Stmt := topS 29
abbrev N_kinds_of : List Str := ["needs", "need", "kind"]
theorem sc_kinds_of : FnScope N_kinds_of ["needs"] (defScope s_kinds_of) := ⟨rfl, rfl, rfl, by decide +kernel, rfl, by decide +kernel, by decide +kernel⟩
/-- of no needs, a list or a tuple -/
def spKinds0 (K : PySem.W.Frag) : Sp := fun vs H Q _ => ∃ (a : Addr), vs = [.ref a] ∧ (SqT K H a [] ∨ SqL K H a []) ∧ ∀ l, H l = none → Q (.ref l) (upd H l (.lst []))
theorem ok_kinds {f : Addr} {fd : FuncData} (F : Fun K "kinds_of" "kinds_of" s_kinds_of f fd) : FnOk P w K mg base CX0 1 f fd ["needs"] (spKinds0 K) := by
  refine F.ok sc_kinds_of (fun vs H Q E h => ?_) (fun cdv A outer s H vs Q E hr h => ?_)
  · obtain ⟨a, rfl, _⟩ := h
    rfl
  · obtain ⟨a, rfl, ga, k⟩ := h
    refine ⟨_, (pss_one (ps_ret (pe_lc2 (own := [("need", 1), ("kind", 2)]) (vs1 := [2]) rfl sc_kinds_of.nd (pi_any (pv 0)) (blkOk_by (N := N_kinds_of) (sc := (defScope s_kinds_of)) (own := [("need", 1), ("kind", 2)]) (by decide +kernel)) (by decide) (fun _ _ _ _ _ => (pg_name (i := 1) sc_kinds_of.nd rfl (Or.inl rfl))) (fun _ _ _ _ _ => pts_nil) (fun _ _ _ _ _ => pi_no) (fun _ _ _ _ _ => (pg_name (i := 2) sc_kinds_of.nd rfl (Or.inl rfl))) (fun _ _ _ _ _ => pts_nil) (fun _ _ _ _ _ => pe_no)))), ?_⟩
    rcases ga with ga | ga
    · refine ⟨_, rfl, a, rfl, .inr ⟨⟨_, ga⟩, fun D hD => ⟨fun i _ H' => i = 0 ∧ H' = upd H D (.lst []), ⟨0, rfl, rfl⟩, ?_⟩⟩⟩
      rintro i m H' ⟨rfl, rfl⟩
      exact .inl ⟨⟨[], SqT.same' (same_new hD) ga, Nat.le_refl 0⟩, k D hD⟩
    · refine ⟨_, rfl, a, rfl, .inl ⟨⟨_, ga⟩, fun D hD => ⟨fun i _ H' => i = 0 ∧ H' = upd H D (.lst []), ⟨0, rfl, rfl⟩, ?_⟩⟩⟩
      rintro i m H' ⟨rfl, rfl⟩
      exact .inl ⟨⟨[], Same.seq (same_new hD) ga, Nat.le_refl 0⟩, k D hD⟩
abbrev s_variables_in : Stmt := topS 30
abbrev N_variables_in : List Str := ["needs", "kinds"]
theorem sc_variables_in : FnScope N_variables_in ["needs"] (defScope s_variables_in) := ⟨rfl, rfl, rfl, by decide +kernel, rfl, by decide +kernel, by decide +kernel⟩
def spVarsIn : Sp := fun vs H Q _ => ∃ (a : Addr), vs = [.ref a] ∧ H a = some (.lst []) ∧ ∀ H' q, Same H H' → H' q = some (.tup []) → Q (.ref q) H'
theorem ok_varsin {f : Addr} {fd : FuncData} (F : Fun K "variables_in" "variables_in" s_variables_in f fd) (D_kinds_of : Kn P w K mg base 1 "kinds_of" ["needs"] (spKinds0 K)) (D_variables_of : KnR P w K mg base 2 "variables_of" (spStar 0 (spVarsT K))) : FnOk P w K mg base CX0 3 f fd ["needs"] spVarsIn := by
  refine F.ok sc_variables_in (fun vs H Q E h => ?_) (fun cdv A outer s H vs Q E hr h => ?_)
  · obtain ⟨a, rfl, _⟩ := h
    rfl
  · obtain ⟨a, rfl, ga, k⟩ := h
    have hr_kinds_of : Room 1 _ := hr.mono (by decide)
    have hr_variables_of : Room 2 _ := hr
    refine ⟨_, (pss_cons (ps_set (i := 1) sc_variables_in.nd rfl (Or.inl rfl) (pe_kn D_kinds_of hr_kinds_of (pa_cons (pv 0) pa_nil)))
  (pss_one (ps_ret (pe_ks1 D_variables_of hr_variables_of (pv 1))))), ?_⟩
    refine ⟨_, rfl, a, rfl, .inr (SqL.of ga), fun l hl => ?_⟩
    have s1 := same_new (o := .lst []) hl
    refine ⟨_, rfl, l, [], rfl, .inr (SqL.of upd_same), [], [], rfl, rfl, Nat.zero_le _, fun q hq => ⟨q, [], [], rfl, SqT.of upd_same, .nil, (by decide), fun H2 r s2 _ gr => ?_⟩⟩
    exact k H2 r (s1.trans ((same_new hq).trans s2)) gr
abbrev s_told_once : Stmt := topS 35
abbrev N_told_once : List Str := ["needs", "need"]
theorem sc_told_once : FnScope N_told_once ["needs"] (defScope s_told_once) := ⟨rfl, rfl, rfl, by decide +kernel, rfl, by decide +kernel, by decide +kernel⟩
def spOnce (K : PySem.W.Frag) : Sp := fun vs H Q _ => ∃ (a : Addr), vs = [.ref a] ∧ SqT K H a [] ∧ ∀ H' l, Same H H' → H' l = some (.lst []) → Q (.ref l) H'
theorem ok_once {f : Addr} {fd : FuncData} (F : Fun K "told_once" "told_once" s_told_once f fd) (B : Bl mg) : FnOk P w K mg base CX0 1 f fd ["needs"] (spOnce K) := by
  refine F.ok sc_told_once (fun vs H Q E h => ?_) (fun cdv A outer s H vs Q E hr h => ?_)
  · obtain ⟨a, rfl, _⟩ := h
    rfl
  · obtain ⟨a, rfl, ga, k⟩ := h
    refine ⟨_, (pss_one (ps_ret (pe_listVals rfl (pe_dc (own := [("need", 1)]) rfl sc_told_once.nd (pi_tup (pv 0)) (blkOk_by (N := N_told_once) (sc := (defScope s_told_once)) (own := [("need", 1)]) (by decide +kernel)) (fun _ _ _ _ _ => (pg_name (i := 1) sc_told_once.nd rfl (Or.inl rfl))) (fun _ _ _ _ _ => pts_nil) (fun _ _ _ _ _ => pe_no) (fun _ _ _ _ _ => (pv 1))) (by rfl) B.list (by decide +kernel)))), ?_⟩
    refine ⟨_, rfl, a, rfl, ⟨_, ga⟩, fun d hd => dc_it walk_tup (fun i H' => Same H H' ∧ H' d = some (.dK [])) ⟨same_new hd, upd_same⟩ (fun i H' _ h => SqT.same' h.1 ga) ?_ ?_⟩
    · rintro i y H2 H3 hi
      exact absurd hi (Nat.not_lt_zero _)
    · rintro H1 ⟨s1, g1⟩
      exact ⟨d, [], rfl, g1, fun l hl => k _ l (s1.trans (same_new hl)) upd_same⟩
abbrev s_same_by_names : Stmt := topS 36
abbrev N_same_by_names : List Str := ["needs", "others", "names", "by", "keys", "name", "need"]
theorem sc_same_by_names : FnScope N_same_by_names ["needs", "others", "names"] (defScope s_same_by_names) := ⟨rfl, rfl, rfl, by decide +kernel, rfl, by decide +kernel, by decide +kernel⟩
def spByNames : Sp := fun vs H Q _ => ∃ (a b d : Addr), vs = [.ref a, .ref b, .ref d] ∧ H a = some (.lst []) ∧ H b = some (.lst []) ∧ H d = some (.dK []) ∧ ∀ H', Same H H' → Q (.bl true) H'
theorem ok_bynames {f : Addr} {fd : FuncData} (F : Fun K "same_by_names" "same_by_names" s_same_by_names f fd) (B : Bl mg) (M : Ms mg) : FnOk P w K mg base CX0 1 f fd ["needs", "others", "names"] spByNames := by
  refine F.ok sc_same_by_names (fun vs H Q E h => ?_) (fun cdv A outer s H vs Q E hr h => ?_)
  · obtain ⟨a, b, d, rfl, _⟩ := h
    rfl
  · obtain ⟨a, b, d, rfl, ga, gb, gd, k⟩ := h
    have hu64 := hr.units
    refine ⟨_, (pss_cons (ps_set (i := 3) sc_same_by_names.nd rfl (Or.inr rfl) (pe_lock (pe_dc (own := [("name", 5)]) rfl sc_same_by_names.nd (pi_keys (pv 2)) (blkOk_by (N := N_same_by_names) (sc := (defScope s_same_by_names)) (own := [("name", 5)]) (by decide +kernel)) (fun _ _ _ _ _ => (pg_name (i := 5) sc_same_by_names.nd rfl (Or.inl rfl))) (fun _ _ _ _ _ => pts_nil) (fun _ _ _ _ _ => (pv 5)) (fun _ _ _ _ _ => pe_no))))
  (pss_cons (ps_set (i := 4) sc_same_by_names.nd rfl (Or.inl rfl) (pe_callB cr_sortedS (by rfl) M.sorted (by decide +kernel) (pa_cons (pe_lc (own := [("need", 6)]) rfl sc_same_by_names.nd (pi_list (pv 0)) (blkOk_by (N := N_same_by_names) (sc := (defScope s_same_by_names)) (own := [("need", 6)]) (by decide +kernel)) (fun _ _ _ _ _ => (pg_name (i := 6) sc_same_by_names.nd rfl (Or.inl rfl))) (fun _ _ _ _ _ => pts_nil) (fun _ _ _ _ _ => pe_no)) pa_nil)))
  (pss_one (ps_ret (pe_cmpR (op_eqD hu64) (pv 4) (pe_callB cr_sortedS (by rfl) M.sorted (by decide +kernel) (pa_cons (pe_lc (own := [("need", 6)]) rfl sc_same_by_names.nd (pi_list (pv 1)) (blkOk_by (N := N_same_by_names) (sc := (defScope s_same_by_names)) (own := [("need", 6)]) (by decide +kernel)) (fun _ _ _ _ _ => (pg_name (i := 6) sc_same_by_names.nd rfl (Or.inl rfl))) (fun _ _ _ _ _ => pts_nil) (fun _ _ _ _ _ => pe_no)) pa_nil)) (nomark _)))))), ?_⟩
    refine ⟨d, _, gd, trivial, fun od => ⟨_, rfl, d, od, rfl, .inl ⟨[], upd_same, fun D hD => dc_it walk_keys (fun i H' => Same (upd H d (.frz od (.dK []))) H' ∧ H' D = some (.dK [])) ⟨same_new hD, upd_same⟩ (fun i H' _ h => h.1 _ _ upd_same) ?_ ?_⟩⟩⟩
    · rintro i y H2 H3 hi
      exact absurd hi (Nat.not_lt_zero _)
    · rintro H1 ⟨s1, g1⟩
      refine ⟨s1 _ _ upd_same, ?_⟩
      have S1 : Same H (upd H1 d (.dK [])) := fun b o e => by
        by_cases hb : b = d
        · subst hb
          rw [upd_same, ← gd]
          exact e
        · rw [upd_ne hb]
          exact s1 _ _ (by rw [upd_ne hb]; exact e)
      generalize upd H1 d (.dK []) = H2 at S1 ⊢
      refine ⟨_, rfl, a, rfl, ⟨_, SqL.of (S1 _ _ ga)⟩, fun D1 hD1 => lc_it walk_list (fun i H' => Same H2 H' ∧ H' D1 = some (.lst [])) ⟨same_new hD1, upd_same⟩ (fun i H' _ h => SqL.of (h.1 _ _ (S1 _ _ ga))) ?_ ?_⟩
      · rintro i y H3 H4 hi
        exact absurd hi (Nat.not_lt_zero _)
      rintro H3 ⟨s3, g3⟩
      refine ⟨D1, [], rfl, SqL.of g3, by decide, fun ys p hy _ hp => ?_⟩
      obtain rfl : ys = [] := hy.eq_nil
      have S4 := S1.trans (s3.trans (same_new (o := .lst ([].map V.str)) hp))
      have gp : (upd H3 p (.lst ([].map V.str))) p = some (.lst []) := upd_same
      generalize upd H3 p (.lst ([].map V.str)) = H4 at S4 gp ⊢
      refine ⟨_, rfl, _, rfl, b, rfl, ⟨_, SqL.of (S4 _ _ gb)⟩, fun D2 hD2 => lc_it walk_list (fun i H' => Same H4 H' ∧ H' D2 = some (.lst [])) ⟨same_new hD2, upd_same⟩ (fun i H' _ h => SqL.of (h.1 _ _ (S4 _ _ gb))) ?_ ?_⟩
      · rintro i y H5 H6 hi
        exact absurd hi (Nat.not_lt_zero _)
      rintro H5 ⟨s5, g5⟩
      refine ⟨D2, [], rfl, SqL.of g5, by decide, fun ys p2 hy _ hp2 => ?_⟩
      obtain rfl : ys = [] := hy.eq_nil
      have s6 := s5.trans (same_new (o := .lst ([].map V.str)) hp2)
      have gp2 : (upd H5 p2 (.lst ([].map V.str))) p2 = some (.lst []) := upd_same
      generalize upd H5 p2 (.lst ([].map V.str)) = H6 at s6 gp2 ⊢
      have ee : PyData.eqv (.list []) (.list []) = true := by simp [PyData.eqv, PyData.eqvAll]
      refine ⟨.list [], .list [], .lst (SqL.of (s6 _ _ gp)) .nil, .lst (SqL.of gp2) .nil, by decide +kernel, by decide +kernel, ?_⟩
      rw [ee]
      exact k _ (S4.trans s6)
end
end L3

namespace L3
open PySem L2 StX RT
theorem cons_leaves : ∀ {k q : Kd}, k.cons → q ∈ k.leaves → ∃ x, q = .con x
  | .var _, _, h, _ => h.elim
  | .con x, q, _, h => ⟨x, List.mem_singleton.mp h⟩
  | .app a b, q, h, m => by
    rcases List.mem_append.mp (show q ∈ a.leaves ++ b.leaves from m) with m | m
    · exact cons_leaves h.1 m
    · exact cons_leaves h.2 m
theorem cons_leavesL : ∀ {ks : List Kd} {q : Kd}, (∀ k ∈ ks, k.cons) → q ∈ leavesL ks → ∃ x, q = .con x
  | [], _, _, m => nomatch m
  | k :: r, q, h, m => by
    rcases List.mem_append.mp (show q ∈ k.leaves ++ leavesL r from m) with m | m
    · exact cons_leaves (h k List.mem_cons_self) m
    · exact cons_leavesL (fun k hk => h k (List.mem_cons_of_mem _ hk)) m
theorem cons_vs : ∀ {k : Kd} {fs : List Str}, k.cons → k.vs fs = fs
  | .var _, _, h => h.elim
  | .con _, _, _ => rfl
  | .app a b, fs, h => by
    show b.vs (a.vs fs) = fs
    rw [cons_vs h.1, cons_vs h.2]
theorem cons_put : ∀ {k : Kd} {by' : By}, k.cons → k.put by' = k
  | .var _, _, h => h.elim
  | .con _, _, _ => rfl
  | .app a b, y, h => by
    show Kd.app (a.put y) (b.put y) = .app a b
    rw [cons_put h.1, cons_put h.2]
section
variable {P : Program} {w : World} {K : PySem.W.Frag} {mg : Str → Option Value} {base : Heap}
abbrev s_bare : Stmt := topS 43
abbrev N_bare : List Str := ["kind", "name"]
theorem sc_bare : FnScope N_bare ["kind"] (defScope s_bare) := ⟨rfl, rfl, rfl, by decide +kernel, rfl, by decide +kernel, by decide +kernel⟩
def spBare (n : Nat) : Sp := fun vs H Q _ => ∃ (v : V) (k : Kd), vs = [v] ∧ KdAt H v k ∧ k.cons ∧ k.fit n ∧ k.size ≤ 100000 ∧ ∀ H' v', Same H H' → KdAt H' v' k → Q v' H'
theorem ok_bare {n : Nat} (hn : 1 ≤ n) {f : Addr} {fd : FuncData} (F : Fun K "bare" "bare" s_bare f fd) (D_put : Kn P w K mg base (n + 1) "put" ["kind", "by"] (spPutK K n)) (D_variables_of : KnR P w K mg base 2 "variables_of" (spStar 0 (spVarsT K))) : FnOk P w K mg base CX0 (n + 2) f fd ["kind"] (spBare n) := by
  refine F.ok sc_bare (fun vs H Q E h => ?_) (fun cdv A outer s H vs Q E hr h => ?_)
  · obtain ⟨v, k, rfl, _⟩ := h
    rfl
  · obtain ⟨v, kd, rfl, gv, hc, hf, hs, k⟩ := h
    have hr_put : Room (n + 1) _ := hr
    have hr_variables_of : Room 2 _ := hr.mono (by omega)
    refine ⟨_, (pss_one (ps_ret (pe_kn D_put hr_put (pa_cons (pv 0) (pa_cons (pe_dc (own := [("name", 1)]) rfl sc_bare.nd (pi_tup (pe_ks D_variables_of hr_variables_of (pa_cons (pv 0) pa_nil))) (blkOk_by (N := N_bare) (sc := (defScope s_bare)) (own := [("name", 1)]) (by decide +kernel)) (fun _ _ _ _ _ => (pg_name (i := 1) sc_bare.nd rfl (Or.inl rfl))) (fun _ _ _ _ _ => pts_nil) (fun _ _ _ _ _ => (pv 1)) (fun _ _ _ _ _ => pe_no)) pa_nil))))), ?_⟩
    refine ⟨_, rfl, _, rfl, [], [v], rfl, rfl, slz rfl, fun q hq => ⟨q, [v], [kd], rfl, SqT.of upd_same, .cons (gv.tups (same_tups (same_new hq))) .nil, (by show kd.size + 0 ≤ 100000; omega), fun H2 r s2 _ gr => ?_⟩⟩
    have e0 : vsL [kd] [] = [] := cons_vs hc
    rw [e0] at gr
    have S2 := (same_new (o := .tup [v]) hq).trans s2
    refine ⟨r, rfl, ⟨_, SqT.of gr⟩, fun d hd => dc_it walk_tup (fun i H' => Same H2 H' ∧ H' d = some (.dK [])) ⟨same_new hd, upd_same⟩ (fun i H' _ h => SqT.of (h.1 _ _ gr)) ?_ ?_⟩
    · rintro i y H3 H4 hi
      exact absurd hi (Nat.not_lt_zero _)
    · rintro H3 ⟨s3, g3⟩
      have S3 := S2.trans s3
      refine ⟨v, d, kd, [], [], rfl, gv.tups (same_tups S3), hf, g3, .nil, fun H4 v' s4 g4 => ?_⟩
      rw [cons_put hc] at g4
      exact k H4 v' (S3.trans s4) g4
abbrev s_variable_leaves : Stmt := topS 44
abbrev N_variable_leaves : List Str := ["kinds", "leaf"]
theorem sc_variable_leaves : FnScope N_variable_leaves ["kinds"] (defScope s_variable_leaves) := ⟨rfl, rfl, rfl, by decide +kernel, rfl, by decide +kernel, by decide +kernel⟩
def spVarLeaves (K : PySem.W.Frag) : Sp := fun vs H Q _ => ∃ (a : Addr) (xs : List V) (ks : List Kd), vs = [.ref a] ∧ SqL K H a xs ∧ KdsAt H xs ks ∧ (∀ k ∈ ks, k.cons) ∧ sizeL ks ≤ 100000 ∧ ∀ H' l, Same H H' → H' l = some (.lst []) → Q (.ref l) H'
theorem ok_varleaves {f : Addr} {fd : FuncData} (F : Fun K "variable_leaves" "variable_leaves" s_variable_leaves f fd) (D_leaves_of : KnR P w K mg base 1 "leaves_of" (spStar 0 (spLeaves K))) : FnOk P w K mg base CX0 2 f fd ["kinds"] (spVarLeaves K) := by
  refine F.ok sc_variable_leaves (fun vs H Q E h => ?_) (fun cdv A outer s H vs Q E hr h => ?_)
  · obtain ⟨a, xs, ks, rfl, _⟩ := h
    rfl
  · obtain ⟨a, xs, ks, rfl, ga, gk, hc, hs, k⟩ := h
    have hr_leaves_of : Room 1 _ := hr
    refine ⟨_, (pss_one (ps_ret (pe_lc (own := [("leaf", 1)]) rfl sc_variable_leaves.nd (pi_list (pe_ks1 D_leaves_of hr_leaves_of (pv 0))) (blkOk_by (N := N_variable_leaves) (sc := (defScope s_variable_leaves)) (own := [("leaf", 1)]) (by decide +kernel)) (fun _ _ _ _ _ => (pg_name (i := 1) sc_variable_leaves.nd rfl (Or.inl rfl))) (fun _ _ _ _ _ => (pts_one (pt_cmpR op_eq (pe_ix (show IxR _ (rIxT K) from ix_tup) (pv 1) pe_int (fun _ _ => rfl)) pe_str (nomark _)))) (fun _ _ _ _ _ => pe_no)))), ?_⟩
    have lx : xs.length ≤ 100000 := by
      have := sizeL_len ks
      rw [Paired.length gk]
      omega
    refine ⟨_, rfl, a, xs, rfl, .inr ga, [], xs, rfl, rfl, Nat.le_of_lt (size_line (by omega)), fun q hq => ⟨q, xs, ks, rfl, SqT.of upd_same, KdsAt.tups (same_tups (same_new hq)) gk, hs, fun H1 p ls s1 hp g1 g2 => ?_⟩⟩
    have S1 := (same_new hq).trans s1
    refine ⟨p, rfl, ⟨_, SqL.of g1⟩, fun D hD => lc_it walk_list (fun i H' => Same H1 H' ∧ H' D = some (.lst [])) ⟨same_new hD, upd_same⟩ (fun i H' _ h => SqL.of (h.1 _ _ g1)) ?_ ?_⟩
    · rintro i y H2 H3 hi ⟨s2, gd2⟩ ⟨rfl, ey⟩
      obtain ⟨ky, hky, hy⟩ := paired_get g2 ey
      have hy2 := KdAt.tups (same_tups s2) hy
      obtain ⟨x, rfl⟩ := cons_leavesL hc (List.mem_of_getElem? hky)
      obtain ⟨c, rfl, gc⟩ := hy2
      refine ⟨rfl, ?_⟩
      refine ⟨_, rfl, _, _, _, _, rfl, rfl, SqT.of gc, rfl, rfl, _, rfl, iF tg_cv ?_⟩
      exact ⟨s2, gd2⟩
    · rintro H2 ⟨s2, g3⟩
      exact k H2 D (S1.trans s2) g3
end
end L3

namespace L3
open PySem L2 StX RT
section
variable {P : Program} {w : World} {K : PySem.W.Frag} {mg : Str → Option Value} {base : Heap}
abbrev s_renamed : Stmt := topS 42
abbrev N_renamed : List Str := ["names", "kinds", "others", "rows", "there", "back", "kind", "name", "other"]
theorem sc_renamed : FnScope N_renamed ["names", "kinds", "others"] (defScope s_renamed) := ⟨rfl, rfl, rfl, by decide +kernel, rfl, by decide +kernel, by decide +kernel⟩
def spRen (K : PySem.W.Frag) (n : Nat) : Sp := fun vs H Q _ => ∃ (p a b d1 d2 : Addr) (v1 v2 : V) (k : Kd), vs = [.ref p, .ref a, .ref b] ∧ H p = some (.tup [.ref d1, .ref d2]) ∧ H d1 = some (.dK []) ∧ H d2 = some (.dK []) ∧ H a = some (.lst [v1]) ∧ H b = some (.lst [v2]) ∧ KdAt H v1 k ∧ KdAt H v2 k ∧ k.cons ∧ k.fit n ∧ k.size ≤ 1000 ∧
  ∀ H' q e1 e2, Same H H' → H' q = some (.tup [.ref e1, .ref e2]) → H' e1 = some (.dK []) → H' e2 = some (.dK []) → Q (.ref q) H'
theorem ok_ren {n : Nat} (hn : 1 ≤ n) (hn2 : n ≤ 60) {f : Addr} {fd : FuncData} (F : Fun K "renamed" "renamed" s_renamed f fd) (B : Bl mg) (B9 : Bl9 mg) (D_bare : Kn P w K mg base (n + 2) "bare" ["kind"] (spBare n)) (D_variable_leaves : Kn P w K mg base 2 "variable_leaves" ["kinds"] (spVarLeaves K)) : FnOk P w K mg base CX0 (n + 3) f fd ["names", "kinds", "others"] (spRen K n) := by
  refine F.ok sc_renamed (fun vs H Q E h => ?_) (fun cdv A outer s H vs Q E hr h => ?_)
  · obtain ⟨p, a, b, d1, d2, v1, v2, k, rfl, _⟩ := h
    rfl
  · obtain ⟨p, a, b, d1, d2, v1, v2, kd, rfl, gp, gd1, gd2, ga, gb, k1, k2, hc, hf, hs, k⟩ := h
    have hu64 := hr.units
    have hr_bare : Room (n + 2) _ := hr
    have hr_variable_leaves : Room 2 _ := hr.mono (by omega)
    refine ⟨_, (pss_cons (ps_if (pt_cmpR (op_neD hu64) (pe_lc (own := [("kind", 6)]) rfl sc_renamed.nd (pi_list (pv 1)) (blkOk_by (N := N_renamed) (sc := (defScope s_renamed)) (own := [("kind", 6)]) (by decide +kernel)) (fun _ _ _ _ _ => (pg_name (i := 6) sc_renamed.nd rfl (Or.inl rfl))) (fun _ _ _ _ _ => pts_nil) (fun _ _ _ _ _ => (pe_kn D_bare hr_bare (pa_cons (pv 6) pa_nil)))) (pe_lc (own := [("kind", 6)]) rfl sc_renamed.nd (pi_list (pv 2)) (blkOk_by (N := N_renamed) (sc := (defScope s_renamed)) (own := [("kind", 6)]) (by decide +kernel)) (fun _ _ _ _ _ => (pg_name (i := 6) sc_renamed.nd rfl (Or.inl rfl))) (fun _ _ _ _ _ => pts_nil) (fun _ _ _ _ _ => (pe_kn D_bare hr_bare (pa_cons (pv 6) pa_nil)))) (nomark _))
  (pss_one (ps_ret pe_non))
  pss_nil)
  (pss_cons (ps_set (i := 3) sc_renamed.nd rfl (Or.inl rfl) (pe_listZip (by rfl) B.list (by rfl) B.zip rfl (pa_cons (pe_kn D_variable_leaves hr_variable_leaves (pa_cons (pv 1) pa_nil)) (pa_cons (pe_kn D_variable_leaves hr_variable_leaves (pa_cons (pv 2) pa_nil)) pa_nil))))
  (pss_cons (ps_set (i := 4) sc_renamed.nd rfl (Or.inr rfl) (pe_dm (pe_ix ix_tup (pv 0) pe_int (fun _ _ => rfl)) (pe_dc (own := [("name", 7), ("other", 8)]) (g := gTup K 2 (gCons (gName 7) (gCons (gName 8) gNil))) rfl sc_renamed.nd (pi_list (pv 3)) (blkOk_by (N := N_renamed) (sc := (defScope s_renamed)) (own := [("name", 7), ("other", 8)]) (by decide +kernel)) (fun _ _ _ _ _ => (pg_tup (by rfl) (pgs_cons (pg_name (i := 7) sc_renamed.nd rfl (Or.inl rfl)) (pgs_cons (pg_name (i := 8) sc_renamed.nd rfl (Or.inl rfl)) pgs_nil)))) (fun _ _ _ _ _ => pts_nil) (fun _ _ _ _ _ => pe_no) (fun _ _ _ _ _ => pe_no))))
  (pss_cons (ps_set (i := 5) sc_renamed.nd rfl (Or.inr rfl) (pe_dm (pe_ix ix_tup (pv 0) pe_int (fun _ _ => rfl)) (pe_dc (own := [("name", 7), ("other", 8)]) (g := gTup K 2 (gCons (gName 7) (gCons (gName 8) gNil))) rfl sc_renamed.nd (pi_list (pv 3)) (blkOk_by (N := N_renamed) (sc := (defScope s_renamed)) (own := [("name", 7), ("other", 8)]) (by decide +kernel)) (fun _ _ _ _ _ => (pg_tup (by rfl) (pgs_cons (pg_name (i := 7) sc_renamed.nd rfl (Or.inl rfl)) (pgs_cons (pg_name (i := 8) sc_renamed.nd rfl (Or.inl rfl)) pgs_nil)))) (fun _ _ _ _ _ => pts_nil) (fun _ _ _ _ _ => pe_no) (fun _ _ _ _ _ => pe_no))))
  (pss_cons (ps_if (pt_not (pt_val (pe_callB (cr_all rfl) (by rfl) B9.all (by decide +kernel) (pa_cons (pe_lc (own := [("name", 7), ("other", 8)]) (g := gTup K 2 (gCons (gName 7) (gCons (gName 8) gNil))) rfl sc_renamed.nd (pi_list (pv 3)) (blkOk_by (N := N_renamed) (sc := (defScope s_renamed)) (own := [("name", 7), ("other", 8)]) (by decide +kernel)) (fun _ _ _ _ _ => (pg_tup (by rfl) (pgs_cons (pg_name (i := 7) sc_renamed.nd rfl (Or.inl rfl)) (pgs_cons (pg_name (i := 8) sc_renamed.nd rfl (Or.inl rfl)) pgs_nil)))) (fun _ _ _ _ _ => pts_nil) (fun _ _ _ _ _ => pe_no)) pa_nil))))
  (pss_one (ps_ret pe_non))
  pss_nil)
  (pss_one (ps_ret (pe_tup (pa_cons (pv 4) (pa_cons (pv 5) pa_nil)))))))))), ?_⟩
    have bare1 : ∀ (i : Nat) (x : Addr) (v : V) (H0 : Hp) (R : VK), (L2.start N_renamed [V.ref p, V.ref a, V.ref b])[i]? = some (some (.ref x)) → H0 x = some (.lst [v]) → KdAt H0 v kd → (∀ (H' : Hp) (D : Addr) (u : V), Same H0 H' → H' D = some (.lst [u]) → KdAt H' u kd → R (.ref D) H') →
        tLc (iList K (tVar i)) (gName 6) tYes (tCall (spBare n) [] E0 (tCons (tVar 6) tNil)) [6] (L2.start N_renamed [V.ref p, V.ref a, V.ref b]) H0 R := fun i x v H0 R hσ gx gk r => by
      refine ⟨_, hσ, x, rfl, ⟨_, SqL.of gx⟩, fun D hD => lc_it walk_list (fun i H' => Same H0 H' ∧ (i = 0 → H' D = some (.lst [])) ∧ (1 ≤ i → ∃ u, H' D = some (.lst [u]) ∧ KdAt H' u kd)) ⟨same_new hD, fun _ => upd_same, fun h => absurd h (by omega)⟩ (fun i H' _ h => SqL.of (h.1 _ _ gx)) ?_ ?_⟩
      · rintro i y H3 H4 hi ⟨s1, h0, _⟩ ⟨rfl, ey⟩
        have hi : i < 1 := hi
        obtain rfl : i = 0 := by omega
        cases ey
        refine ⟨rfl, ?_⟩
        refine ⟨_, rfl, v, kd, rfl, gk.tups (same_tups s1), hc, hf, by omega, fun H5 u s5 g5 => ?_⟩
        have gD := s5 _ _ (h0 rfl)
        refine ⟨_, gD, slz rfl, fun b o e => ?_, fun h => absurd h (by omega), fun _ => ⟨u, upd_same, ?_⟩⟩
        · rw [upd_ne (ne_of_none e hD)]
          exact s5 _ _ (s1 _ _ e)
        · refine g5.tups fun b xs e => ?_
          rw [upd_ne (fun z => by rw [z, gD] at e; cases e)]
          exact e
      · rintro H3 ⟨s1, _, h1⟩
        obtain ⟨u, g1, g2⟩ := h1 (Nat.le_refl 1)
        exact r H3 D u s1 g1 g2
    unfold tSeq tIfS tTest tOp
    refine bare1 1 a v1 H _ rfl ga k1 (fun H1 D1 u1 s1 e1 m1 => ?_)
    refine bare1 2 b v2 H1 _ rfl (s1 _ _ gb) (k2.tups (same_tups s1)) (fun H2 D2 u2 s2 e2 m2 => ?_)
    have e1' := s2 _ _ e1
    have m1' := m1.tups (same_tups s2)
    have sh : SeqAt.shaped (.list [kd.dat]) = true := shaped_kds (ks := [kd]) fun q hq => by
      rw [List.mem_singleton.mp hq]
      exact Kd.fit_mono hn2 hf
    have ee : PyData.eqv (.list [kd.dat]) (.list [kd.dat]) = true := by
      have : PyData.eqv kd.dat kd.dat = true := by rw [Kd.eqv]; exact decide_eq_true rfl
      simp [PyData.eqv, PyData.eqvAll, this]
    refine ⟨.list [kd.dat], .list [kd.dat], .lst (SqL.of e1') (.cons m1'.dp .nil), .lst (SqL.of e2) (.cons m2.dp .nil), sh, sh, ?_⟩
    rw [ee]
    refine ⟨false, rfl, ?_⟩
    refine iF rfl ?_
    have S2 := s1.trans s2
    refine ⟨_, rfl, a, [v1], [kd], rfl, SqL.of (S2 _ _ ga), .cons (k1.tups (same_tups S2)) .nil, (fun q hq => by rw [List.mem_singleton.mp hq]; exact hc), (by show kd.size + 0 ≤ 100000; omega), fun H3 l3 s3 g3 => ?_⟩
    have S3 := S2.trans s3
    refine ⟨_, rfl, b, [v2], [kd], rfl, SqL.of (S3 _ _ gb), .cons (k2.tups (same_tups S3)) .nil, (fun q hq => by rw [List.mem_singleton.mp hq]; exact hc), (by show kd.size + 0 ≤ 100000; omega), fun H4 l4 s4 g4 => ?_⟩
    have S4 := S3.trans s4
    refine ⟨l3, l4, [], [], rfl, .inl ⟨SqL.of (s4 _ _ g3), SqL.of g4⟩, rfl, fun H5 r ts s5 _ gr pr => ?_⟩
    have S5 := S4.trans s5
    have ts0 : ts = [] := by
      cases ts with
      | nil => rfl
      | cons _ _ => cases pr
    subst ts0
    have gr : H5 r = some (.lst []) := gr
    refine fun e1 he0 => ?_
    have t0 := same_new (H := H5) (o := .dK []) he0
    refine ⟨_, rfl, p, _, 0, _, rfl, rfl, SqT.of (t0 _ _ (id (S5 _ _ gp))), rfl, d1, rfl, t0 _ _ (id (S5 _ _ gd1)), upd_same, ?_⟩
    refine ⟨_, rfl, r, rfl, ⟨_, SqL.of (t0 _ _ (id gr))⟩, fun D0 hD0 => dc_it walk_list (fun i H' => Same (upd H5 e1 (.dK [])) H' ∧ H' D0 = some (.dK [])) ⟨same_new hD0, upd_same⟩ (fun i H' _ h => SqL.of (h.1 _ _ (t0 _ _ (id gr)))) ?_ ?_⟩
    · rintro i y H3 H4 hi
      exact absurd hi (Nat.not_lt_zero _)
    rintro H6 ⟨u0, gu0⟩
    refine ⟨D0, rfl, gu0, u0 _ _ upd_same, ?_⟩
    have s6 := t0.trans u0
    have ge1 : H6 e1 = some (.dK []) := u0 _ _ upd_same
    refine fun e2 he1 => ?_
    have t1 := same_new (H := H6) (o := .dK []) he1
    refine ⟨_, rfl, p, _, 1, _, rfl, rfl, SqT.of (t1 _ _ (s6 _ _ (S5 _ _ gp))), rfl, d2, rfl, t1 _ _ (s6 _ _ (S5 _ _ gd2)), upd_same, ?_⟩
    refine ⟨_, rfl, r, rfl, ⟨_, SqL.of (t1 _ _ (s6 _ _ gr))⟩, fun D1 hD1 => dc_it walk_list (fun i H' => Same (upd H6 e2 (.dK [])) H' ∧ H' D1 = some (.dK [])) ⟨same_new hD1, upd_same⟩ (fun i H' _ h => SqL.of (h.1 _ _ (t1 _ _ (s6 _ _ gr)))) ?_ ?_⟩
    · rintro i y H3 H4 hi
      exact absurd hi (Nat.not_lt_zero _)
    rintro H7 ⟨u1, gu1⟩
    refine ⟨D1, rfl, gu1, u1 _ _ upd_same, ?_⟩
    have s7 := t1.trans u1
    have ge2 : H7 e2 = some (.dK []) := u1 _ _ upd_same
    refine ⟨_, rfl, r, rfl, ⟨_, SqL.of (s7 _ _ (s6 _ _ gr))⟩, fun D hD => lc_it walk_list (fun i H' => Same H7 H' ∧ H' D = some (.lst [])) ⟨same_new hD, upd_same⟩ (fun i H' _ h => SqL.of (h.1 _ _ (s7 _ _ (s6 _ _ gr)))) ?_ ?_⟩
    · rintro i y H3 H4 hi
      exact absurd hi (Nat.not_lt_zero _)
    · rintro H8 ⟨s8, g8⟩
      refine ⟨D, [], rfl, SqL.of g8, _, rfl, ?_⟩
      refine iF rfl ?_
      refine ⟨_, rfl, _, rfl, slz rfl, fun q hq => ?_⟩
      have s9 := same_new (o := .tup [.ref e1, .ref e2]) hq
      exact k _ q e1 e2 (S5.trans (s6.trans (s7.trans (s8.trans s9)))) upd_same (s9 _ _ (s8 _ _ (s7 _ _ ge1))) (s9 _ _ (s8 _ _ ge2))
abbrev s_same_scheme : Stmt := topS 34
abbrev N_same_scheme : List Str := ["kind", "needs", "other_kind", "other_needs", "names", "own", "others", "name"]
theorem sc_same_scheme : FnScope N_same_scheme ["kind", "needs", "other_kind", "other_needs"] (defScope s_same_scheme) := ⟨rfl, rfl, rfl, by decide +kernel, rfl, by decide +kernel, by decide +kernel⟩
def spSame (K : PySem.W.Frag) (n : Nat) : Sp := fun vs H Q _ => ∃ (n1 n2 : Addr) (v1 v2 : V) (k : Kd), vs = [v1, .ref n1, v2, .ref n2] ∧ SqT K H n1 [] ∧ SqT K H n2 [] ∧ KdAt H v1 k ∧ KdAt H v2 k ∧ k.cons ∧ k.fit n ∧ k.size ≤ 1000 ∧ ∀ H', Same H H' → Q (.bl true) H'
theorem ok_same {n : Nat} (hn : 1 ≤ n) {f : Addr} {fd : FuncData} (F : Fun K "same_scheme" "same_scheme" s_same_scheme f fd) (B : Bl mg) (B9 : Bl9 mg) (D_renamed : Kn P w K mg base (n + 3) "renamed" ["names", "kinds", "others"] (spRen K n)) (D_told_once : Kn P w K mg base 1 "told_once" ["needs"] (spOnce K))
    (D_variables_in : Kn P w K mg base 3 "variables_in" ["needs"] spVarsIn) (D_same_by_names : Kn P w K mg base 1 "same_by_names" ["needs", "others", "names"] spByNames) : FnOk P w K mg base CX0 (n + 4) f fd ["kind", "needs", "other_kind", "other_needs"] (spSame K n) := by
  refine F.ok sc_same_scheme (fun vs H Q E h => ?_) (fun cdv A outer s H vs Q E hr h => ?_)
  · obtain ⟨n1, n2, v1, v2, k, rfl, _⟩ := h
    rfl
  · obtain ⟨n1, n2, v1, v2, kd, rfl, g1, g2, k1, k2, hc, hf, hs, k⟩ := h
    have hr_renamed : Room (n + 3) _ := hr
    have hr_told_once : Room 1 _ := hr.mono (by omega)
    have hr_variables_in : Room 3 _ := hr.mono (by omega)
    have hr_same_by_names : Room 1 _ := hr.mono (by omega)
    refine ⟨_, (pss_cons (ps_set (i := 4) sc_same_scheme.nd rfl (Or.inr rfl) (pe_kn D_renamed hr_renamed (pa_cons (pe_tup (pa_cons pe_dnewK (pa_cons pe_dnewK pa_nil))) (pa_cons (pe_lst (pa_cons (pv 0) pa_nil)) (pa_cons (pe_lst (pa_cons (pv 2) pa_nil)) pa_nil)))))
  (pss_cons (ps_if (pt_cmpR op_isN (pv 4) pe_non (nomark _))
  (pss_one (ps_ret pe_bl))
  pss_nil)
  (pss_cons (ps_set (i := 5) sc_same_scheme.nd rfl (Or.inl rfl) (pe_kn D_told_once hr_told_once (pa_cons (pv 1) pa_nil)))
  (pss_cons (ps_set (i := 6) sc_same_scheme.nd rfl (Or.inl rfl) (pe_kn D_told_once hr_told_once (pa_cons (pv 3) pa_nil)))
  (pss_cons (ps_if (pt_cmpR op_ne (pe_callB call_len (by rfl) B.len PySem.boot_len (pa_cons (pv 5) pa_nil)) (pe_callB call_len (by rfl) B.len PySem.boot_len (pa_cons (pv 6) pa_nil)) (nomark _))
  (pss_one (ps_ret pe_bl))
  pss_nil)
  (pss_cons (ps_if (pt_val (pe_callB (cr_all rfl) (by rfl) B9.all (by decide +kernel) (pa_cons (pe_lc (own := [("name", 7)]) rfl sc_same_scheme.nd (pi_tup (pe_kn D_variables_in hr_variables_in (pa_cons (pv 5) pa_nil))) (blkOk_by (N := N_same_scheme) (sc := (defScope s_same_scheme)) (own := [("name", 7)]) (by decide +kernel)) (fun _ _ _ _ _ => (pg_name (i := 7) sc_same_scheme.nd rfl (Or.inl rfl))) (fun _ _ _ _ _ => pts_nil) (fun _ _ _ _ _ => pe_no)) pa_nil)))
  (pss_one (ps_ret (pe_kn D_same_by_names hr_same_by_names (pa_cons (pv 5) (pa_cons (pv 6) (pa_cons (pe_ix ix_tup (pv 4) pe_int (fun _ _ => rfl)) pa_nil))))))
  pss_nil)
  (pss_one (ps_ret pe_no)))))))), ?_⟩
    refine fun d1 hd1 d2 hd2 => ⟨slz rfl, fun p hp => ⟨_, rfl, slz rfl, fun l1 hl1 => ⟨_, rfl, slz rfl, fun l2 hl2 => ?_⟩⟩⟩
    have s1 := same_new (o := .dK []) hd1
    have s2 := same_new (o := .dK []) hd2
    have s3 := same_new (o := .tup [.ref d1, .ref d2]) hp
    have s4 := same_new (o := .lst [v1]) hl1
    have s5 := same_new (o := .lst [v2]) hl2
    have S5 := s1.trans (s2.trans (s3.trans (s4.trans s5)))
    refine ⟨p, l1, l2, d1, d2, v1, v2, kd, rfl, s5 _ _ (s4 _ _ upd_same), s5 _ _ (s4 _ _ (s3 _ _ (s2 _ _ upd_same))), s5 _ _ (s4 _ _ (s3 _ _ upd_same)), s5 _ _ upd_same, upd_same, k1.tups (same_tups S5), k2.tups (same_tups S5), hc, hf, hs, fun H6 q e1 e2 s6 gq ge1 ge2 => ?_⟩
    have S6 := S5.trans s6
    refine ⟨_, rfl, rfl, _, rfl, ?_⟩
    refine iF rfl ?_
    refine ⟨_, rfl, n1, rfl, SqT.same' S6 g1, fun H7 o1 s7 go1 => ?_⟩
    have S7 := S6.trans s7
    refine ⟨_, rfl, n2, rfl, SqT.same' S7 g2, fun H8 o2 s8 go2 => ?_⟩
    have S8 := S7.trans s8
    refine ⟨_, rfl, .ref o1, 0, rfl, .inl ⟨_, SqL.of (s8 _ _ go1), rfl⟩, _, rfl, .ref o2, 0, rfl, .inl ⟨_, SqL.of go2, rfl⟩, rfl, _, rfl, ?_⟩
    refine iF rfl ?_
    refine ⟨_, rfl, o1, rfl, s8 _ _ go1, fun H9 r s9 gr => ?_⟩
    have S9 := S8.trans s9
    refine ⟨r, rfl, ⟨_, SqT.of gr⟩, fun D hD => lc_it walk_tup (fun i H' => Same H9 H' ∧ H' D = some (.lst [])) ⟨same_new hD, upd_same⟩ (fun i H' _ h => SqT.of (h.1 _ _ gr)) ?_ ?_⟩
    · rintro i y H3 H4 hi
      exact absurd hi (Nat.not_lt_zero _)
    · rintro H10 ⟨s10, g10⟩
      refine ⟨D, [], rfl, SqL.of g10, _, rfl, ?_⟩
      refine iT rfl ?_
      have t9 := s9.trans s10
      refine ⟨_, rfl, _, rfl, _, rfl, q, _, 0, _, rfl, rfl, SqT.of (t9 _ _ (s8 _ _ (s7 _ _ gq))), rfl, o1, o2, e1, rfl, t9 _ _ (s8 _ _ go1), t9 _ _ go2, t9 _ _ (s8 _ _ (s7 _ _ ge1)), fun H11 s11 => ?_⟩
      exact k H11 (S9.trans (s10.trans s11))
end
end L3

/-! x != y by an own __eq__ -/
namespace L3
open PySem PySem.Spec PyProof.Rows L2
open Builtin
section
variable {prog : Program} {w : World} {A : Around} {E : Value → Shared → Prop} {s : Shared} {K : PySem.W.Frag} {x y C f : Addr} {ox oy : Obj} {od oe : Option Obj}
theorem objNe_own {Q : Fin → Shared → Prop} (hu : A.units < cLine) (X : K.In s.heap) (I : PySem.W.InstAt s.heap x ox C od) (hs : PySem.W.findIn K (.ref C) "__eq__" = some (some (.ref f))) (hf : PySem.W.isFn K (.ref f) = true)
    (h : wpAny (model prog w) A (call (.ref f) [.ref x, .ref y]) (fun v s' => ∃ b, v = .bool b ∧ Q (.done (.ret (.bool (!b)))) s') E s) : wpAny (model prog w) A (Builtin.«object.__ne__» ⟨[.ref x, .ref y], []⟩) Q E s := by
  unfold Builtin.«object.__ne__»
  repeat (first
    | with_reducible refine wpAny_cRoomFor hu ?_
    | (refine wpAny_bind (m := callSpecialIfBound? (.ref x) (Str.ofString "__eq__") [.ref y])
        (PySem.W.ifBound_K X I hs hf (wpAny_mono h (fun r s' hr => by
          obtain ⟨b, rfl, hq⟩ := hr
          repeat (first | exact hq | exact wpAny_pure hq | exact wpAny_truthy_bool hq | (refine wpAny_bind (m := truthy (.bool _)) (wpAny_truthy_bool ?_)) | wp_step)) fun _ _ e => e)))
    | wp_step)
theorem ifBound_objNe {args : List Value} {Q : Option Value → Shared → Prop} (X : K.In s.heap) (I : PySem.W.InstAt s.heap x ox C od) (hs : PySem.W.findIn K (.ref C) "__ne__" = some (some (.builtin "object.__ne__")))
    (h : wpAny (model prog w) A (call (.builtin "object.__ne__") (.ref x :: args)) (fun v => Q (some v)) E s) : wpAny (model prog w) A (callSpecialIfBound? (.ref x) "__ne__" args) Q E s := by
  simp only [callSpecialIfBound?, bindSpecialIfBound?]
  refine wpAny_holding (wpAny_bind (wpAny_bind (wpAny_bind (I.type.here ((PySem.W.looks_findIn X hs).here ?_)))))
  refine wpAny_bind (wpAny_askSetting (wpAny_ite ?_))
  have fin : wpAny (model prog w) A (call (.builtin "object.__ne__") ([.ref x] ++ args) >>= fun v => pure (some v)) Q E s := wpAny_bind (wpAny_mono h (fun v s' h' => wpAny_pure h') fun _ _ h' => h')
  split
  · exact wpAny_bind (wpAny_of_eq (F.cmp_object.ne.bind _) (wpAny_pure (by exact fin)))
  · exact wpAny_tryCatch (wpAny_bind (wpAny_of_eq (F.cmp_object.ne.bind _) (wpAny_pure (by exact fin))))
theorem ne_K {Q : Value → Shared → Prop} (hu : A.units < cLine) (hu1 : A.in1.units < cLine) (X : K.In s.heap) (I : PySem.W.InstAt s.heap x ox C od) (J : PySem.W.InstAt s.heap y oy C oe) (hm : PySem.W.mroIn K C (.type "object") = some true)
    (hn : PySem.W.findIn K (.ref C) "__ne__" = some (some (.builtin "object.__ne__"))) (hs : PySem.W.findIn K (.ref C) "__eq__" = some (some (.ref f))) (hf : PySem.W.isFn K (.ref f) = true)
    (h : wpAny (model prog w) A.in1 (call (.ref f) [.ref x, .ref y]) (fun v s' => ∃ b, v = .bool b ∧ Q (.bool (!b)) s') E s) : wpAny (model prog w) A (richCompare .NotEq (.ref x) (.ref y)) Q E s := by
  have one : wpAny (model prog w) A (tryCompare (.ref x) "__ne__" (.ref y)) (fun r s' => ∃ v, r = some v ∧ Q v s') E s := by
    unfold tryCompare
    refine wpAny_bind (ifBound_objNe X I hn (wpAny_call (codeAny_call_builtin F.cmp_object.ne.plain F.cmpEntry_ne (PySem.W.check_slot F.cmpKind_ne F.cmpSplit_ne (I.type.andThen (PySem.W.looks_mroIn X hm)) (F.cmpArgs_ne _ _) (objNe_own hu1 X I hs hf (wpAny_mono h (fun v s' hv => ?_) fun _ _ e => e))))))
    obtain ⟨b, rfl, hq⟩ := hv
    exact ⟨b, rfl, wpAny_pure ⟨_, rfl, hq⟩⟩
  unfold richCompare
  simp only [oneThing_ref]
  refine wpAny_holding (wpAny_bind (wpAny_cRoomFor hu ?_))
  refine wpAny_bind (I.type.here (wpAny_bind (J.type.here ?_)))
  split
  · rename_i q
    simp at q
  · refine wpAny_bind (wpAny_pure ?_)
    simp only [Bool.false_eq_true, if_false]
    refine wpAny_bind (wpAny_mono one (fun r s' z => ?_) fun _ _ e => e)
    obtain ⟨v, rfl, hq⟩ := z
    exact wpAny_pure hq
end
/-- a != b, instances of the class at C, whose __eq__ promises sp -/
def rNeOwn (C : Addr) (sp : Sp) : R2 := fun x y H Q => ∃ (a b dx dy : Addr) (fs gs : List (Str × V)), x = .ref a ∧ y = .ref b ∧ H a = some (.ins C dx fs) ∧ H b = some (.ins C dy gs) ∧ sp [.ref a, .ref b] H (fun v H' => ∃ t : Bool, v = .bl t ∧ Q (.bl (!t)) H') E0
section
variable {X : Cx} {n : Nat} {C f : Addr} {fd : FuncData} {ps : List Str} {sp : Sp}
theorem op_neOwn (hr : Room (n + 1) X.A) (F : FnOk X.prog X.w X.K X.mg X.base CX0 n f fd ps sp) (hm : PySem.W.mroIn X.K C (.type "object") = some true) (hn : PySem.W.findIn X.K (.ref C) "__ne__" = some (some (.builtin "object.__ne__")))
    (hs : PySem.W.findIn X.K (.ref C) "__eq__" = some (some (.ref f))) (hf : PySem.W.isFn X.K (.ref f) = true) (hb : Binds X.K fd ps []) : OpR X (compareOp .NotEq) (rNeOwn C sp) := by
  intro pins s σ H x y v u Q I rx ry h
  obtain ⟨a, b, dx, dy, fs, gs, rfl, rfl, ha, hb', hsp⟩ := h
  cases rx
  cases ry
  have sb : Sub X (n + 1) X.A := ⟨hr, rfl⟩
  obtain ⟨mA, J, _⟩ := ins_get I.hok ha
  obtain ⟨mB, J', _⟩ := ins_get I.hok hb'
  obtain ⟨od, J, _⟩ := J.look
  obtain ⟨od', J', _⟩ := J'.look
  show wpAny (model X.prog X.w) X.A (richCompare .NotEq (.ref a) (.ref b)) (EP X pins σ Q) X.xe s
  refine ne_K sb.room.units0 sb.in1.room.units0 I.kIn J J' hm hn hs hf ?_
  have e0 : Env0 X.prog X.w X.K X.mg X.base X.A.in1 X.stack s H := by
    have e := I.env0
    exact ⟨by rw [sb.in1.fr]; exact e.frames, e.mod, e.bs, e.bsz, e.funs, e.frf, e.hok, e.bare⟩
  have hl := F.len _ _ _ _ hsp
  have r2 : Vals [V.ref a, V.ref b] [Value.ref a, Value.ref b] := .cons rfl (.cons rfl .nil)
  refine wpAny_call (codeAny_mono (F.run X.A.in1 X.stack s H ⟨[.ref a, .ref b], []⟩ [.ref a, .ref b] [.ref a, .ref b] _ E0 sb.in1.room e0 (by
    have := hb s [.ref a, .ref b] I.kIn (by simpa using hl)
    simpa using this) r2 hsp) fun r s' hq => ?_)
  cases r with
  | error e => exact pass0 pins σ H s _ s' I hq
  | ok fl =>
    cases fl with
    | ret w =>
      obtain ⟨z, H', I', rz, t, ez, ex⟩ := I.after hq
      subst ez
      cases rz
      exact ⟨t, rfl, .bl (!t), H', I', rfl, ex⟩
    | next => exact False.elim hq
    | brk => exact False.elim hq
    | cont => exact False.elim hq
end
end L3

/-! a static method of a class of the module, called through the class -/
namespace L3
open PySem PySem.Spec PyProof.Rows L2
/-- m of the class at C is a static method around the def at f -/
structure SmK (K : PySem.W.Frag) (C : Addr) (m : Str) (f : Addr) : Prop where
  get : PySem.W.specialIn K (.ref C) "__getattribute__" = some (some (.builtin "type.__getattribute__"))
  rd : ∃ mc, PySem.W.readsIn K C mc = true ∧ ∃ p, PySem.W.findCls K (.ref C) mc m = some (.get (.builtin "staticmethod.__get__") (.ref p) .none (.ref C)) ∧ ∃ rest, PySem.W.recIn K p "staticmethod" = some (.ref f :: rest)
  hand : PySem.W.handedIn (.ref f) = true
  kp : PySem.W.keepIn K (.ref f) = true
section
variable {X : Cx} {x m : Str} {k : Nat} {sp : Sp} {C f : Addr} {e : Expr} {es : List Expr} {t : TA} {p apos pos : Pos} {pl : Sem Bool}
theorem pe_sm (hm : X.mg x = some (.ref C)) (S : SmK X.K C m f) (F : FnR X.prog X.w X.K X.mg X.base CX0 k f sp) (hr : Room k X.A) (ha : PA X (e :: es) t) (hg : Gl X x := by rfl) (hdb : (x == ("__debug__" : Str)) = false := by decide)
    (hst : starEach (e :: es) X.env = (false, eval e X.env) :: starEach es X.env := by rfl) (hpl : (backTo pos (starEach es X.env)).any (·.1) = false := by rfl)
    (ht : eval (.Call (.Attribute (.Name x p) m apos) (e :: es) [] pos) X.env = (do
      let ov ← eval (.Name x p) X.env
      standAt apos.atName
      let (f, first) ← holding [ov] (getMethod ov m pl)
      callWith pos f first (backTo pos (starEach (e :: es) X.env)) (backToKw pos (keywordEach [] X.env))) := by rfl) :
    PE X (.Call (.Attribute (.Name x p) m apos) (e :: es) [] pos) (tCallR sp t) := by
  obtain ⟨mc, rd, q, fc, rest, rc⟩ := S.rd
  refine ⟨fun pins s σ H Q I h => ?_⟩
  refine PySem.W.methodCall_KW (pl := pl) (ld_glob I hg hm ?_ hdb) ht
  refine PySem.W.method_cls I.kIn S.get ?_
  refine PySem.W.cls_bind I.kIn rd fc (wpAny_call (PySem.W.sm_get I.kIn rc (PySem.W.handed_on S.hand ?_)))
  have I' := I.tok (s.toks + 1)
  refine PySem.W.callWith_K (first := []) (h₀ := X.base) I.ok.mod.kin S.kp (thn (ha.run pos pins _ σ H _ I' h) fun us s2 ⟨vs, H2, I2, r, q2⟩ => ⟨I2.kIn, ?_⟩) hst hpl
  exact wpAny_call (run_fnR F hr pass0 I2 r q2)
end
end L3

/-! a static method that may raise, called through the class -/
namespace L3
open PySem PySem.Spec PyProof.Rows L2
section
variable {X : Cx} {x m : Str} {k : Nat} {sp : Sp} {C f : Addr} {e : Expr} {es : List Expr} {t : TA} {p apos pos : Pos} {pl : Sem Bool} {E : XK}
theorem pe_smX (hm : X.mg x = some (.ref C)) (S : SmK X.K C m f) (F : FnR X.prog X.w X.K X.mg X.base (L2.CX X.prog X.w) k f sp) (hr : Room k X.A) (tk : Takes X (fun cls d _ H => E cls d H)) (ha : PA X (e :: es) t) (hg : Gl X x := by rfl) (hdb : (x == ("__debug__" : Str)) = false := by decide)
    (hst : starEach (e :: es) X.env = (false, eval e X.env) :: starEach es X.env := by rfl) (hpl : (backTo pos (starEach es X.env)).any (·.1) = false := by rfl)
    (ht : eval (.Call (.Attribute (.Name x p) m apos) (e :: es) [] pos) X.env = (do
      let ov ← eval (.Name x p) X.env
      standAt apos.atName
      let (f, first) ← holding [ov] (getMethod ov m pl)
      callWith pos f first (backTo pos (starEach (e :: es) X.env)) (backToKw pos (keywordEach [] X.env))) := by rfl) :
    PE X (.Call (.Attribute (.Name x p) m apos) (e :: es) [] pos) (tCallRX sp E t) := by
  obtain ⟨mc, rd, q, fc, rest, rc⟩ := S.rd
  refine ⟨fun pins s σ H Q I h => ?_⟩
  refine PySem.W.methodCall_KW (pl := pl) (ld_glob I hg hm ?_ hdb) ht
  refine PySem.W.method_cls I.kIn S.get ?_
  refine PySem.W.cls_bind I.kIn rd fc (wpAny_call (PySem.W.sm_get I.kIn rc (PySem.W.handed_on S.hand ?_)))
  have I' := I.tok (s.toks + 1)
  refine PySem.W.callWith_K (first := []) (h₀ := X.base) I.ok.mod.kin S.kp (thn (ha.run pos pins _ σ H _ I' h) fun us s2 ⟨vs, H2, I2, r, q2⟩ => ⟨I2.kIn, ?_⟩) hst hpl
  exact wpAny_call (run_fnR F hr (passes_call tk fun _ _ _ _ h => h) I2 r q2)
end
end L3

namespace L3
open PySem L2 StX RT
theorem relv_ref (a : Addr) : RelV (.ref a) (.ref a) := rfl
/-- what K says of the class Scheme -/
structure ScK (K : PySem.W.Frag) (mg : Str → Option Value) (C f : Addr) : Prop where
  hm : mg "Scheme" = some (.ref C)
  cl : Cls K C
  mke : L2.Mk K C f
  ins : C8.InsC K C
  nk : NoAttr K C "kind"
  nn : NoAttr K C "needs"
  nv : NoAttr K C "variables"
  ns : NoAttr K C "size"
/-- a kind as it is told: no variable, a kind, small -/
structure Kt (k : Kd) : Prop where
  cons : k.cons
  fit : k.fit 4
  size : k.size ≤ 1000
  isk : isKindD k.dat = true
  ok : okD k.dat = true
  psz : psz k.dat ≤ 1000
theorem KdAt.da {t : Addr} {H : Hp} : ∀ {k : Kd} {v : V}, KdAt H v k → Da t H v k.dat
  | .var x, _, ⟨a, e, q⟩ => by subst e; exact .tup q (.cons (.str _) (.cons (.str _) .nil))
  | .con x, _, ⟨a, e, q⟩ => by subst e; exact .tup q (.cons (.str _) (.cons (.str _) .nil))
  | .app _ _, _, ⟨a, u, z, e, q, h1, h2⟩ => by subst e; exact .tup q (.cons (.str _) (.cons h1.da (.cons h2.da .nil)))
theorem paired_lastS {α β : Type} {R : α → β → Prop} : ∀ {bs : List β} {b : β} {xs : List α}, Paired R xs (bs ++ [b]) → ∃ as a, xs = as ++ [a] ∧ Paired R as bs ∧ R a b
  | [], b, _, .cons h .nil => ⟨[], _, rfl, .nil, h⟩
  | c :: bs, b, _, .cons h t => by
    obtain ⟨as, a, rfl, p, r⟩ := paired_lastS (bs := bs) t
    exact ⟨_ :: as, a, rfl, .cons h p, r⟩
section
variable {P : Program} {w : World} {K : PySem.W.Frag} {mg : Str → Option Value} {base : Heap} {C fI : Addr}
abbrev s_Scheme___init__ : Stmt := inS (topS 52) 0
abbrev N_Scheme___init__ : List Str := ["self", "kind", "needs", "need", "every"]
theorem sc_Scheme___init__ : FnScope N_Scheme___init__ ["self", "kind", "needs"] (defScope s_Scheme___init__) := ⟨rfl, rfl, rfl, by decide +kernel, rfl, by decide +kernel, by decide +kernel⟩
def spInit (C : Addr) : Sp := fun vs H Q _ => ∃ (x p dx : Addr) (v : V) (k : Kd), vs = [.ref x, v, .ref p] ∧ H x = some (.ins C dx []) ∧ KdAt H v k ∧ Kt k ∧ H p = some (.tup []) ∧
  ∀ H' fs, (∀ b o, b ≠ x → H b = some o → H' b = some o) → H' x = some (.ins C dx fs) → fs.lookup ("kind" : Str) = some v → fs.lookup ("needs" : Str) = some (.ref p) → Q .non H'
theorem ok_init {f : Addr} {fd : FuncData} (F : Fun K "__init__" "Scheme.__init__" s_Scheme___init__ f fd) (SC : ScK K mg C fI) (D_is_kind : Kn P w K mg base 4 "is_kind" ["value"] spKind) (D_kinds_of : Kn P w K mg base 1 "kinds_of" ["needs"] (spKinds0 K))
    (D_variables_of : KnR P w K mg base 2 "variables_of" (spStar 0 (spVarsT K))) (D_size_of : KnR P w K mg base 2 "size_of" (spStar 0 (spSize K))) : FnR P w K mg base CX0 5 f (spStar 2 (spInit C)) := by
  refine fn_starK (ps := ["self", "kind"]) F sc_Scheme___init__ (fun _ _ _ _ _ _ us rest hl => match us, rest, hl with | [_, _], [], _ => rfl | [_, _], _ :: _, _ => rfl) (fun cdv A outer s H vs Q E hr h => ?_)
  obtain ⟨x, p, dx, v, kd, rfl, gx, gv, kt, gp, k⟩ := h
  have hr_is_kind : Room 4 _ := hr
  have hr_kinds_of : Room 1 _ := hr.mono (by decide)
  have hr_variables_of : Room 2 _ := hr.mono (by decide)
  have hr_size_of : Room 2 _ := hr.mono (by decide)
  refine ⟨_, (pss_cons (ps_if (pt_not (pt_val (pe_kn D_is_kind hr_is_kind (pa_cons (pv 1) pa_nil))))
  (pss_one ps_never)
  pss_nil)
  (pss_cons (ps_for PassesOwn.never rfl (pi_tup (pv 2)) (pg_name (i := 3) sc_Scheme___init__.nd rfl (Or.inl rfl))
  (pss_one (ps_if (pt_not (pt_val pe_no))
  (pss_one ps_never)
  pss_nil)))
  (pss_cons (ps_set (i := 4) sc_Scheme___init__.nd rfl (Or.inl rfl) (pe_op op_cat (pe_lst (pa_cons (pv 1) pa_nil)) (pe_kn D_kinds_of hr_kinds_of (pa_cons (pv 2) pa_nil))))
  (pss_cons (L2.ps_fld (pv 0) (pv 1) rfl)
  (pss_cons (L2.ps_fld (pv 0) (pv 2) rfl)
  (pss_cons (L2.ps_fld (pv 0) (pe_ks1 D_variables_of hr_variables_of (pv 4)) rfl)
  (pss_one (L2.ps_fld (pv 0) (pe_ks1 D_size_of hr_size_of (pv 4)) rfl)))))))), ?_⟩
  refine ⟨_, rfl, 0, v, kd.dat, rfl, gv.da, kt.ok, Nat.le_trans kt.psz (by decide), fun H1 s1 => ?_⟩
  rw [kt.isk]
  refine ⟨_, rfl, iF rfl ?_⟩
  have gp1 := s1 _ _ gp
  refine ⟨_, rfl, p, rfl, ⟨_, SqT.of gp1⟩, for_it walk_tup (fun i σ H' => H' = H1 ∧ σ = [some (.ref x), some v, some (.ref p), none, none]) ⟨rfl, rfl⟩ (fun i σ H' _ h => by rw [h.1]; exact SqT.of gp1) ?_ ?_⟩
  · rintro i y σ H2 H3 hi
    exact absurd hi (Nat.not_lt_zero _)
  rintro σ H' ⟨rfl, rfl⟩
  refine ⟨_, rfl, slz rfl, fun l hl => ?_⟩
  have s2 := same_new (o := .lst [v]) hl
  refine ⟨_, rfl, p, rfl, .inl (SqT.of (s2 _ _ gp1)), fun l2 hl2 => ?_⟩
  have s3 := same_new (o := .lst []) hl2
  refine ⟨l, l2, _, _, rfl, rfl, s3 _ _ upd_same, upd_same, slz rfl, fun e he => ?_⟩
  have s4 := same_new (o := .lst ([v] ++ [])) he
  have S4 := s1.trans (s2.trans (s3.trans s4))
  have ge : (upd (upd (upd H' l (.lst [v])) l2 (.lst [])) e (.lst ([v] ++ []))) e = some (.lst [v]) := upd_same
  generalize upd (upd (upd H' l (.lst [v])) l2 (.lst [])) e (.lst ([v] ++ [])) = H4 at S4 ge ⊢
  have gx4 := S4 _ _ gx
  have gp4 := S4 _ _ gp
  have ex : e ≠ x := fun z => by rw [z, gx4] at ge; cases ge
  have px : p ≠ x := fun z => by rw [z, gx4] at gp4; cases gp4
  have lf : ∀ (f : Str) (y : V) (fs : List (Str × V)) (m : Nat), fs.length ≤ m → (putF f y fs).length ≤ m + 1 := fun f y fs m h => by
    have := length_putF f y fs
    omega
  have l1 := lf "kind" v [] 0 (Nat.le_refl _)
  have l2 := lf "needs" (.ref p) _ 1 l1
  refine ⟨_, rfl, _, rfl, x, C, dx, _, rfl, gx4, SC.cl, SC.nk, by decide, ?_⟩
  refine ⟨_, rfl, _, rfl, x, C, dx, _, rfl, upd_same, SC.cl, SC.nn, by omega, ?_⟩
  have u5 : ∀ b o, b ≠ x → H4 b = some o → (upd (upd H4 x (.ins C dx (putF "kind" v []))) x (.ins C dx (putF "needs" (.ref p) (putF "kind" v [])))) b = some o := fun b o hb e => by
    rw [upd_ne hb, upd_ne hb]
    exact e
  have gx5 : (upd (upd H4 x (.ins C dx (putF "kind" v []))) x (.ins C dx (putF "needs" (.ref p) (putF "kind" v [])))) x = some (.ins C dx (putF "needs" (.ref p) (putF "kind" v []))) := upd_same
  have tp : Tups H4 (upd (upd H4 x (.ins C dx (putF "kind" v []))) x (.ins C dx (putF "needs" (.ref p) (putF "kind" v [])))) := fun b xs e => u5 b _ (fun z => by rw [z, gx4] at e; cases e) e
  generalize upd (upd H4 x (.ins C dx (putF "kind" v []))) x (.ins C dx (putF "needs" (.ref p) (putF "kind" v []))) = H5 at u5 gx5 tp ⊢
  have gv5 : KdAt H5 v kd := (gv.tups (same_tups S4)).tups tp
  have ge5 := u5 _ _ ex ge
  have kz : sizeL [kd] ≤ 100000 := by
    have := kt.size
    show kd.size + 0 ≤ 100000
    omega
  refine ⟨_, rfl, e, [v], rfl, .inr (SqL.of ge5), [], [v], rfl, rfl, slz rfl, fun q hq => ⟨q, [v], [kd], rfl, SqT.of upd_same, .cons (gv5.tups (same_tups (same_new hq))) .nil, kz, fun H6 r s6 _ gr => ?_⟩⟩
  have S6 := (same_new (o := .tup [v]) hq).trans s6
  refine ⟨_, rfl, x, C, dx, _, rfl, S6 _ _ gx5, SC.cl, SC.nv, by omega, ?_⟩
  have l3 := lf "variables" (.ref r) _ 2 l2
  have u7 : ∀ b o, b ≠ x → H6 b = some o → (upd H6 x (.ins C dx (putF "variables" (.ref r) (putF "needs" (.ref p) (putF "kind" v []))))) b = some o := fun b o hb e => by
    rw [upd_ne hb]
    exact e
  have gx7 : (upd H6 x (.ins C dx (putF "variables" (.ref r) (putF "needs" (.ref p) (putF "kind" v []))))) x = some (.ins C dx (putF "variables" (.ref r) (putF "needs" (.ref p) (putF "kind" v [])))) := upd_same
  have tp7 : Tups H6 (upd H6 x (.ins C dx (putF "variables" (.ref r) (putF "needs" (.ref p) (putF "kind" v []))))) := fun b xs e => u7 b _ (fun z => by rw [z, S6 _ _ gx5] at e; cases e) e
  generalize upd H6 x (.ins C dx (putF "variables" (.ref r) (putF "needs" (.ref p) (putF "kind" v [])))) = H7 at u7 gx7 tp7 ⊢
  have gv7 : KdAt H7 v kd := (gv5.tups (same_tups S6)).tups tp7
  have ge7 := u7 _ _ ex (S6 _ _ ge5)
  refine ⟨_, rfl, e, [v], rfl, .inr (SqL.of ge7), [], [v], rfl, rfl, slz rfl, fun q2 hq2 => ⟨q2, [v], [kd], rfl, SqT.of upd_same, .cons (gv7.tups (same_tups (same_new hq2))) .nil, kz, fun H8 s8 => ?_⟩⟩
  have S8 := (same_new (o := .tup [v]) hq2).trans s8
  refine ⟨_, rfl, x, C, dx, _, rfl, S8 _ _ gx7, SC.cl, SC.ns, by omega, ?_⟩
  refine k _ _ (fun b o hb e => ?_) upd_same ?_ ?_
  · rw [upd_ne hb]
    exact S8 _ _ (u7 _ _ hb (S6 _ _ (u5 _ _ hb (S4 _ _ e))))
  · rw [lookup_putF, if_neg (by decide +kernel), lookup_putF, if_neg (by decide +kernel), lookup_putF, if_neg (by decide +kernel), lookup_putF, if_pos rfl]
  · rw [lookup_putF, if_neg (by decide +kernel), lookup_putF, if_neg (by decide +kernel), lookup_putF, if_pos rfl]
abbrev s_Scheme___eq__ : Stmt := inS (topS 52) 2
abbrev N_Scheme___eq__ : List Str := ["self", "other"]
theorem sc_Scheme___eq__ : FnScope N_Scheme___eq__ ["self", "other"] (defScope s_Scheme___eq__) := ⟨rfl, rfl, rfl, by decide +kernel, rfl, by decide +kernel, by decide +kernel⟩
def spEqS (K : PySem.W.Frag) (C : Addr) : Sp := fun vs H Q _ => ∃ (a b dx dy n1 n2 : Addr) (fs gs : List (Str × V)) (v1 v2 : V) (k : Kd), vs = [.ref a, .ref b] ∧ H a = some (.ins C dx fs) ∧ H b = some (.ins C dy gs) ∧ fs.lookup ("kind" : Str) = some v1 ∧ fs.lookup ("needs" : Str) = some (.ref n1) ∧ gs.lookup ("kind" : Str) = some v2 ∧ gs.lookup ("needs" : Str) = some (.ref n2) ∧
  SqT K H n1 [] ∧ SqT K H n2 [] ∧ KdAt H v1 k ∧ KdAt H v2 k ∧ Kt k ∧ ∀ H', Same H H' → Q (.bl true) H'
theorem ok_eq {f : Addr} {fd : FuncData} (F : Fun K "__eq__" "Scheme.__eq__" s_Scheme___eq__ f fd) (SC : ScK K mg C fI) (B9 : Bl9 mg) (D_same_scheme : Kn P w K mg base 8 "same_scheme" ["kind", "needs", "other_kind", "other_needs"] (spSame K 4)) : FnOk P w K mg base CX0 9 f fd ["self", "other"] (spEqS K C) := by
  refine F.ok sc_Scheme___eq__ (fun vs H Q E h => ?_) (fun cdv A outer s H vs Q E hr h => ?_)
  · obtain ⟨a, b, dx, dy, n1, n2, fs, gs, v1, v2, k, rfl, _⟩ := h
    rfl
  · obtain ⟨a, b, dx, dy, n1, n2, fs, gs, v1, v2, kd, rfl, ga, gb, f1, f2, h1, h2, g1, g2, k1, k2, kt, k⟩ := h
    have hr_same_scheme : Room 8 _ := hr
    refine ⟨_, (pss_one (ps_ret (pe_and (pe_callB (C8.call_isC SC.ins) (by rfl) B9.isinstance PyProof.Rows.boot_isinstance (pa_cons (pv 1) (pa_cons (pe_gc (by rfl) ⟨_, SC.hm, relv_ref _⟩) pa_nil))) (pe_one (pe_kn D_same_scheme hr_same_scheme (pa_cons (L2.pe_fld (pv 0) rfl) (pa_cons (L2.pe_fld (pv 0) rfl) (pa_cons (L2.pe_fld (pv 1) rfl) (pa_cons (L2.pe_fld (pv 1) rfl) pa_nil))))))))), ?_⟩
    refine ⟨_, rfl, b, dy, gs, rfl, gb, ?_⟩
    refine ⟨true, rfl, ?_⟩
    refine iT rfl ?_
    refine ⟨_, rfl, a, C, dx, fs, v1, rfl, ga, SC.cl, SC.nk, f1, _, rfl, a, C, dx, fs, _, rfl, ga, SC.cl, SC.nn, f2, _, rfl, b, C, dy, gs, v2, rfl, gb, SC.cl, SC.nk, h1, _, rfl, b, C, dy, gs, _, rfl, gb, SC.cl, SC.nn, h2, ?_⟩
    exact ⟨n1, n2, v1, v2, kd, rfl, g1, g2, k1, k2, kt.cons, kt.fit, kt.size, k⟩
abbrev s_Primitives_told_scheme : Stmt := inS (topS 60) 1
abbrev N_Primitives_told_scheme : List Str := ["name", "kinds", "word"]
theorem sc_Primitives_told_scheme : FnScope N_Primitives_told_scheme ["name"] (defScope s_Primitives_told_scheme) := ⟨rfl, rfl, rfl, by decide +kernel, rfl, by decide +kernel, by decide +kernel⟩
/-- the kind of a primitive with the words ws -/
def toK : List Str → Str → Kd
  | [], last => .con last
  | x :: xs, last => arrow (.con x) (toK xs last)
theorem toK_fold : ∀ (ws : List Str) (last : Str), (ws.map Kd.con).foldr arrow (.con last) = toK ws last
  | [], _ => rfl
  | a :: r, last => by
    show arrow (.con a) ((r.map Kd.con).foldr arrow (.con last)) = arrow (.con a) (toK r last)
    rw [toK_fold r last]
/-- an instance of Scheme with this kind and no needs -/
def SchAt (K : PySem.W.Frag) (C : Addr) (H : Hp) (y : V) (k : Kd) : Prop := ∃ (a dx n : Addr) (fs : List (Str × V)) (v : V), y = .ref a ∧ H a = some (.ins C dx fs) ∧ fs.lookup ("kind" : Str) = some v ∧ fs.lookup ("needs" : Str) = some (.ref n) ∧ SqT K H n [] ∧ KdAt H v k
def spTold (K : PySem.W.Frag) (w : World) (kA CN C : Addr) : Sp := fun vs H Q E => ∃ (t : Addr) (v : V) (d : PyData), vs = [v] ∧ Da t H v d ∧
  (badN d = true → ∀ H' dx, Same H H' → H' dx = some (.xd [("word", v)]) → E (.ref CN) (some dx) H') ∧
  (badN d = false → ∃ (x last : Str) (wa : Addr) (ws : List Str), v = .str x ∧ KDct K w kA x (.ref wa) ∧ (∀ H', SqT K H' wa (ws.map V.str ++ [.str last])) ∧ ws.length ≤ 2 ∧ Kt (toK ws last) ∧ ∀ H' y, Same H H' → SchAt K C H' y (toK ws last) → Q y H')
theorem ok_told {kA aA CN f : Addr} {es es2 : Array DictEntry} {nb nb2 : Nat} {fd : FuncData} (F : Fun K "told_scheme" "Primitives.told_scheme" s_Primitives_told_scheme f fd) (B : Bl mg) (M : Mk K w mg kA es nb aA es2 nb2) (SC : ScK K mg C fI)
    (D_check_primitive : KnX P w K mg base 3 "check_primitive" ["name"] (spCheck CN)) (D_con : KnR P w K mg base 2 "con" (spStar 1 (spConT K))) (D_to : KnR P w K mg base 3 "to" (spStar 0 (spTo K))) (D_Scheme : FnR P w K mg base CX0 5 fI (spStar 2 (spInit C))) : FnOk P w K mg base (L2.CX P w) 7 f fd ["name"] (spTold K w kA CN C) := by
  refine F.okX sc_Primitives_told_scheme (fun vs H Q E h => ?_) (fun cdv A outer s H vs Q E hr h => ?_)
  · obtain ⟨t, v, d, rfl, _⟩ := h
    rfl
  · obtain ⟨t, v, d, rfl, hd, kN, kG⟩ := h
    have hr_check_primitive : Room 3 _ := hr.mono (by decide)
    have hr_con : Room 2 _ := hr.mono (by decide)
    have hr_to : Room 3 _ := hr.mono (by decide)
    have hr_Scheme : Room 6 _ := hr
    refine ⟨_, (pss_cons (ps_expr (pe_knX D_check_primitive hr_check_primitive (takes_of rfl rfl rfl rfl) (pa_cons (pv 0) pa_nil)))
  (pss_cons (ps_setLc (i := 1) (own := [("word", 2)]) rfl sc_Primitives_told_scheme.nd rfl rfl (sw_true rfl rfl rfl (by decide +kernel)) (pi_tup (pe_ix ix_kdict (pe_gc (by rfl) M.KINDS) (pv 0) (fun _ _ => rfl))) (blkOk_by (N := N_Primitives_told_scheme) (sc := (defScope s_Primitives_told_scheme)) (own := [("word", 2)]) (by decide +kernel)) (fun _ _ _ _ _ => (pg_name (i := 2) sc_Primitives_told_scheme.nd rfl (Or.inl rfl))) (fun _ _ _ _ _ => pts_nil) (fun _ _ _ _ _ => (pe_ks D_con hr_con (pa_cons (pv 2) pa_nil))))
  (pss_one (ps_ret (pe_makeR SC.mke D_Scheme hr_Scheme (by rfl) SC.hm pass0 (pa_cons (pe_ks1 D_to hr_to (pv 1)) pa_nil)))))), ?_⟩
    refine ⟨_, rfl, t, v, d, rfl, hd, fun hb => ?_, fun hb => kN hb⟩
    obtain ⟨x, last, wa, ws, rfl, hk, hw, l2, kt, k⟩ := kG hb
    have lw : (ws.map V.str ++ [V.str last]).length = (ws ++ [last]).length := by simp
    refine ⟨_, rfl, kA, x, _, rfl, rfl, hk, wa, rfl, ⟨_, hw H⟩, fun D hD => lc_it (J := Itt K wa) (g := gName 2) walk_tup (fun i H' => Same H H' ∧ ∃ us, H' D = some (.lst us) ∧ KdsAt H' us (((ws ++ [last]).take i).map Kd.con)) ⟨same_new hD, [], upd_same, .nil⟩ (fun i H' _ h => hw H') ?_ ?_⟩
    · rintro i y H1 H2 hi ⟨s1, us, gD, gk⟩ ⟨rfl, ey⟩
      obtain ⟨wd, ew, rfl⟩ : ∃ wd, (ws ++ [last])[i]? = some wd ∧ y = .str wd := by
        rw [show ws.map V.str ++ [V.str last] = (ws ++ [last]).map V.str by simp, List.getElem?_map] at ey
        cases e : (ws ++ [last])[i]? with
        | none => rw [e] at ey; cases ey
        | some a => rw [e] at ey; exact ⟨a, rfl, (Option.some.inj ey).symm⟩
      refine ⟨rfl, ?_⟩
      refine ⟨_, rfl, [.str wd], [], rfl, rfl, slz rfl, fun q hq => ⟨wd, q, [], [], rfl, SqT.of upd_same, .nil, fun H3 u s3 g3 => ?_⟩⟩
      have S3 := (same_new (o := .tup []) hq).trans s3
      have gD3 := S3 _ _ gD
      have lu : us.length ≤ 3 := by
        rw [Paired.length gk, List.length_map, List.length_take, List.length_append, List.length_singleton]
        omega
      refine ⟨_, gD3, szl (by omega), fun b o e => ?_, _, upd_same, ?_⟩
      · rw [upd_ne (ne_of_none e hD)]
        exact S3 _ _ (s1 _ _ e)
      · have tp : Tups H3 (upd H3 D (.lst (us ++ [u]))) := Tups.put gD3 nofun
        rw [List.take_add_one, ew, List.map_append]
        exact Paired.snoc (KdsAt.tups tp (KdsAt.tups (same_tups S3) gk)) (g3.tups tp)
    · rintro H1 ⟨s1, us, gD, gk⟩
      rw [List.take_of_length_le (by rw [lw]; exact Nat.le_refl _), List.map_append] at gk
      obtain ⟨us0, ul, rfl, p0, pl⟩ := paired_lastS gk
      have lu : us0.length ≤ 2 := by
        rw [Paired.length p0, List.length_map]
        exact l2
      refine ⟨_, rfl, D, us0 ++ [ul], rfl, .inr (SqL.of gD), [], us0 ++ [ul], rfl, rfl, Nat.le_of_lt (szl (by rw [List.length_append, List.length_singleton]; omega)), fun q hq => ⟨q, us0, ul, ws.map Kd.con, .con last, rfl, SqT.of upd_same, KdsAt.tups (same_tups (same_new hq)) p0, pl.tups (same_tups (same_new hq)), fun H2 kv s2 g2 => ?_⟩⟩
      have S2 := s1.trans ((same_new (o := .tup (us0 ++ [ul])) hq).trans s2)
      have ek := toK_fold ws last
      rw [ek] at g2
      refine fun y dx hy hdx nd => ⟨[.ref y, kv], [], rfl, rfl, slz rfl, fun p hp => ?_⟩
      have s3 := same_new (o := .own y) hdx
      have hy3 : (upd H2 dx (.own y)) y = none := by rw [upd_ne (Ne.symm nd)]; exact hy
      have s4 := same_new (o := .ins C dx []) hy3
      have s5 := same_new (o := .tup []) hp
      have S5 := s3.trans (s4.trans s5)
      refine ⟨y, p, dx, kv, toK ws last, rfl, s5 _ _ upd_same, g2.tups (same_tups S5), kt, upd_same, fun H6 fs u6 gy f1 f2 => ⟨rfl, ?_⟩⟩
      have S6 : Same H2 H6 := fun b o e => u6 b o (fun z => by rw [z, hy] at e; cases e) (S5 _ _ e)
      refine k H6 (.ref y) (S2.trans S6) ⟨y, dx, p, fs, kv, rfl, gy, f1, f2, ?_, g2.tups (same_tups S6)⟩
      exact SqT.of (u6 p _ (fun z => by rw [z, upd_same] at hp; cases hp) upd_same)
end
end L3

namespace L3
open PySem L2 StX
theorem cut_lastS (ws : List Str) (last : Str) : cutV (ws.map V.str ++ [.str last]) none (some (-1)) = ws.map V.str := by
  have h := cut_front (ws.map V.str) (.str last) []
  have e : HT.sIx (ws.map V.str ++ [V.str last]).length (ws.map V.str ++ [V.str last]).length (some (-1)) = HT.sIx (ws.map V.str ++ [V.str last]).length (ws.map V.str ++ [V.str last]).length (some ((ws.map V.str).length : Int)) := by
    rw [HT.sIx_nat]
    simp [HT.sIx]
    try omega
  unfold cutV at h ⊢
  rw [e]
  exact h
theorem not_whole (ws : List Str) (last : Str) : ¬ (HT.sIx (ws.map V.str ++ [V.str last]).length 0 none = 0 ∧ HT.sIx (ws.map V.str ++ [V.str last]).length (ws.map V.str ++ [V.str last]).length (some (-1)) = (ws.map V.str ++ [V.str last]).length) := by
  rintro ⟨_, h⟩
  revert h
  simp [HT.sIx]
  try omega
/-- whether the value at i is none of the words -/
def badAt (ws : List Str) (i : Nat) (d : PyData) : Bool := match ws[i]? with
  | some w => !plainB w d
  | none => true
/-- which value is refused, from i on -/
def firstBad (ws : List Str) : Nat → List PyData → Option Nat
  | i, [] => if i < ws.length then some i else none
  | i, d :: ds => if badAt ws i d then some i else firstBad ws (i + 1) ds
theorem first_none {ws : List Str} : ∀ {ds : List PyData} {i : Nat}, firstBad ws i ds = none → ws.length ≤ i + ds.length ∧ ∀ j d, ds[j]? = some d → badAt ws (i + j) d = false
  | [], i, h => by
    unfold firstBad at h
    by_cases c : i < ws.length
    · rw [if_pos c] at h; cases h
    · exact ⟨by simp; omega, fun j d e => by cases e⟩
  | d :: ds, i, h => by
    have h : (if badAt ws i d then some i else firstBad ws (i + 1) ds) = none := h
    cases b : badAt ws i d with
    | true => rw [b] at h; cases h
    | false =>
      rw [b] at h
      obtain ⟨h1, h2⟩ := first_none (ds := ds) (i := i + 1) h
      refine ⟨by rw [List.length_cons]; omega, fun j e ej => ?_⟩
      cases j with
      | zero => cases ej; exact b
      | succ j =>
        have := h2 j e ej
        rw [show i + 1 + j = i + (j + 1) by omega] at this
        exact this
/-- what is looked at is no dict and no great text -/
def seeOk (d : PyData) : Prop := headOk d = true ∧ ∀ a x, d = .tuple [a, .str x] → x.length ≤ 1000
theorem bad_none {ws : List Str} {i : Nat} {d : PyData} (h : badAt ws i d = false) : ∃ wd b, ws[i]? = some wd ∧ d = .tuple [.str wd, b] := by
  unfold badAt at h
  cases e : ws[i]? with
  | none => rw [e] at h; cases h
  | some wd =>
    rw [e] at h
    have h : (!plainB wd d) = false := h
    have h : plainB wd d = true := by simpa using h
    refine ⟨wd, ?_⟩
    unfold plainB at h
    split at h
    · rw [Bool.and_eq_true] at h
      rename_i a b _ _
      exact ⟨b, rfl, by rw [isS_eq h.1]⟩
    · cases h
theorem da_at {t : Addr} {H : Hp} : ∀ {xs : List V} {ds : List PyData} {i : Nat} {y : V}, DaAll t H xs ds → xs[i]? = some y → ∃ d, ds[i]? = some d ∧ Da t H y d
  | [], _, _, _, .nil, h => by cases h
  | _ :: _, _ :: _, 0, _, .cons a _, h => ⟨_, rfl, by cases h; exact a⟩
  | _ :: _, _ :: _, i + 1, _, .cons _ r, h => da_at (i := i) r h
section
variable {P : Program} {w : World} {K : PySem.W.Frag} {mg : Str → Option Value} {base : Heap} {kA aA CN CV : Addr} {es es2 : Array DictEntry} {nb nb2 : Nat}
abbrev s_Primitives_done : Stmt := inS (topS 60) 2
abbrev N_Primitives_done : List Str := ["name", "values", "words", "index", "value", "action", "contents"]
theorem sc_Primitives_done : FnScope N_Primitives_done ["name", "values"] (defScope s_Primitives_done) := ⟨rfl, rfl, rfl, by decide +kernel, rfl, by decide +kernel, by decide +kernel⟩
/-- what done is asked: any name, any values -/
def spDone (P : Program) (w : World) (K : PySem.W.Frag) (mg : Str → Option Value) (base : Heap) (kA aA CN CV : Addr) : Sp := fun vs H Q E => ∃ (t : Addr) (v : V) (d : PyData) (p : Addr) (us : List V) (ds : List PyData),
  vs = [v, .ref p] ∧ Da t H v d ∧ H p = some (.tup us) ∧ DaAll t H us ds ∧ us.length ≤ 60 ∧ (∀ e ∈ ds, seeOk e) ∧
  (badN d = true → ∀ H' dx, Same H H' → H' dx = some (.xd [("word", v)]) → E (.ref CN) (some dx) H') ∧
  (badN d = false → ∃ (x last : Str) (wa : Addr) (ws : List Str), v = .str x ∧ KDct K w kA x (.ref wa) ∧ (∀ H', SqT K H' wa (ws.map V.str ++ [.str last])) ∧ ws.length ≤ 1000 ∧ (∀ wd ∈ ws, wd = "whole" ∨ wd = "text") ∧
    (∀ j, firstBad ws 0 ds = some j → ∀ H' dx, Same H H' → H' dx = some (.xd [("index", .int (j : Int))]) → E (.ref CV) (some dx) H') ∧
    (firstBad ws 0 ds = none → ∃ (f : Addr) (sp : Sp) (cs : List V), KDct K w aA x (.ref f) ∧ Does P w K mg base 3 f sp ∧ cs.length = us.length ∧ (∀ (i : Nat) (u c : V), us[i]? = some u → cs[i]? = some c → ∃ a s, u = .ref a ∧ H a = some (.tup [s, c])) ∧ ∀ H', Same H H' → sp cs H' Q E0))
theorem ok_done {f : Addr} {fd : FuncData} (F : Fun K "done" "Primitives.done" s_Primitives_done f fd) (B : Bl mg) (M : Mk K w mg kA es nb aA es2 nb2) (X_InvalidValue : E1 P w K mg base "InvalidValue" "index" mroV "ValueError.__new__" CV)
    (D_check_primitive : KnX P w K mg base 3 "check_primitive" ["name"] (spCheck CN))
    (D_is_plain : Kn P w K mg base 3 "is_plain" ["value", "word"] spPlain) : FnR P w K mg base (L2.CX P w) 4 f (spStar 1 (spDone P w K mg base kA aA CN CV)) := by
  refine fn_starX (ps := ["name"]) F sc_Primitives_done (fun _ _ _ _ _ _ us rest hl => match us, rest, hl with | [_], [], _ => rfl | [_], _ :: _, _ => rfl) (fun cdv A outer s H vs Q E hr h => ?_)
  obtain ⟨t, v, d, p, us, ds, rfl, hd, hp, du, l60, hsee, kN, kG⟩ := h
  have hr_check_primitive : Room 3 _ := hr
  have hr_is_plain : Room 3 _ := hr
  have hr_act : Room 3 _ := hr
  have hr2 : Room 2 _ := hr.mono (by decide)
  refine ⟨_, (pss_cons (ps_expr (pe_knX D_check_primitive hr_check_primitive (takes_of rfl rfl rfl rfl) (pa_cons (pv 0) pa_nil)))
  (pss_cons (ps_set (i := 2) sc_Primitives_done.nd rfl (Or.inl rfl) (pe_slice sl_tupA (pe_ix ix_kdict (pe_gc (by rfl) M.KINDS) (pv 0) (fun _ _ => rfl)) po_none (po_some (pe_un un_neg pe_int))))
  (pss_cons (ps_for (passes_of rfl) rfl (pi_enumT (by rfl) M.enum (pa_cons (pv 1) pa_nil)) (pg_tup (by rfl) (pgs_cons (pg_name (i := 3) sc_Primitives_done.nd rfl (Or.inl rfl)) (pgs_cons (pg_name (i := 4) sc_Primitives_done.nd rfl (Or.inl rfl)) pgs_nil)))
  (pss_one (ps_if (PW.pt (pw_or (pt_cmpR op_ge (pv 3) (pe_callB call_len (by rfl) B.len PySem.boot_len (pa_cons (pv 2) pa_nil)) (nomark _)) (pw_or1 (pt_not (pt_val (pe_kn D_is_plain hr_is_plain (pa_cons (pv 4) (pa_cons (pe_ix ix_tup (pv 2) (pv 3) (fun _ _ => rfl)) pa_nil))))))))
  (pss_one (ps_raise rfl (takes_of rfl rfl rfl rfl) (pmk_newX PySem.F.excBase_ValueError X_InvalidValue.T X_InvalidValue.R.sb X_InvalidValue.ty X_InvalidValue.I hr2 X_InvalidValue.hm (pa_cons (pv 3) pa_nil))))
  pss_nil)))
  (pss_cons (ps_if (pt_cmpR op_lt (pe_callB call_len (by rfl) B.len PySem.boot_len (pa_cons (pv 1) pa_nil)) (pe_callB call_len (by rfl) B.len PySem.boot_len (pa_cons (pv 2) pa_nil)) (nomark _))
  (pss_one (ps_raise rfl (takes_of rfl rfl rfl rfl) (pmk_newX PySem.F.excBase_ValueError X_InvalidValue.T X_InvalidValue.R.sb X_InvalidValue.ty X_InvalidValue.I hr2 X_InvalidValue.hm (pa_cons (pe_callB call_len (by rfl) B.len PySem.boot_len (pa_cons (pv 1) pa_nil)) pa_nil))))
  pss_nil)
  (pss_cons (ps_set (i := 5) sc_Primitives_done.nd rfl (Or.inl rfl) (pe_ix ix_kdict (pe_gc (by rfl) M.ACTIONS) (pv 0) (fun _ _ => rfl)))
  (pss_cons (ps_setLc (i := 6) (own := [("value", 4)]) rfl sc_Primitives_done.nd rfl rfl (sw_true rfl rfl rfl (by decide +kernel)) (pi_tup (pv 1)) (blkOk_by (N := N_Primitives_done) (sc := (defScope s_Primitives_done)) (own := [("value", 4)]) (by decide +kernel)) (fun _ _ _ _ _ => (pg_name (i := 4) sc_Primitives_done.nd rfl (Or.inl rfl))) (fun _ _ _ _ _ => pts_nil) (fun _ _ _ _ _ => (pe_ix (show IxR _ (rIxT K) from ix_tup) (pv 4) pe_int (fun _ _ => rfl))))
  (pss_one (ps_ret (pe_callLS (i := 5) hr_act (by rfl) (by first | exact Or.inl rfl | exact Or.inr (Or.inl rfl)) (pv 6)))))))))), ?_⟩
  refine ⟨_, rfl, t, v, d, rfl, hd, fun hb => ?_, fun hb => kN hb⟩
  obtain ⟨x, last, wa, ws, rfl, hk, hw, l3, hww, kV, kR⟩ := kG hb
  refine ⟨_, rfl, kA, x, _, rfl, rfl, hk, ?_⟩
  refine ⟨_, rfl, _, rfl, wa, _, rfl, hw H, fun e => absurd e (not_whole ws last), fun _ q hq => ?_⟩
  rw [cut_lastS]
  have s1 : Same H (upd H q (.tup (ws.map V.str))) := same_new hq
  generalize hH1 : upd H q (.tup (ws.map V.str)) = H1 at s1 ⊢
  have gq : H1 q = some (.tup (ws.map V.str)) := by rw [← hH1, upd_same]
  have lud := du.len
  refine ⟨_, rfl, p, _, rfl, SqT.of (s1 _ _ hp), for_it walk_enumT (fun i σ H' => Same H1 H' ∧ (∃ v3 v4, σ = [some (.str x), some (.ref p), some (.ref q), v3, v4, none, none]) ∧ firstBad ws 0 ds = firstBad ws i (ds.drop i)) ⟨Same.refl _, ⟨_, _, rfl⟩, rfl⟩ (fun i σ H' _ h => SqT.of (h.1 _ _ (s1 _ _ hp))) ?_ ?_⟩
  · rintro i y σ H2 H3 hi ⟨s2, ⟨v3, v4, rfl⟩, hf⟩ ⟨T, y1, y2, rfl, hT, rfl, ey, ez⟩
    have ey : y1 = .int (i : Int) := (Option.some.inj ey).symm
    subst ey
    obtain ⟨e, ee, de⟩ := da_at du ez
    have s3 : Same H1 (upd H2 T (.tup [.int (i : Int), y2])) := s2.trans (same_new hT)
    refine ⟨T, _, rfl, SqT.of upd_same, rfl, _, _, rfl, _, _, rfl, rfl, ?_⟩
    generalize upd H2 T (.tup [.int (i : Int), y2]) = H4 at s3 ⊢
    have gq3 := s3 _ _ gq
    have edr : ds.drop i = e :: ds.drop (i + 1) := by
      have hl := (List.getElem?_eq_some_iff.mp ee).1
      rw [List.drop_eq_getElem_cons hl, (List.getElem?_eq_some_iff.mp ee).2]
    rw [edr] at hf
    have hf : firstBad ws 0 ds = if badAt ws i e then some i else firstBad ws (i + 1) (ds.drop (i + 1)) := hf
    have fin : ∀ (H5 : Hp), Same H4 H5 → badAt ws i e = true → ∀ H' dx, Same H5 H' → H' dx = some (.xd [("index", .int (i : Int))]) → E (.ref CV) (some dx) H' := fun H5 s5 hbad H' dx s6 g => by
      rw [hbad] at hf
      exact kV i hf H' dx (s1.trans (s3.trans (s5.trans s6))) g
    refine ⟨_, rfl, _, rfl, .ref q, ws.length, rfl, .inr ⟨_, SqT.of gq3, by rw [List.length_map]⟩, _, _, rfl, rfl, _, rfl, ?_⟩
    by_cases c1 : i < ws.length
    · have ew : ws[i]? = some ws[i] := List.getElem?_eq_getElem c1
      refine iF (decide_eq_false (by omega)) ?_
      have so := hsee e (List.mem_of_getElem? ee)
      refine ⟨_, rfl, _, rfl, _, rfl, q, _, i, _, rfl, rfl, SqT.of gq3, (at_of rfl (by rw [List.getElem?_map, ew]; rfl)), t, y2, e, ws[i], rfl, de.kp (kp_same (s1.trans s3)), so.1, so.2, hww _ (List.getElem_mem c1), fun H' s' => ?_⟩
      have hbq : badAt ws i e = !plainB ws[i] e := by
        unfold badAt
        rw [ew]
      refine ⟨_, rfl, ?_⟩
      cases hp1 : plainB ws[i] e with
      | true =>
        rw [hp1] at hbq
        refine iF rfl ?_
        exact ⟨s3.trans s', ⟨_, _, rfl⟩, by rw [hf, hbq]; rfl⟩
      | false =>
        rw [hp1] at hbq
        refine iT rfl ?_
        exact ⟨_, rfl, raise_one X_InvalidValue (fin H' s' hbq)⟩
    · refine iT (decide_eq_true (by omega)) ?_
      have hbq : badAt ws i e = true := by
        unfold badAt
        rw [List.getElem?_eq_none (by omega)]
      exact ⟨_, rfl, raise_one X_InvalidValue (fin H4 (Same.refl _) hbq)⟩
  · rintro σ H2 ⟨s2, ⟨v3, v4, rfl⟩, hf⟩
    have gp := s2 _ _ (s1 _ _ hp)
    have gq2 := s2 _ _ gq
    rw [lud, List.drop_length] at hf
    have hf : firstBad ws 0 ds = if ds.length < ws.length then some ds.length else none := hf
    refine ⟨_, rfl, .ref p, us.length, rfl, .inr ⟨_, SqT.of gp, rfl⟩, _, rfl, .ref q, ws.length, rfl, .inr ⟨_, SqT.of gq2, by rw [List.length_map]⟩, _, _, rfl, rfl, _, rfl, ?_⟩
    by_cases c1 : ds.length < ws.length
    · rw [if_pos c1] at hf
      refine iT (decide_eq_true (by omega)) ?_
      refine ⟨_, rfl, .ref p, us.length, rfl, .inr ⟨_, SqT.of gp, rfl⟩, ?_⟩
      exact raise_one X_InvalidValue fun H' dx s3 g => kV _ hf H' dx (s1.trans (s2.trans s3)) (by rw [← lud]; exact g)
    · rw [if_neg c1] at hf
      obtain ⟨f2, sp, cs, ha, hD, lc, hcs, k⟩ := kR hf
      refine iF (decide_eq_false (by omega)) ?_
      refine ⟨_, rfl, aA, x, _, rfl, rfl, ha, ?_⟩
      refine ⟨_, rfl, p, rfl, ⟨_, SqT.of gp⟩, fun D hD2 => lc_it walk_tup (fun i H' => Same H2 H' ∧ H' D = some (.lst (cs.take i))) ⟨same_new hD2, upd_same⟩ (fun i H' _ h => SqT.of (h.1 _ _ gp)) ?_ ?_⟩
      · rintro i y H3 H4 hi ⟨s3, g3⟩ ⟨rfl, ey⟩
        have ec : cs[i]? = some (cs[i]'(by omega)) := List.getElem?_eq_getElem (by omega)
        obtain ⟨a, s0, rfl, ga⟩ := hcs i _ _ ey ec
        refine ⟨rfl, ?_⟩
        refine ⟨_, rfl, a, _, 1, _, rfl, rfl, SqT.of (s3 _ _ (s2 _ _ (s1 _ _ ga))), rfl, _, g3, szl (by simp; omega), fun b o e => ?_, ?_⟩
        · rw [upd_ne (ne_of_none e hD2)]
          exact s3 _ _ e
        · rw [upd_same, List.take_add_one, ec]
          rfl
      · rintro H3 ⟨s3, g3⟩
        rw [List.take_of_length_le (by omega)] at g3
        exact ⟨f2, sp, rfl, hD, _, rfl, D, cs, rfl, .inr (SqL.of g3), k H3 (s1.trans (s2.trans s3))⟩
end
end L3

/-! a if t else b as a test -/
namespace L3
open PySem PySem.Spec PyProof.Rows L2
def tIfT (tC tA tB : TT) : TT := fun σ H Q => tC σ H fun d H1 => if d = true then tA σ H1 Q else tB σ H1 Q
theorem pt_ifExp {X : Cx} {c a b : Expr} {pos : Pos} {tC tA tB : TT} (hc : PT X c tC) (ha : PT X a tA) (hb : PT X b tB) : PT X (.IfExp c a b pos) (tIfT tC tA tB) := by
  refine ⟨fun pins s σ H Q I h => ?_⟩
  show wpAny _ _ (do if ← isTrue c X.env (eval c X.env) then isTrue a X.env (eval a X.env) else isTrue b X.env (eval b X.env)) _ _ s
  refine wpAny_bind (wpAny_mono (hc.run pins s σ H _ I h) (fun d s1 ⟨H1, I1, q1⟩ => ?_) fun _ _ e => e)
  cases d with
  | true => exact ha.run pins s1 σ H1 Q I1 q1
  | false => exact hb.run pins s1 σ H1 Q I1 q1
end L3

namespace L3
open PySem L2 StX
/-- the words of a primitive's arguments -/
def rowW (x : Str) : List Str := if x = "size" then ["text"] else if x = "spell" then ["whole"] else if x = "join" ∨ x = "eqtext" ∨ x = "uptotext" then ["text", "text"] else ["whole", "whole"]
/-- the word of its result -/
def rowL (x : Str) : Str := if x = "join" ∨ x = "spell" then "text" else if x = "equal" ∨ x = "upto" ∨ x = "eqtext" ∨ x = "uptotext" then "truth" else "whole"
theorem nm_cases {x : Str} (h : x ∈ nmL) : x = "plus" ∨ x = "minus" ∨ x = "times" ∨ x = "equal" ∨ x = "upto" ∨ x = "join" ∨ x = "size" ∨ x = "eqtext" ∨ x = "uptotext" ∨ x = "spell" := by
  unfold nmL at h
  simp only [List.mem_cons, List.not_mem_nil, or_false] at h
  exact h
section
variable {P : Program} {w : World} {K : PySem.W.Frag} {mg : Str → Option Value} {base : Heap}
abbrev s__law_sorts : Stmt := topS 79
abbrev N__law_sorts : List Str := ["_law_which"]
theorem sc__law_sorts : FnScope N__law_sorts ["_law_which"] (defScope s__law_sorts) := ⟨rfl, rfl, rfl, by decide +kernel, rfl, by decide +kernel, by decide +kernel⟩
def spSorts : Sp := fun vs H Q _ => ∃ x : Str, vs = [.str x] ∧ x ∈ nmL ∧ ∀ H' l, Same H H' → H l = none → H' l = some (.lst ((rowW x ++ [rowL x]).map V.str)) → Q (.ref l) H'
theorem ok_sorts {f : Addr} {fd : FuncData} (F : Fun K "_law_sorts" "_law_sorts" s__law_sorts f fd) : FnOk P w K mg base CX0 1 f fd ["_law_which"] spSorts := by
  refine F.ok sc__law_sorts (fun vs H Q E h => ?_) (fun cdv A outer s H vs Q E hr h => ?_)
  · obtain ⟨x, rfl, _⟩ := h
    rfl
  · obtain ⟨x, rfl, hx, k⟩ := h
    refine ⟨_, (pss_cons (ps_if (pt_cmpR op_in_seq (pv 0) (pe_tup (pa_cons pe_str (pa_cons pe_str (pa_cons pe_str pa_nil)))) (by rfl))
  (pss_one (ps_ret (pe_lst (pa_cons pe_str (pa_cons pe_str (pa_cons pe_str pa_nil))))))
  pss_nil)
  (pss_cons (ps_if (pt_cmpR op_in_seq (pv 0) (pe_tup (pa_cons pe_str (pa_cons pe_str (pa_cons pe_str pa_nil)))) (by rfl))
  (pss_one (ps_ret (pe_lst (pa_cons pe_str (pa_cons pe_str (pa_cons (pe_ifExp (pt_cmpR op_eq (pv 0) pe_str (nomark _)) pe_str pe_str) pa_nil))))))
  pss_nil)
  (pss_cons (ps_if (pt_cmpR op_in_seq (pv 0) (pe_tup (pa_cons pe_str (pa_cons pe_str pa_nil))) (by rfl))
  (pss_one (ps_ret (pe_ifExp (pt_cmpR op_eq (pv 0) pe_str (nomark _)) (pe_lst (pa_cons pe_str (pa_cons pe_str pa_nil))) (pe_lst (pa_cons pe_str (pa_cons pe_str pa_nil))))))
  pss_nil)
  (pss_one (ps_ret (pe_lst (pa_cons pe_str (pa_cons pe_str (pa_cons pe_str pa_nil))))))))), ?_⟩
    have fin : ∀ (H' : Hp) (ys : List Str), Same H H' → ys = rowW x ++ [rowL x] → ys.length ≤ sizeLine ∧ ∀ l, H' l = none → Q (.ref l) (upd H' l (.lst (ys.map V.str))) := fun H' ys s1 e => ⟨by
        rw [e]
        have : (rowW x ++ [rowL x]).length ≤ 3 := by
          rcases nm_cases hx with rfl | rfl | rfl | rfl | rfl | rfl | rfl | rfl | rfl | rfl <;> decide +kernel
        exact Nat.le_trans this (by rw [sizeLine_eq]; omega), fun l hl => k _ l (s1.trans (same_new hl)) (s1.free hl) (by rw [upd_same, e])⟩
    have inn : ∀ (H' : Hp) (p : Addr) (ys : List Str) (R : VK), H' p = some (.tup (ys.map V.str)) → R (.bl (decide (x ∈ ys))) H' → rIn K false (.str x) (.ref p) H' R := fun H' p ys R hp r => by
      refine ⟨p, _, rfl, .inr (SqT.of hp), rfl, ?_, ?_⟩
      · rw [List.all_eq_true]
        intro v hv
        obtain ⟨y, _, rfl⟩ := List.mem_map.mp hv
        rfl
      · show R (.bl (inV (.str x) (ys.map V.str))) H'
        rw [inV_words]
        exact r
    refine ⟨_, rfl, slz rfl, fun p1 hp1 => inn _ p1 ["plus", "minus", "times"] _ upd_same ⟨_, rfl, ?_⟩⟩
    have s1 := same_new (o := .tup [.str "plus", .str "minus", .str "times"]) hp1
    by_cases c1 : x ∈ (["plus", "minus", "times"] : List Str)
    · refine iT (decide_eq_true c1) ?_
      simp only [List.mem_cons, List.not_mem_nil, or_false] at c1
      exact fin _ ["whole", "whole", "whole"] s1 (by rcases c1 with rfl | rfl | rfl <;> decide +kernel)
    refine iF (decide_eq_false c1) ?_
    refine ⟨_, rfl, slz rfl, fun p2 hp2 => inn _ p2 ["join", "eqtext", "uptotext"] _ upd_same ⟨_, rfl, ?_⟩⟩
    have s2 := s1.trans (same_new (o := .tup [.str "join", .str "eqtext", .str "uptotext"]) hp2)
    by_cases c2 : x ∈ (["join", "eqtext", "uptotext"] : List Str)
    · refine iT (decide_eq_true c2) ?_
      simp only [List.mem_cons, List.not_mem_nil, or_false] at c2
      refine ⟨_, rfl, rfl, _, rfl, ?_⟩
      rcases c2 with rfl | rfl | rfl
      · refine iT (by decide +kernel) ?_
        exact fin _ ["text", "text", "text"] s2 (by decide +kernel)
      · refine iF (by decide +kernel) ?_
        exact fin _ ["text", "text", "truth"] s2 (by decide +kernel)
      · refine iF (by decide +kernel) ?_
        exact fin _ ["text", "text", "truth"] s2 (by decide +kernel)
    refine iF (decide_eq_false c2) ?_
    refine ⟨_, rfl, slz rfl, fun p3 hp3 => inn _ p3 ["size", "spell"] _ upd_same ⟨_, rfl, ?_⟩⟩
    have s3 := s2.trans (same_new (o := .tup [.str "size", .str "spell"]) hp3)
    by_cases c3 : x ∈ (["size", "spell"] : List Str)
    · refine iT (decide_eq_true c3) ?_
      simp only [List.mem_cons, List.not_mem_nil, or_false] at c3
      refine ⟨_, rfl, rfl, _, rfl, ?_⟩
      rcases c3 with rfl | rfl
      · refine iT (by decide +kernel) ?_
        exact fin _ ["text", "whole"] s3 (by decide +kernel)
      · refine iF (by decide +kernel) ?_
        exact fin _ ["whole", "text"] s3 (by decide +kernel)
    refine iF (decide_eq_false c3) ?_
    have c4 : x = "equal" ∨ x = "upto" := by
      simp only [List.mem_cons, List.not_mem_nil, or_false, not_or] at c1 c2 c3
      rcases nm_cases hx with h | h | h | h | h | h | h | h | h | h
      · exact absurd h c1.1
      · exact absurd h c1.2.1
      · exact absurd h c1.2.2
      · exact .inl h
      · exact .inr h
      · exact absurd h c2.1
      · exact absurd h c3.1
      · exact absurd h c2.2.1
      · exact absurd h c2.2.2
      · exact absurd h c3.2
    exact fin _ ["whole", "whole", "truth"] s3 (by rcases c4 with rfl | rfl <;> decide +kernel)
theorem made_da {H : Hp} {e a : Addr} {wd : Str} (ha : (upd H e (.tup [])) a = none) : Da 0 (upd (upd H e (.tup [])) a (.tup [.str "made", .str wd, .ref e])) (.ref a) (.tuple [.str "made", .str wd, .tuple []]) :=
  .tup upd_same (.cons (.str _) (.cons (.str _) (.cons (.tup (by rw [upd_ne (ne_of_none upd_same ha)]; exact upd_same) .nil) .nil)))
theorem clp_if (n : Int) : (if (if n < 10 ^ 30 then n else (10 ^ 30 : Int)) > -(10 ^ 30) then (if n < 10 ^ 30 then n else (10 ^ 30 : Int)) else -(10 ^ 30)) = clp n := by
  unfold clp
  generalize (10 ^ 30 : Int) = b
  omega
/-- what a primitive makes of contents -/
inductive Res : Str → V → V → PyData → Prop where
  | plus (i j : Int) : i.natAbs < 2 ^ 100 → j.natAbs < 2 ^ 100 → Res "plus" (.int i) (.int j) (.tuple [.str "whole", .int (clp (i + j))])
  | minus (i j : Int) : i.natAbs < 2 ^ 100 → j.natAbs < 2 ^ 100 → Res "minus" (.int i) (.int j) (.tuple [.str "whole", .int (clp (i - j))])
  | times (i j : Int) : i.natAbs < 2 ^ 100 → j.natAbs < 2 ^ 100 → Res "times" (.int i) (.int j) (.tuple [.str "whole", .int (clp (i * j))])
  | equal (i j : Int) : Res "equal" (.int i) (.int j) (.tuple [.str "made", .str (if decide (i = j) then "yes" else "no"), .tuple []])
  | upto (i j : Int) : Res "upto" (.int i) (.int j) (.tuple [.str "made", .str (if decide (i ≤ j) then "yes" else "no"), .tuple []])
  | join (x y : Str) : x.length ≤ 200 → y.length ≤ 200 → Res "join" (.str x) (.str y) (.tuple [.str "text", .str (cutS (x ++ y) none (some 200))])
  | size (x : Str) : x.length ≤ 200 → Res "size" (.str x) (.str x) (.tuple [.str "whole", .int x.length])
  | eqtext (x y : Str) : Res "eqtext" (.str x) (.str y) (.tuple [.str "made", .str (if decide (x = y) then "yes" else "no"), .tuple []])
  | uptotext (x y : Str) : Res "uptotext" (.str x) (.str y) (.tuple [.str "made", .str (if leS x y then "yes" else "no"), .tuple []])
  | spell (i : Int) : i.natAbs < 2 ^ 100 → Res "spell" (.int i) (.int i) (.tuple [.str "text", .str (toString i)])
abbrev s__law_made : Stmt := topS 78
abbrev N__law_made : List Str := ["_law_which", "_law_one", "_law_other", "_law_found"]
theorem sc__law_made : FnScope N__law_made ["_law_which", "_law_one", "_law_other"] (defScope s__law_made) := ⟨rfl, rfl, rfl, by decide +kernel, rfl, by decide +kernel, by decide +kernel⟩
def spLMade : Sp := fun vs H Q _ => ∃ (x : Str) (c1 c2 : V) (r : PyData), vs = [.str x, c1, c2] ∧ Res x c1 c2 r ∧ ∀ H' v, Same H H' → Da 0 H' v r → Q v H'
theorem ok_lmade {f : Addr} {fd : FuncData} (F : Fun K "_law_made" "_law_made" s__law_made f fd) (B : Bl mg) (B9 : Bl9 mg) (M : Mp mg) : FnOk P w K mg base CX0 1 f fd ["_law_which", "_law_one", "_law_other"] spLMade := by
  refine F.ok sc__law_made (fun vs H Q E h => ?_) (fun cdv A outer s H vs Q E hr h => ?_)
  · obtain ⟨x, c1, c2, r, rfl, _⟩ := h
    rfl
  · obtain ⟨x, c1, c2, r, rfl, hr1, k⟩ := h
    refine ⟨_, (pss_cons (ps_if (pt_cmpR op_in_seq (pv 0) (pe_tup (pa_cons pe_str (pa_cons pe_str (pa_cons pe_str pa_nil)))) (by rfl))
  (pss_cons (ps_set (i := 3) sc__law_made.nd rfl (Or.inl rfl) (pe_ifExp (pt_cmpR op_eq (pv 0) pe_str (nomark _)) (pe_op (op_or op_add op_add_str) (pv 1) (pv 2)) (pe_ifExp (pt_cmpR op_eq (pv 0) pe_str (nomark _)) (pe_op op_sub (pv 1) (pv 2)) (pe_op op_mulW (pv 1) (pv 2)))))
  (pss_one (ps_ret (pe_tup (pa_cons pe_str (pa_cons (pe_callB (call_max2 rfl) (by rfl) B9.max PyProof.Rows.boot_max (pa_cons (pe_un un_neg (pe_op op_pow pe_int pe_int)) (pa_cons (pe_callB (call_min2 rfl) (by rfl) M.min PyProof.Rows.boot_min (pa_cons (pe_op op_pow pe_int pe_int) (pa_cons (pv 3) pa_nil))) pa_nil))) pa_nil))))))
  pss_nil)
  (pss_cons (ps_if (pt_cmpR op_in_seq (pv 0) (pe_tup (pa_cons pe_str (pa_cons pe_str pa_nil))) (by rfl))
  (pss_one (ps_ret (pe_tup (pa_cons pe_str (pa_cons (pe_ifExp (pt_cmpR op_eq (pv 0) pe_str (nomark _)) (pe_slice sl_str (pe_op (op_or op_add op_add_str) (pv 1) (pv 2)) po_none (po_some pe_int)) (pe_callTy call_str_int (by rfl) B9.str_ PyProof.Rows.boot_str (pa_cons (pv 1) pa_nil))) pa_nil)))))
  pss_nil)
  (pss_cons (ps_if (pt_cmpR op_eq (pv 0) pe_str (nomark _))
  (pss_one (ps_ret (pe_tup (pa_cons pe_str (pa_cons (pe_callB call_len (by rfl) B.len PySem.boot_len (pa_cons (pv 1) pa_nil)) pa_nil)))))
  pss_nil)
  (pss_one (ps_ret (pe_tup (pa_cons pe_str (pa_cons (pe_ifExp (pt_ifExp (pt_cmpR op_in_seq (pv 0) (pe_tup (pa_cons pe_str (pa_cons pe_str pa_nil))) (by rfl)) (pt_cmpR op_eq (pv 1) (pv 2) (nomark _)) (pt_cmpR (op_or op_le op_le_str) (pv 1) (pv 2) (nomark _))) pe_str pe_str) (pa_cons (pe_tup pa_nil) pa_nil))))))))), ?_⟩
    have inn : ∀ (x : Str) (H' : Hp) (p : Addr) (ys : List Str) (R : VK), H' p = some (.tup (ys.map V.str)) → R (.bl (decide (x ∈ ys))) H' → rIn K false (.str x) (.ref p) H' R := fun x H' p ys R hp r => by
      refine ⟨p, _, rfl, .inr (SqT.of hp), rfl, ?_, ?_⟩
      · rw [List.all_eq_true]
        intro v hv
        obtain ⟨y, _, rfl⟩ := List.mem_map.mp hv
        rfl
      · show R (.bl (inV (.str x) (ys.map V.str))) H'
        rw [inV_words]
        exact r
    refine ⟨_, rfl, slz rfl, fun p1 hp1 => inn x _ p1 ["plus", "minus", "times"] _ upd_same ⟨_, rfl, ?_⟩⟩
    have s1 := same_new (o := .tup [.str "plus", .str "minus", .str "times"]) hp1
    cases hr1 with
    | plus i j b1 b2 =>
      refine iT (by decide +kernel) ?_
      refine ⟨_, rfl, rfl, _, rfl, ?_⟩
      refine iT (by decide +kernel) ?_
      refine ⟨_, rfl, _, rfl, .inl ⟨_, _, rfl, rfl, ?_⟩⟩
      refine ⟨10, 30, rfl, rfl, ⟨by decide, by decide, by decide⟩, _, rfl, 10, 30, rfl, rfl, ⟨by decide, by decide, by decide⟩, _, rfl, _, _, rfl, _, _, rfl, slz rfl, fun a ha => ?_⟩
      refine k _ _ (s1.trans (same_new ha)) (.tup upd_same (.cons (.str _) (.cons ?_ .nil)))
      exact (clp_if (i + j)) ▸ .int _
    | minus i j b1 b2 =>
      refine iT (by decide +kernel) ?_
      refine ⟨_, rfl, rfl, _, rfl, ?_⟩
      refine iF (by decide +kernel) ?_
      refine ⟨_, rfl, rfl, _, rfl, ?_⟩
      refine iT (by decide +kernel) ?_
      refine ⟨_, rfl, _, rfl, _, _, rfl, rfl, ?_⟩
      refine ⟨10, 30, rfl, rfl, ⟨by decide, by decide, by decide⟩, _, rfl, 10, 30, rfl, rfl, ⟨by decide, by decide, by decide⟩, _, rfl, _, _, rfl, _, _, rfl, slz rfl, fun a ha => ?_⟩
      refine k _ _ (s1.trans (same_new ha)) (.tup upd_same (.cons (.str _) (.cons ?_ .nil)))
      exact (clp_if (i - j)) ▸ .int _
    | times i j b1 b2 =>
      refine iT (by decide +kernel) ?_
      refine ⟨_, rfl, rfl, _, rfl, ?_⟩
      refine iF (by decide +kernel) ?_
      refine ⟨_, rfl, rfl, _, rfl, ?_⟩
      refine iF (by decide +kernel) ?_
      refine ⟨_, rfl, _, rfl, _, _, rfl, rfl, wide_mul b1 b2 (by omega) (by omega) (by omega), ?_⟩
      refine ⟨10, 30, rfl, rfl, ⟨by decide, by decide, by decide⟩, _, rfl, 10, 30, rfl, rfl, ⟨by decide, by decide, by decide⟩, _, rfl, _, _, rfl, _, _, rfl, slz rfl, fun a ha => ?_⟩
      refine k _ _ (s1.trans (same_new ha)) (.tup upd_same (.cons (.str _) (.cons ?_ .nil)))
      exact (clp_if (i * j)) ▸ .int _
    | join x y l1 l2 =>
      refine iF (by decide +kernel) ?_
      refine ⟨_, rfl, slz rfl, fun p2 hp2 => inn _ _ p2 ["join", "spell"] _ upd_same ⟨_, rfl, ?_⟩⟩
      have s2 := s1.trans (same_new (o := .tup [.str "join", .str "spell"]) hp2)
      refine iT (by decide +kernel) ?_
      refine ⟨_, rfl, rfl, _, rfl, ?_⟩
      refine iT (by decide +kernel) ?_
      refine ⟨_, rfl, _, rfl, .inr ⟨_, _, rfl, rfl, by rw [sizeLine_eq]; omega, ?_⟩⟩
      refine ⟨_, rfl, x ++ y, rfl, ?_, ?_⟩
      · rw [Str.length_append, sizeLine_eq]
        omega
      exact ⟨slz rfl, fun a ha => k _ _ (s2.trans (same_new ha)) (.tup upd_same (.cons (.str _) (.cons (.str _) .nil)))⟩
    | spell i b1 =>
      refine iF (by decide +kernel) ?_
      refine ⟨_, rfl, slz rfl, fun p2 hp2 => inn _ _ p2 ["join", "spell"] _ upd_same ⟨_, rfl, ?_⟩⟩
      have s2 := s1.trans (same_new (o := .tup [.str "join", .str "spell"]) hp2)
      refine iT (by decide +kernel) ?_
      refine ⟨_, rfl, rfl, _, rfl, ?_⟩
      refine iF (by decide +kernel) ?_
      refine ⟨_, rfl, i, rfl, ?_, ?_⟩
      · exact Nat.lt_of_lt_of_le (PySem.Flt.log2_lt_of (by decide) b1) (by decide)
      exact ⟨slz rfl, fun a ha => k _ _ (s2.trans (same_new ha)) (.tup upd_same (.cons (.str _) (.cons (.str _) .nil)))⟩
    | size x l1 =>
      refine iF (by decide +kernel) ?_
      refine ⟨_, rfl, slz rfl, fun p2 hp2 => inn _ _ p2 ["join", "spell"] _ upd_same ⟨_, rfl, ?_⟩⟩
      have s2 := s1.trans (same_new (o := .tup [.str "join", .str "spell"]) hp2)
      refine iF (by decide +kernel) ?_
      refine ⟨_, rfl, rfl, _, rfl, ?_⟩
      refine iT (by decide +kernel) ?_
      refine ⟨_, rfl, _, _, rfl, ⟨by rw [sizeLine_eq]; omega, rfl⟩, ?_⟩
      exact ⟨slz rfl, fun a ha => k _ _ (s2.trans (same_new ha)) (.tup upd_same (.cons (.str _) (.cons (.int _) .nil)))⟩
    | equal i j =>
      refine iF (by decide +kernel) ?_
      refine ⟨_, rfl, slz rfl, fun p2 hp2 => inn _ _ p2 ["join", "spell"] _ upd_same ⟨_, rfl, ?_⟩⟩
      have s2 := s1.trans (same_new (o := .tup [.str "join", .str "spell"]) hp2)
      refine iF (by decide +kernel) ?_
      refine ⟨_, rfl, rfl, _, rfl, ?_⟩
      refine iF (by decide +kernel) ?_
      refine ⟨_, rfl, slz rfl, fun p3 hp3 => inn _ _ p3 ["equal", "eqtext"] _ upd_same ⟨_, rfl, ?_⟩⟩
      have s3 := s2.trans (same_new (o := .tup [.str "equal", .str "eqtext"]) hp3)
      refine iT (by decide +kernel) ?_
      refine ⟨_, rfl, _, rfl, rfl, decide (i = j), by simp, ?_⟩
      cases hb : decide (i = j) with
      | true =>
        rw [hb] at k
        refine iT rfl ?_
        exact ⟨slz rfl, fun e he => ⟨slz rfl, fun a ha => k _ _ (s3.trans ((same_new he).trans (same_new ha))) (made_da ha)⟩⟩
      | false =>
        rw [hb] at k
        refine iF rfl ?_
        exact ⟨slz rfl, fun e he => ⟨slz rfl, fun a ha => k _ _ (s3.trans ((same_new he).trans (same_new ha))) (made_da ha)⟩⟩
    | eqtext x y =>
      refine iF (by decide +kernel) ?_
      refine ⟨_, rfl, slz rfl, fun p2 hp2 => inn _ _ p2 ["join", "spell"] _ upd_same ⟨_, rfl, ?_⟩⟩
      have s2 := s1.trans (same_new (o := .tup [.str "join", .str "spell"]) hp2)
      refine iF (by decide +kernel) ?_
      refine ⟨_, rfl, rfl, _, rfl, ?_⟩
      refine iF (by decide +kernel) ?_
      refine ⟨_, rfl, slz rfl, fun p3 hp3 => inn _ _ p3 ["equal", "eqtext"] _ upd_same ⟨_, rfl, ?_⟩⟩
      have s3 := s2.trans (same_new (o := .tup [.str "equal", .str "eqtext"]) hp3)
      refine iT (by decide +kernel) ?_
      refine ⟨_, rfl, _, rfl, rfl, decide (x = y), by simp, ?_⟩
      cases hb : decide (x = y) with
      | true =>
        rw [hb] at k
        refine iT rfl ?_
        exact ⟨slz rfl, fun e he => ⟨slz rfl, fun a ha => k _ _ (s3.trans ((same_new he).trans (same_new ha))) (made_da ha)⟩⟩
      | false =>
        rw [hb] at k
        refine iF rfl ?_
        exact ⟨slz rfl, fun e he => ⟨slz rfl, fun a ha => k _ _ (s3.trans ((same_new he).trans (same_new ha))) (made_da ha)⟩⟩
    | upto i j =>
      refine iF (by decide +kernel) ?_
      refine ⟨_, rfl, slz rfl, fun p2 hp2 => inn _ _ p2 ["join", "spell"] _ upd_same ⟨_, rfl, ?_⟩⟩
      have s2 := s1.trans (same_new (o := .tup [.str "join", .str "spell"]) hp2)
      refine iF (by decide +kernel) ?_
      refine ⟨_, rfl, rfl, _, rfl, ?_⟩
      refine iF (by decide +kernel) ?_
      refine ⟨_, rfl, slz rfl, fun p3 hp3 => inn _ _ p3 ["equal", "eqtext"] _ upd_same ⟨_, rfl, ?_⟩⟩
      have s3 := s2.trans (same_new (o := .tup [.str "equal", .str "eqtext"]) hp3)
      refine iF (by decide +kernel) ?_
      refine ⟨_, rfl, _, rfl, .inl ⟨_, _, rfl, rfl, decide (i ≤ j), rfl, ?_⟩⟩
      cases hb : decide (i ≤ j) with
      | true =>
        rw [hb] at k
        refine iT rfl ?_
        exact ⟨slz rfl, fun e he => ⟨slz rfl, fun a ha => k _ _ (s3.trans ((same_new he).trans (same_new ha))) (made_da ha)⟩⟩
      | false =>
        rw [hb] at k
        refine iF rfl ?_
        exact ⟨slz rfl, fun e he => ⟨slz rfl, fun a ha => k _ _ (s3.trans ((same_new he).trans (same_new ha))) (made_da ha)⟩⟩
    | uptotext x y =>
      refine iF (by decide +kernel) ?_
      refine ⟨_, rfl, slz rfl, fun p2 hp2 => inn _ _ p2 ["join", "spell"] _ upd_same ⟨_, rfl, ?_⟩⟩
      have s2 := s1.trans (same_new (o := .tup [.str "join", .str "spell"]) hp2)
      refine iF (by decide +kernel) ?_
      refine ⟨_, rfl, rfl, _, rfl, ?_⟩
      refine iF (by decide +kernel) ?_
      refine ⟨_, rfl, slz rfl, fun p3 hp3 => inn _ _ p3 ["equal", "eqtext"] _ upd_same ⟨_, rfl, ?_⟩⟩
      have s3 := s2.trans (same_new (o := .tup [.str "equal", .str "eqtext"]) hp3)
      refine iF (by decide +kernel) ?_
      refine ⟨_, rfl, _, rfl, .inr ⟨_, _, rfl, rfl, leS x y, rfl, ?_⟩⟩
      cases hb : leS x y with
      | true =>
        rw [hb] at k
        refine iT rfl ?_
        exact ⟨slz rfl, fun e he => ⟨slz rfl, fun a ha => k _ _ (s3.trans ((same_new he).trans (same_new ha))) (made_da ha)⟩⟩
      | false =>
        rw [hb] at k
        refine iF rfl ?_
        exact ⟨slz rfl, fun e he => ⟨slz rfl, fun a ha => k _ _ (s3.trans ((same_new he).trans (same_new ha))) (made_da ha)⟩⟩
end
end L3

/-! literals with an operator in them; a text times a number -/
namespace L3
open PySem PySem.Spec PyProof.Rows L2
/-- a text so often -/
def repS (x : Str) (n : Nat) : Str := ⟨(List.replicate n x.cps).foldl (· ++ ·) #[]⟩
theorem repS_len (x : Str) (n : Nat) : (repS x n).length = x.length * n := by
  have h : ∀ (k : Nat) (acc : Array Nat), ((List.replicate k x.cps).foldl (· ++ ·) acc).size = acc.size + x.length * k := by
    intro k
    induction k with
    | zero => intro acc; simp
    | succ k ih =>
      intro acc
      rw [List.replicate_succ, List.foldl_cons, ih, Array.size_append, Nat.mul_succ]
      show acc.size + x.length + _ = _
      omega
  have := h n #[]
  show ((List.replicate n x.cps).foldl (· ++ ·) #[]).size = _
  rw [this]
  simp
section
variable {X : Cx}
/-- a text that is not empty times a number above 1 -/
def rRepS : R2 := fun x y H Q => ∃ (a : Str) (k : Int), x = .str a ∧ y = .int k ∧ 2 ≤ k ∧ k ≤ 100000 ∧ 1 ≤ a.length ∧ a.length * k.toNat ≤ sizeLine ∧ Q (.str (repS a k.toNat)) H
theorem op_repS : OpR X (binaryOp .Mult) rRepS := by
  intro pins s σ H x y v u Q I rx ry h
  obtain ⟨a, k, rfl, rfl, k2, k3, l1, lz, q⟩ := h
  obtain ⟨t, rfl⟩ := (show ∃ t, v = Value.str a t from rx)
  obtain ⟨t', rfl⟩ := (show ∃ t, u = Value.int k t from ry)
  have n1 : (k == 1 || a.length == 0) = false := by
    rw [Bool.or_eq_false_iff]
    refine ⟨?_, ?_⟩
    · rw [beq_eq_false_iff_ne]
      omega
    · rw [beq_eq_false_iff_ne]
      omega
  refine PySem.P.mul_str ?_ (fun _ _ => ?_) (fun _ _ => ?_) ?_
  · rw [decide_eq_false (by omega), decide_eq_false (by omega)]
    rfl
  · have e : ((a.length * k.toNat : Nat) : Int) = (a.length : Int) * k := by
      rw [Int.natCast_mul, Int.toNat_of_nonneg (by omega)]
    have hz : ((a.length * k.toNat : Nat) : Int) ≤ (sizeLine : Int) := by omega
    rw [sizeLine_eq] at hz
    have : (a.length : Int) ≤ (2 ^ 63 - 1) / k := by
      rw [Int.le_ediv_iff_mul_le (by omega)]
      omega
    omega
  · exact decide_eq_false (by omega)
  · rw [if_neg (by omega), n1, if_neg Bool.false_ne_true]
    refine ⟨?_, ⟨.str (repS a k.toNat), H, I.tok _, ⟨_, rfl⟩, q⟩⟩
    show (repS a k.toNat).length ≤ sizeLine
    rw [repS_len]
    exact lz
end
section
variable {X : Cx} {e e2 : Expr} {pos : Pos} {t : Addr} {i j : Int}
theorem da_int {H : Hp} {v : V} (h : Da t H v (.int i)) : v = .int i := by cases h; rfl
theorem pl_negE (h : PE X e (tLit t (.int i))) : PE X (.UnaryOp .USub e pos) (tLit t (.int (-i))) :=
  (pe_un un_neg h).weak fun σ H Q ⟨ho, q⟩ => ⟨ho, fun H1 v s1 d1 => ⟨i, da_int d1, q H1 _ s1 (.int _)⟩⟩
theorem pl_addI (h : PE X e (tLit t (.int i))) (h2 : PE X e2 (tLit t (.int j))) : PE X (.BinOp e .Add e2 pos) (tLit t (.int (i + j))) :=
  (pe_op op_add h h2).weak fun σ H Q ⟨⟨o, ho⟩, q⟩ => ⟨⟨o, ho⟩, fun H1 v s1 d1 => ⟨⟨o, s1 _ _ ho⟩, fun H2 v2 s2 d2 => ⟨i, j, da_int d1, da_int d2, q H2 _ (s1.trans s2) (.int _)⟩⟩⟩
theorem pl_subI (h : PE X e (tLit t (.int i))) (h2 : PE X e2 (tLit t (.int j))) : PE X (.BinOp e .Sub e2 pos) (tLit t (.int (i - j))) :=
  (pe_op op_sub h h2).weak fun σ H Q ⟨⟨o, ho⟩, q⟩ => ⟨⟨o, ho⟩, fun H1 v s1 d1 => ⟨⟨o, s1 _ _ ho⟩, fun H2 v2 s2 d2 => ⟨i, j, da_int d1, da_int d2, q H2 _ (s1.trans s2) (.int _)⟩⟩⟩
theorem pl_rep {x : Str} {k : Int} (h : PE X e (tC (.str x))) (h2 : PE X e2 (tC (.int k))) (c : 2 ≤ k ∧ k ≤ 100000 ∧ 1 ≤ x.length ∧ x.length * k.toNat ≤ 100000 := by decide) : PE X (.BinOp e .Mult e2 pos) (tLit t (.str (repS x k.toNat))) :=
  (pe_op op_repS h h2).weak fun σ H Q ⟨_, q⟩ => ⟨x, k, rfl, rfl, c.1, c.2.1, c.2.2.1, Nat.le_trans c.2.2.2 (by decide), q H _ (Same.refl H) (.str _)⟩
end
/-- a new list, which is not the table of modules -/
def tLstN (t : TA) : TE := fun σ H Q => t σ H fun xs H1 => xs.length ≤ sizeLine ∧ ∀ p, H1 p = none → p ≠ sysModules → Q (.ref p) (upd H1 p (.lst xs))
theorem pe_lstN {X : Cx} {es : List Expr} {t : TA} {pos : Pos} (h : PA X es t) : PE X (.List es pos) (tLstN t) := by
  refine ⟨fun pins s σ H Q I hq => ?_⟩
  refine wpAny_List_spliced (thn (h.run pos pins s σ H (fun vs H1 => vs.length ≤ sizeLine ∧ ∀ p, H1 p = none → p ≠ sysModules → Q (.ref p) (upd H1 p (.lst vs))) I hq) fun us s1 ⟨xs, H1, I1, r, lz, kk⟩ => ⟨by rw [← r.length]; exact lz, ?_⟩)
  have hf : H1 s1.heap.objs.size = none := I1.hok.fresh (Nat.le_refl _)
  refine ⟨.ref s1.heap.objs.size, upd H1 s1.heap.objs.size (.lst xs), I1.laid (t' := s1.toks) (fun b u e => Heap.get?_push_of_some _ e) (Nat.le_refl _) ?_, rfl, kk _ hf (Nat.ne_of_gt I1.big)⟩
  exact ⟨lz, us, 0, r, Heap.get?_push_size _ rfl⟩
end L3

/-! any text times a number from 1 on -/
namespace L3
open PySem PySem.Spec PyProof.Rows L2
def repT (a : Str) (k : Int) : Str := if k = 1 ∨ a.length = 0 then a else repS a k.toNat
def rRepT : R2 := fun x y H Q => ∃ (a : Str) (k : Int), x = .str a ∧ y = .int k ∧ 1 ≤ k ∧ k ≤ 100000 ∧ a.length * k.toNat ≤ sizeLine ∧ Q (.str (repT a k)) H
theorem op_repT {X : Cx} : OpR X (binaryOp .Mult) rRepT := by
  intro pins s σ H x y v u Q I rx ry h
  obtain ⟨a, k, rfl, rfl, k1, k3, lz, q⟩ := h
  by_cases c : k = 1 ∨ a.length = 0
  · unfold repT at q
    rw [if_pos c] at q
    obtain ⟨t, rfl⟩ := (show ∃ t, v = Value.str a t from rx)
    obtain ⟨t', rfl⟩ := (show ∃ t, u = Value.int k t from ry)
    have n1 : (k == 1 || a.length == 0) = true := by
      rw [Bool.or_eq_true, beq_iff_eq, beq_iff_eq]
      exact c
    refine PySem.P.mul_str ?_ (fun _ _ => ?_) (fun _ _ => ?_) ?_
    · rw [decide_eq_false (by omega), decide_eq_false (by omega)]
      rfl
    · have e : ((a.length * k.toNat : Nat) : Int) = (a.length : Int) * k := by
        rw [Int.natCast_mul, Int.toNat_of_nonneg (by omega)]
      have hz : ((a.length * k.toNat : Nat) : Int) ≤ (sizeLine : Int) := by omega
      rw [sizeLine_eq] at hz
      have : (a.length : Int) ≤ (2 ^ 63 - 1) / k := by
        rw [Int.le_ediv_iff_mul_le (by omega)]
        omega
      omega
    · exact decide_eq_false (by omega)
    · rw [if_neg (by omega), n1, if_pos rfl]
      exact ⟨.str a, H, I, ⟨_, rfl⟩, q⟩
  · unfold repT at q
    rw [if_neg c] at q
    have c1 : ¬ k = 1 := fun z => c (.inl z)
    have c2 : ¬ a.length = 0 := fun z => c (.inr z)
    exact op_repS pins s σ H (.str a) (.int k) v u Q I rx ry ⟨a, k, rfl, rfl, by omega, k3, by omega, lz, q⟩
/-- the signs of a text -/
def sgs (p : Nat → Bool) (x : Str) : Bool := x.cps.toList.all p
theorem sgs_rep {p : Nat → Bool} {x : Str} (h : sgs p x = true) (n : Nat) : sgs p (repS x n) = true := by
  have key : ∀ (k : Nat) (acc : Array Nat), acc.toList.all p = true → ((List.replicate k x.cps).foldl (· ++ ·) acc).toList.all p = true := by
    intro k
    induction k with
    | zero => intro acc ha; exact ha
    | succ k ih =>
      intro acc ha
      rw [List.replicate_succ, List.foldl_cons]
      refine ih _ ?_
      rw [Array.toList_append, List.all_append, ha]
      exact h
  exact key n #[] rfl
theorem sgs_repT {p : Nat → Bool} {x : Str} (h : sgs p x = true) (k : Int) : sgs p (repT x k) = true := by
  unfold repT
  split
  · exact h
  · exact sgs_rep h _
theorem sgs_app {p : Nat → Bool} {x y : Str} (h1 : sgs p x = true) (h2 : sgs p y = true) : sgs p (x ++ y) = true := by
  show ((x.cps ++ y.cps).toList.all p) = true
  rw [Array.toList_append, List.all_append]
  exact Bool.and_eq_true_iff.mpr ⟨h1, h2⟩
theorem sgs_cut {p : Nat → Bool} {x : Str} (h : sgs p x = true) (lo hi : Option Int) : sgs p (cutS x lo hi) = true := by
  unfold sgs cutS
  show List.all (List.toArray _).toList p = true
  rw [List.toList_toArray, List.all_eq_true]
  intro c hc
  exact List.all_eq_true.mp h c (List.mem_of_mem_drop (List.mem_of_mem_take hc))
theorem cut200 (x : Str) : (cutS x none (some 200)).length ≤ 200 := by
  show (List.toArray _).size ≤ 200
  rw [List.size_toArray, List.length_take, HT.sIx_none, show (200 : Int) = ((200 : Nat) : Int) from rfl, HT.sIx_nat]
  omega
theorem repT_len (x : Str) (k : Int) (h : 1 ≤ k) : (repT x k).length ≤ x.length * k.toNat := by
  unfold repT
  split
  · exact Nat.le_mul_of_pos_right _ (by omega)
  · exact Nat.le_of_eq (repS_len _ _)
end L3

namespace L3
open PySem L2 StX
def alQ (c : Nat) : Bool := c == 97 || c == 98 || c == 126 || c == 32 || c == 90 || c == 57 || c == 34 || c == 120
theorem alQ_sgnT {c : Nat} (h : alQ c = true) : sgnT c = true := by
  unfold alQ at h
  simp only [Bool.or_eq_true, beq_iff_eq] at h
  rcases h with ((((((rfl | rfl) | rfl) | rfl) | rfl) | rfl) | rfl) | rfl <;> decide
theorem sgs_joinS {p : Nat → Bool} : ∀ {ys : List Str}, (∀ y ∈ ys, sgs p y = true) → sgs p (Str.join "" ys) = true
  | [], _ => rfl
  | [x], h => h x List.mem_cons_self
  | x :: y :: r, h => by
    have ih := sgs_joinS (ys := y :: r) fun z hz => h z (List.mem_cons_of_mem _ hz)
    show sgs p (x ++ "" ++ Str.join "" (y :: r)) = true
    exact sgs_app (sgs_app (h x List.mem_cons_self) rfl) ih
theorem len_joinS : ∀ {ys : List Str}, (∀ y ∈ ys, y.length = 1) → (Str.join "" ys).length ≤ ys.length
  | [], _ => by decide
  | [x], h => by
    show x.length ≤ 1
    rw [h x List.mem_cons_self]
    exact Nat.le_refl 1
  | x :: y :: r, h => by
    have ih := len_joinS (ys := y :: r) fun z hz => h z (List.mem_cons_of_mem _ hz)
    show (x ++ "" ++ Str.join "" (y :: r)).length ≤ _
    rw [Str.length_append, Str.length_append, h x List.mem_cons_self]
    have : ("" : Str).length = 0 := rfl
    simp only [List.length_cons] at ih ⊢
    omega
theorem big100 {n : Int} (h1 : -(1000000000000000000000000000000) ≤ n) (h2 : n ≤ 1000000000000000000000000000000) : n.natAbs < 2 ^ 100 := by
  have e : (2 : Nat) ^ 100 = 1267650600228229401496703205376 := by decide
  rw [e]
  omega
theorem e30 : (10 : Int) ^ 30 = 1000000000000000000000000000000 := by decide
theorem Str.join_txt (y : Str) (l : List Str) : Txt.join y l = Str.join y l := by
  exact TL.join_eq y l
theorem sum_one : ∀ {ys : List Str}, (∀ y ∈ ys, y.length = 1) → (ys.map (·.length)).sum = ys.length
  | [], _ => rfl
  | y :: r, h => by
    rw [List.map_cons, List.sum_cons, h y List.mem_cons_self, sum_one fun z hz => h z (List.mem_cons_of_mem _ hz), List.length_cons]
    omega
/-- a value that the law gives, of this word -/
inductive Smp : Str → V → PyData → Prop where
  | whole (i : Int) : -(10 ^ 30) ≤ i → i ≤ 10 ^ 30 → Smp "whole" (.int i) (.tuple [.str "whole", .int i])
  | text (x : Str) : x.length ≤ 200 → sgs alQ x = true → Smp "text" (.str x) (.tuple [.str "text", .str x])
section
variable {P : Program} {w : World} {K : PySem.W.Frag} {mg : Str → Option Value} {base : Heap}
abbrev s__law_sample : Stmt := topS 80
abbrev N__law_sample : List Str := ["_law_tape", "_law_sort", "_law_near", "_law_found", "_law_k"]
theorem sc__law_sample : FnScope N__law_sample ["_law_tape", "_law_sort"] (defScope s__law_sample) := ⟨rfl, rfl, rfl, by decide +kernel, rfl, by decide +kernel, by decide +kernel⟩
def spSample (K : PySem.W.Frag) : Sp := fun vs H Q _ => ∃ (t c : Addr) (sort : Str) (b : Nat), vs = [.ref t, .str sort] ∧ (sort = "whole" ∨ sort = "text") ∧ Tape K H t c (b + 7) ∧
  ∀ (H' : Hp) (a : Addr) (u : V) (d : PyData), Ext t H H' → Tape K H' t c b → H a = none → H' a = some (.tup [.str sort, u]) → Smp sort u d → Q (.ref a) H'
theorem ok_sample {f : Addr} {fd : FuncData} (F : Fun K "_law_sample" "_law_sample" s__law_sample f fd) (B : Bl mg) (B9 : Bl9 mg) (D__law_draw : Kn P w K mg base 1 "_law_draw" ["_law_tape", "_law_many"] (spDraw K)) (D__law_pick : Kn P w K mg base 2 "_law_pick" ["_law_tape", "_law_items"] (spPick2 K)) : FnOk P w K mg base CX0 3 f fd ["_law_tape", "_law_sort"] (spSample K) := by
  refine F.ok sc__law_sample (fun vs H Q E h => ?_) (fun cdv A outer s H vs Q E hr h => ?_)
  · obtain ⟨t, c, sort, b, rfl, _⟩ := h
    rfl
  · obtain ⟨t, c, sort, b, rfl, hs, T0, k⟩ := h
    have hr__law_draw : Room 1 _ := hr.mono (by decide)
    have hr__law_pick : Room 2 _ := hr
    refine ⟨_, (pss_cons (ps_if (pt_cmpR op_eq (pv 1) pe_str (nomark _))
  (pss_cons (ps_set (i := 2) sc__law_sample.nd rfl (Or.inl rfl) (pe_kn D__law_pick hr__law_pick (pa_cons (pv 0) (pa_cons (pe_lst (pa_cons pe_int (pa_cons (pe_op op_pow pe_int pe_int) (pa_cons (pe_op op_pow pe_int pe_int) (pa_cons (pe_op op_pow pe_int pe_int) pa_nil))))) pa_nil))))
  (pss_cons (ps_set (i := 3) sc__law_sample.nd rfl (Or.inl rfl) (pe_op op_mulW (pe_op op_sub (pv 2) (pe_kn D__law_draw hr__law_draw (pa_cons (pv 0) (pa_cons pe_int pa_nil)))) (pe_kn D__law_pick hr__law_pick (pa_cons (pv 0) (pa_cons (pe_lst (pa_cons pe_int (pa_cons (pe_un un_neg pe_int) pa_nil))) pa_nil)))))
  (pss_one (ps_ret (pe_tup (pa_cons pe_str (pa_cons (pe_kn D__law_pick hr__law_pick (pa_cons (pv 0) (pa_cons (pe_lst (pa_cons (pv 3) (pa_cons (pv 3) (pa_cons (pe_kn D__law_draw hr__law_draw (pa_cons (pv 0) (pa_cons (pe_op op_pow pe_int pe_int) pa_nil))) (pa_cons (pe_callB (call_max2 rfl) (by rfl) B9.max PyProof.Rows.boot_max (pa_cons (pv 3) (pa_cons (pe_un un_neg pe_int) pa_nil))) pa_nil))))) pa_nil))) pa_nil)))))))
  pss_nil)
  (pss_cons (ps_set (i := 3) sc__law_sample.nd rfl (Or.inl rfl) (pe_join pe_str (pe_lc (own := [("_law_k", 4)]) rfl sc__law_sample.nd (pi_range1 (by rfl) B.range (pa_cons (pe_kn D__law_draw hr__law_draw (pa_cons (pv 0) (pa_cons pe_int pa_nil))) pa_nil)) (blkOk_by (N := N__law_sample) (sc := (defScope s__law_sample)) (own := [("_law_k", 4)]) (by decide +kernel)) (fun _ _ _ _ _ => (pg_name (i := 4) sc__law_sample.nd rfl (Or.inl rfl))) (fun _ _ _ _ _ => pts_nil) (fun _ _ _ _ _ => (pe_kn D__law_pick hr__law_pick (pa_cons (pv 0) (pa_cons pe_str pa_nil)))))))
  (pss_one (ps_ret (pe_tup (pa_cons pe_str (pa_cons (pe_slice sl_str (pe_kn D__law_pick hr__law_pick (pa_cons (pv 0) (pa_cons (pe_lst (pa_cons (pv 3) (pa_cons (pv 3) (pa_cons (pv 3) (pa_cons (pe_op op_repT (pe_op op_add_str (pv 3) pe_str) pe_int) pa_nil))))) pa_nil))) po_none (po_some pe_int)) pa_nil))))))), ?_⟩
    refine ⟨_, rfl, rfl, _, rfl, ?_⟩
    rcases hs with rfl | rfl
    · refine iT (by decide +kernel) ?_
      refine ⟨_, rfl, 10, 30, rfl, rfl, ⟨by decide, by decide, by decide⟩, 10, 15, rfl, rfl, ⟨by decide, by decide, by decide⟩, 10, 29, rfl, rfl, ⟨by decide, by decide, by decide⟩, slz rfl, fun p1 hp1 => ?_⟩
      refine .inl ⟨t, c, p1, _, b + 6, rfl, SqL.of upd_same, by decide, by decide, T0.new hp1, fun H1 v1 e1 t1 m1 => ?_⟩
      have E1 := (Ext.new hp1).trans e1
      obtain ⟨i, hi, rfl⟩ : ∃ i : Int, (0 ≤ i ∧ i ≤ 10 ^ 30) ∧ v1 = .int i := by
        obtain ⟨x, mx, rfl⟩ := List.mem_map.mp (show v1 ∈ ([0, 10 ^ 30, 10 ^ 15, 10 ^ 29] : List Int).map V.int from m1)
        exact ⟨x, (show ∀ x ∈ ([0, 10 ^ 30, 10 ^ 15, 10 ^ 29] : List Int), 0 ≤ x ∧ x ≤ 10 ^ 30 by decide +kernel) x mx, rfl⟩
      refine ⟨_, rfl, _, rfl, t, c, 4, b + 5, rfl, by decide, by decide, t1, fun H2 r e2 t2 r1 r2 => ?_⟩
      have E2 := E1.trans e2
      refine ⟨_, _, rfl, rfl, ?_⟩
      refine ⟨_, rfl, _, rfl, slz rfl, fun p2 hp2 => ?_⟩
      refine .inl ⟨t, c, p2, _, b + 4, rfl, SqL.of upd_same, by decide, by decide, t2.new hp2, fun H3 v3 e3 t3 m3 => ?_⟩
      have E3 := E2.trans ((Ext.new hp2).trans e3)
      obtain ⟨s, hs, rfl⟩ : ∃ s : Int, (s = 1 ∨ s = -1) ∧ v3 = .int s := by
        obtain ⟨x, mx, rfl⟩ := List.mem_map.mp (show v3 ∈ ([1, -1] : List Int).map V.int from m3)
        exact ⟨x, (show ∀ x ∈ ([1, -1] : List Int), x = 1 ∨ x = -1 by decide +kernel) x mx, rfl⟩
      rw [e30] at hi
      have q1 : -(1000000000000000000000000000000) ≤ (i - r) * s := by rcases hs with rfl | rfl <;> omega
      have q2 : (i - r) * s ≤ 1000000000000000000000000000000 := by rcases hs with rfl | rfl <;> omega
      refine ⟨_, _, rfl, rfl, wide_mul (big100 (by omega) (by omega)) (show s.natAbs < 2 ^ 100 by rcases hs with rfl | rfl <;> decide) (by omega) (by omega) (by omega), ?_⟩
      refine ⟨_, rfl, _, rfl, _, rfl, _, rfl, 10, 30, rfl, rfl, ⟨by decide, by decide, by decide⟩, t, c, _, b + 3, rfl, by decide, by decide, t3, fun H4 r4 e4 t4 r5 r6 => ?_⟩
      have E4 := E3.trans e4
      refine ⟨_, rfl, _, rfl, _, _, rfl, slz rfl, fun p3 hp3 => ?_⟩
      refine .inl ⟨t, c, p3, _, b + 2, rfl, SqL.of upd_same, (show 0 < 4 by decide), (show 4 < 1000000 by decide), t4.new hp3, fun H5 v5 e5 t5 m5 => ?_⟩
      have E5 := E4.trans ((Ext.new hp3).trans e5)
      obtain ⟨m, hm, rfl⟩ : ∃ m : Int, (-(10 ^ 30) ≤ m ∧ m ≤ 10 ^ 30) ∧ v5 = .int m := by
        rw [e30]
        have r6 : r4 < 1000000000000000000000000000000 := r6
        rcases List.mem_cons.mp m5 with rfl | m5
        · exact ⟨(i - r) * s, ⟨q1, q2⟩, rfl⟩
        rcases List.mem_cons.mp m5 with rfl | m5
        · exact ⟨(i - r) * s, ⟨q1, q2⟩, rfl⟩
        rcases List.mem_cons.mp m5 with rfl | m5
        · exact ⟨r4, ⟨by omega, by omega⟩, rfl⟩
        rcases List.mem_cons.mp m5 with rfl | m5
        · refine ⟨_, ⟨?_, ?_⟩, rfl⟩
          · generalize (i - r) * s = n at q1 q2 ⊢
            split <;> omega
          · generalize (i - r) * s = n at q1 q2 ⊢
            split <;> omega
        · cases m5
      refine ⟨slz rfl, fun a ha => ?_⟩
      exact k _ a _ _ (E5.trans (Ext.new ha)) ((t5.less (by omega)).new ha) (E5.free (t5.ne ha) ha) upd_same (.whole m hm.1 hm.2)
    · refine iF (by decide +kernel) ?_
      refine ⟨⟨_, rfl⟩, _, rfl, t, c, 6, b + 6, rfl, by decide, by decide, T0, fun H1 r e1 t1 r1 r2 => ?_⟩
      refine ⟨r, rfl, by omega, by omega, fun D hD => ?_⟩
      have nD : D ≠ t := t1.ne hD
      refine lc_range (lo := 0) (n := r.toNat) (fun i H' => Ext t H1 H' ∧ Tape K H' t c (b + 1 + (r.toNat - i)) ∧ ∃ ys : List Str, H' D = some (.lst (ys.map V.str)) ∧ ys.length = i ∧ ∀ y ∈ ys, y.length = 1 ∧ sgs alQ y = true) ⟨Ext.new hD, (t1.less (by omega)).new hD, [], upd_same, rfl, nofun⟩ (fun i H' hi ⟨e2, t2, ys, g, l, m⟩ => ⟨rfl, ?_⟩) (fun H' ⟨e2, t2, ys, g, l, m⟩ => ?_)
      · refine ⟨_, rfl, .inr ⟨t, c, "ab~ Z9\"", b + 1 + (r.toNat - (i + 1)), rfl, by decide +kernel, by decide +kernel, t2.less (by omega), fun H3 z e3 t3 mz => ?_⟩⟩
        have g3 := e3 _ _ nD g
        refine ⟨_, g3, szl (by rw [List.length_map]; omega), (e2.trans e3).upd hD, Tape.put t1 (e2.trans e3) t3 hD, ys ++ [⟨#[z]⟩], by rw [upd_same, List.map_append]; rfl, by rw [List.length_append, l]; rfl, fun y hy => ?_⟩
        rcases List.mem_append.mp hy with hy | hy
        · exact m y hy
        · obtain rfl := List.mem_singleton.mp hy
          refine ⟨rfl, ?_⟩
          have : ∀ z ∈ ("ab~ Z9\"" : Str).cps.toList, alQ z = true := by decide +kernel
          show ([z] : List Nat).all alQ = true
          rw [List.all_cons, this z mz]
          rfl
      · have lj : (Txt.join "" ys).length ≤ 5 := by
          rw [Str.join_txt]
          have := len_joinS fun y hy => (m y hy).1
          omega
        have sj : sgs alQ (Txt.join "" ys) = true := by
          rw [Str.join_txt]
          exact sgs_joinS fun y hy => (m y hy).2
        refine ⟨"", D, ys, rfl, rfl, .inl (SqL.of g), ?_, ?_⟩
        · have hsum := sum_one fun y hy => (m y hy).1
          rw [hsum]
          have : ("" : Str).length = 0 := rfl
          rw [this]
          omega
        generalize Txt.join "" ys = x at lj sj ⊢
        refine ⟨_, rfl, _, rfl, _, rfl, _, rfl, _, rfl, x, "x", rfl, rfl, by rw [sizeLine_eq]; have : ("x" : Str).length = 1 := rfl; omega, x ++ "x", 200, rfl, rfl, by decide, by decide, ?_, slz rfl, fun p3 hp3 => ?_⟩
        · rw [Str.length_append, sizeLine_eq]
          have : ("x" : Str).length = 1 := rfl
          have e2 : (200 : Int).toNat = 200 := rfl
          rw [this, e2]
          omega
        have sx : sgs alQ (x ++ "x") = true := sgs_app sj (by decide +kernel)
        refine .inl ⟨t, c, p3, _, b, rfl, SqL.of upd_same, (show 0 < 4 by decide), (show 4 < 1000000 by decide), (t2.less (by omega)).new hp3, fun H5 v5 e5 t5 m5 => ?_⟩
        obtain ⟨y, ly, sy, rfl⟩ : ∃ y : Str, y.length ≤ 1200 ∧ sgs alQ y = true ∧ v5 = .str y := by
          rcases List.mem_cons.mp m5 with rfl | m5
          · exact ⟨x, by omega, sj, rfl⟩
          rcases List.mem_cons.mp m5 with rfl | m5
          · exact ⟨x, by omega, sj, rfl⟩
          rcases List.mem_cons.mp m5 with rfl | m5
          · exact ⟨x, by omega, sj, rfl⟩
          rcases List.mem_cons.mp m5 with rfl | m5
          · refine ⟨_, ?_, sgs_repT sx 200, rfl⟩
            have h1 := repT_len (x ++ "x") 200 (by decide)
            rw [Str.length_append] at h1
            have : ("x" : Str).length = 1 := rfl
            have e2 : (200 : Int).toNat = 200 := rfl
            rw [this, e2] at h1
            omega
          · cases m5
        refine ⟨_, rfl, y, rfl, by rw [sizeLine_eq]; omega, slz rfl, fun a ha => ?_⟩
        exact k _ a _ _ (((e1.trans e2).trans ((Ext.new hp3).trans e5)).trans (Ext.new ha)) (t5.new ha) ((e1.trans (e2.trans ((Ext.new hp3).trans e5))).free (t5.ne ha) ha) upd_same (.text _ (cut200 y) (sgs_cut sy _ _))
end
end L3

namespace L3
open PySem L2 StX
def oddA : List PyData := [.tuple [.str "made", .str "yes", .tuple []], .tuple [.str "function"], .none, .int 5, .str "a", .list [], .dict [], .tuple [], .tuple [.str "whole"]]
def oddB : List PyData := [.tuple [.str "whole", .int (10 ^ 30 + 1)], .tuple [.str "whole", .int (-(10 ^ 30) - 1)], .tuple [.str "whole", .bool true], .tuple [.str "whole", .str "1"], .list [.str "whole", .int 1]]
def oddC : List PyData := [.tuple [.str "text", .str (repS "a" 201)], .tuple [.str "text", .int 3], .tuple [.str "text", .str "a", .str "b"], .tuple [.str "text", .none], .tuple [.str "text", .str "a\nb"], .list [.str "text", .str "a"]]
def oddD : List PyData := [.tuple [.str "number", .int 1], .tuple [.int 1, .int 1], .tuple [.none, .str "a"], .tuple [.str "text", .list [.str "a"]], .bool true]
def odds : List PyData := oddA ++ oddB ++ oddC ++ oddD
theorem kp_ext {K : PySem.W.Frag} {t c : Addr} {b : Nat} {H H' : Hp} (e : Ext t H H') (T : Tape K H t c b) : Kp t H H' := by
  obtain ⟨_, _, _, h, _⟩ := T
  exact ⟨fun a xs g => e a _ (fun z => by rw [z, h] at g; cases g) g, fun a xs g => e a _ (fun z => by rw [z, h] at g; cases g) g, fun a kvs n g => e a _ n g⟩
theorem Smp.da {t : Addr} {H : Hp} {sort : Str} {u : V} {d : PyData} {a : Addr} (h : Smp sort u d) (g : H a = some (.tup [.str sort, u])) : Da t H (.ref a) d := by
  cases h with
  | whole i _ _ => exact .tup g (.cons (.str _) (.cons (.int _) .nil))
  | text x _ _ => exact .tup g (.cons (.str _) (.cons (.str _) .nil))
def othS (sort : Str) : Str := if sort = "whole" then "text" else "whole"
section
variable {P : Program} {w : World} {K : PySem.W.Frag} {mg : Str → Option Value} {base : Heap}
abbrev s__law_odd : Stmt := topS 81
abbrev N__law_odd : List Str := ["_law_tape", "_law_sort", "_law_other", "_law_some"]
theorem sc__law_odd : FnScope N__law_odd ["_law_tape", "_law_sort"] (defScope s__law_odd) := ⟨rfl, rfl, rfl, by decide +kernel, rfl, by decide +kernel, by decide +kernel⟩
def spOdd (K : PySem.W.Frag) : Sp := fun vs H Q _ => ∃ (t c : Addr) (sort : Str) (b : Nat), vs = [.ref t, .str sort] ∧ (sort = "whole" ∨ sort = "text") ∧ Tape K H t c (b + 8) ∧
  ∀ (H' : Hp) (v : V) (d : PyData), Ext t H H' → Tape K H' t c b → Da t H' v d → (d ∈ odds ∨ ∃ u, Smp (othS sort) u d) → Q v H'
theorem ok_odd {f : Addr} {fd : FuncData} (F : Fun K "_law_odd" "_law_odd" s__law_odd f fd) (D__law_pick : Kn P w K mg base 2 "_law_pick" ["_law_tape", "_law_items"] (spPick2 K)) (D__law_sample : Kn P w K mg base 3 "_law_sample" ["_law_tape", "_law_sort"] (spSample K)) : FnOk P w K mg base CX0 4 f fd ["_law_tape", "_law_sort"] (spOdd K) := by
  refine F.ok sc__law_odd (fun vs H Q E h => ?_) (fun cdv A outer s H vs Q E hr h => ?_)
  · obtain ⟨t, c, sort, b, rfl, _⟩ := h
    rfl
  · obtain ⟨t, c, sort, b, rfl, hs, T, k⟩ := h
    have hr__law_pick : Room 2 _ := hr.mono (by decide)
    have hr__law_sample : Room 3 _ := hr
    refine ⟨_, (pss_cons (ps_set (i := 2) sc__law_odd.nd rfl (Or.inl rfl) (pe_ifExp (pt_cmpR op_eq (pv 1) pe_str (nomark _)) pe_str pe_str))
  (pss_cons (ps_set (i := 3) sc__law_odd.nd rfl (Or.inl rfl) (pe_lst (pa_cons (pe_kn D__law_sample hr__law_sample (pa_cons (pv 0) (pa_cons (pv 2) pa_nil))) (pa_cons (pe_tup (pa_cons pe_str (pa_cons pe_str (pa_cons (pe_tup pa_nil) pa_nil)))) (pa_cons (pe_tup (pa_cons pe_str pa_nil)) (pa_cons pe_non (pa_cons pe_int (pa_cons pe_str (pa_cons (pe_lstN pa_nil) (pa_cons pe_dnewK (pa_cons (pe_tup pa_nil) (pa_cons (pe_tup (pa_cons pe_str pa_nil)) pa_nil))))))))))))
  (pss_cons (ps_set (i := 3) sc__law_odd.nd rfl (Or.inl rfl) (pe_op op_cat (pv 3) (pl_lstL (t := t) (pl_cons (pl_tup (pl_cons (pl_c pe_str fun _ => .str _) (pl_cons (pl_addI (pl_pow pe_int pe_int ⟨by decide, by decide, by decide⟩) (pl_c pe_int fun _ => .int _)) pl_nil))) (pl_cons (pl_tup (pl_cons (pl_c pe_str fun _ => .str _) (pl_cons (pl_subI (pl_negE (pl_pow pe_int pe_int ⟨by decide, by decide, by decide⟩)) (pl_c pe_int fun _ => .int _)) pl_nil))) (pl_cons (pl_tup (pl_cons (pl_c pe_str fun _ => .str _) (pl_cons (pl_c pe_bl fun _ => .bl _) pl_nil))) (pl_cons (pl_tup (pl_cons (pl_c pe_str fun _ => .str _) (pl_cons (pl_c pe_str fun _ => .str _) pl_nil))) (pl_cons (pl_lst (pl_cons (pl_c pe_str fun _ => .str _) (pl_cons (pl_c pe_int fun _ => .int _) pl_nil))) pl_nil))))))))
  (pss_cons (ps_set (i := 3) sc__law_odd.nd rfl (Or.inl rfl) (pe_op op_cat (pv 3) (pl_lstL (t := t) (pl_cons (pl_tup (pl_cons (pl_c pe_str fun _ => .str _) (pl_cons (pl_rep pe_str pe_int) pl_nil))) (pl_cons (pl_tup (pl_cons (pl_c pe_str fun _ => .str _) (pl_cons (pl_c pe_int fun _ => .int _) pl_nil))) (pl_cons (pl_tup (pl_cons (pl_c pe_str fun _ => .str _) (pl_cons (pl_c pe_str fun _ => .str _) (pl_cons (pl_c pe_str fun _ => .str _) pl_nil)))) (pl_cons (pl_tup (pl_cons (pl_c pe_str fun _ => .str _) (pl_cons (pl_c pe_non fun _ => .non) pl_nil))) (pl_cons (pl_tup (pl_cons (pl_c pe_str fun _ => .str _) (pl_cons (pl_c pe_str fun _ => .str _) pl_nil))) (pl_cons (pl_lst (pl_cons (pl_c pe_str fun _ => .str _) (pl_cons (pl_c pe_str fun _ => .str _) pl_nil))) pl_nil)))))))))
  (pss_one (ps_ret (pe_kn D__law_pick hr__law_pick (pa_cons (pv 0) (pa_cons (pe_op op_cat (pv 3) (pl_lstL (t := t) (pl_cons (pl_tup (pl_cons (pl_c pe_str fun _ => .str _) (pl_cons (pl_c pe_int fun _ => .int _) pl_nil))) (pl_cons (pl_tup (pl_cons (pl_c pe_int fun _ => .int _) (pl_cons (pl_c pe_int fun _ => .int _) pl_nil))) (pl_cons (pl_tup (pl_cons (pl_c pe_non fun _ => .non) (pl_cons (pl_c pe_str fun _ => .str _) pl_nil))) (pl_cons (pl_tup (pl_cons (pl_c pe_str fun _ => .str _) (pl_cons (pl_lst (pl_cons (pl_c pe_str fun _ => .str _) pl_nil)) pl_nil))) (pl_cons (pl_c pe_bl fun _ => .bl _) pl_nil))))))) pa_nil))))))))), ?_⟩
    have hT : ∀ {H' : Hp} {b : Nat}, Tape K H' t c b → ∃ o, H' t = some o := fun T => by
      obtain ⟨_, _, _, h, _⟩ := T
      exact ⟨_, h⟩
    refine ⟨_, rfl, rfl, _, rfl, ?_⟩
    have rest : ∀ (H1 H2 : Hp) (l : Addr) (vs : List V) (d1 : PyData), Ext t H H1 → Tape K H1 t c (b + 1) → Same H1 H2 → H2 l = some (.lst vs) → DaAll t H2 vs (d1 :: oddA) → (d1 ∈ odds ∨ ∃ u, Smp (othS sort) u d1) → tSeq (tAsg (tOp rCat (tVar 3) (tLitL t oddB)) (gName 3)) (tSeq (tAsg (tOp rCat (tVar 3) (tLitL t oddC)) (gName 3)) (tRet (tCall (spPick2 K) [] E0 (tCons (tVar 0) (tCons (tOp rCat (tVar 3) (tLitL t oddD)) tNil))))) { nx := fun x H' => Q V.non H', rt := Q } [some (.ref t), some (.str sort), some (.str (othS sort)), some (.ref l)] H2 := fun H1 H2 l vs1 d1 e1 t1 s1 g1 dd1 hd1 => by
      have T1 := t1.same s1
      refine ⟨_, rfl, hT T1, fun H3 l3 vs3 s3 n3 g3 d3 => ?_⟩
      refine ⟨l, l3, vs1, vs3, rfl, rfl, s3 _ _ g1, g3, by rw [dd1.len, d3.len, sizeLine_eq]; exact Nat.le_of_ble_eq_true rfl, fun p hp => ?_⟩
      have s4 := same_new (o := .lst (vs1 ++ vs3)) hp
      have d13 : DaAll t (upd H3 p (.lst (vs1 ++ vs3))) (vs1 ++ vs3) (d1 :: oddA ++ oddB) := (DaAll.app (dd1.kp (kp_same s3)) d3).kp (kp_same s4)
      have g4 : (upd H3 p (.lst (vs1 ++ vs3))) p = some (.lst (vs1 ++ vs3)) := upd_same
      have S4 := s3.trans s4
      have T4 := T1.same S4
      generalize upd H3 p (.lst (vs1 ++ vs3)) = H4 at d13 g4 S4 T4 ⊢
      refine ⟨_, rfl, hT T4, fun H5 l5 vs5 s5 n5 g5 d5 => ?_⟩
      refine ⟨p, l5, _, vs5, rfl, rfl, s5 _ _ g4, g5, by rw [d13.len, d5.len, sizeLine_eq]; exact Nat.le_of_ble_eq_true rfl, fun p6 hp6 => ?_⟩
      have s6 := same_new (o := .lst (vs1 ++ vs3 ++ vs5)) hp6
      have d15 : DaAll t (upd H5 p6 (.lst (vs1 ++ vs3 ++ vs5))) (vs1 ++ vs3 ++ vs5) (d1 :: oddA ++ oddB ++ oddC) := (DaAll.app (d13.kp (kp_same s5)) d5).kp (kp_same s6)
      have g6 : (upd H5 p6 (.lst (vs1 ++ vs3 ++ vs5))) p6 = some (.lst (vs1 ++ vs3 ++ vs5)) := upd_same
      have S6 := S4.trans (s5.trans s6)
      have T6 := T1.same S6
      generalize upd H5 p6 (.lst (vs1 ++ vs3 ++ vs5)) = H6 at d15 g6 S6 T6 ⊢
      refine ⟨_, rfl, _, rfl, hT T6, fun H7 l7 vs7 s7 n7 g7 d7 => ?_⟩
      refine ⟨p6, l7, _, vs7, rfl, rfl, s7 _ _ g6, g7, by rw [d15.len, d7.len, sizeLine_eq]; exact Nat.le_of_ble_eq_true rfl, fun p8 hp8 => ?_⟩
      have s8 := same_new (o := .lst (vs1 ++ vs3 ++ vs5 ++ vs7)) hp8
      have d18 : DaAll t (upd H7 p8 (.lst (vs1 ++ vs3 ++ vs5 ++ vs7))) (vs1 ++ vs3 ++ vs5 ++ vs7) (d1 :: odds) := (DaAll.app (d15.kp (kp_same s7)) d7).kp (kp_same s8)
      have g8 : (upd H7 p8 (.lst (vs1 ++ vs3 ++ vs5 ++ vs7))) p8 = some (.lst (vs1 ++ vs3 ++ vs5 ++ vs7)) := upd_same
      have S8 := S6.trans (s7.trans s8)
      have T8 := T1.same S8
      generalize upd H7 p8 (.lst (vs1 ++ vs3 ++ vs5 ++ vs7)) = H8 at d18 g8 S8 T8 ⊢
      refine .inl ⟨t, c, p8, _, b, rfl, SqL.of g8, by rw [d18.len]; exact Nat.le_of_ble_eq_true rfl, by rw [d18.len]; exact Nat.le_of_ble_eq_true rfl, T8, fun H9 v e9 T9 hv => ?_⟩
      obtain ⟨d, hd, dv⟩ := d18.mem hv
      have he : d ∈ odds ∨ ∃ u, Smp (othS sort) u d := by
        rcases List.mem_cons.mp hd with rfl | hd
        · exact hd1
        · exact .inl hd
      exact k H9 v d ((e1.trans (same_ext (s1.trans S8))).trans e9) T9 (dv.kp (kp_ext e9 T8)) he
    rcases hs with rfl | rfl
    · refine iT (by decide +kernel) ?_
      refine ⟨_, rfl, _, rfl, t, c, "text", b + 1, rfl, .inr rfl, T, fun H1 a1 u1 d1 e1 t1 n1 g1 m1 => ?_⟩
      refine ⟨slz rfl, fun q1 hq1 => ⟨slz rfl, fun p1 hp1 => ⟨slz rfl, fun p2 hp2 => ⟨slz rfl, fun p3 hp3 np3 => fun p4 hp4 => ⟨slz rfl, fun p5 hp5 => ⟨slz rfl, fun p6 hp6 => ⟨slz rfl, fun l hl => ?_⟩⟩⟩⟩⟩⟩⟩
      have s1 := same_new (o := .tup []) hq1
      have s2 := same_new (o := .tup [.str "made", .str "yes", .ref q1]) hp1
      have s3 := same_new (o := .tup [.str "function"]) hp2
      have s4 := same_new (o := .lst []) hp3
      have s5 := same_new (o := .dK []) hp4
      have s6 := same_new (o := .tup []) hp5
      have s7 := same_new (o := .tup [.str "whole"]) hp6
      have s8 := same_new (o := .lst [.ref a1, .ref p1, .ref p2, .non, .int 5, .str "a", .ref p3, .ref p4, .ref p5, .ref p6]) hl
      have S78 := s7.trans s8
      have S68 := s6.trans S78
      have S58 := s5.trans S68
      have S48 := s4.trans S58
      have S38 := s3.trans S48
      have S28 := s2.trans S38
      have S18 := s1.trans S28
      have n4 : p4 ≠ t := ((((t1.same s1).same s2).same s3).same s4).ne hp4
      have d10 := DaAll.cons (m1.da (t := t) (S18 _ _ g1)) (DaAll.cons (Da.tup (S38 _ _ upd_same) (.cons (.str _) (.cons (.str _) (.cons (.tup (S28 _ _ upd_same) .nil) .nil)))) (DaAll.cons (Da.tup (S48 _ _ upd_same) (.cons (.str _) .nil)) (DaAll.cons .non (DaAll.cons (.int 5) (DaAll.cons (.str "a") (DaAll.cons (Da.lst (S58 _ _ upd_same) np3 .nil) (DaAll.cons (Da.dct (S68 _ _ upd_same) n4 .nil) (DaAll.cons (Da.tup (S78 _ _ upd_same) .nil) (DaAll.cons (Da.tup (s8 _ _ upd_same) (.cons (.str _) .nil)) .nil)))))))))
      have g0 : (upd (upd (upd (upd (upd (upd (upd (upd H1 q1 (.tup [])) p1 (.tup [.str "made", .str "yes", .ref q1])) p2 (.tup [.str "function"])) p3 (.lst [])) p4 (.dK [])) p5 (.tup [])) p6 (.tup [.str "whole"])) l (.lst [.ref a1, .ref p1, .ref p2, .non, .int 5, .str "a", .ref p3, .ref p4, .ref p5, .ref p6])) l = some (.lst [.ref a1, .ref p1, .ref p2, .non, .int 5, .str "a", .ref p3, .ref p4, .ref p5, .ref p6]) := upd_same
      exact rest H1 _ l _ d1 e1 t1 S18 g0 d10 (.inr ⟨u1, m1⟩)
    · refine iF (by decide +kernel) ?_
      refine ⟨_, rfl, _, rfl, t, c, "whole", b + 1, rfl, .inl rfl, T, fun H1 a1 u1 d1 e1 t1 n1 g1 m1 => ?_⟩
      refine ⟨slz rfl, fun q1 hq1 => ⟨slz rfl, fun p1 hp1 => ⟨slz rfl, fun p2 hp2 => ⟨slz rfl, fun p3 hp3 np3 => fun p4 hp4 => ⟨slz rfl, fun p5 hp5 => ⟨slz rfl, fun p6 hp6 => ⟨slz rfl, fun l hl => ?_⟩⟩⟩⟩⟩⟩⟩
      have s1 := same_new (o := .tup []) hq1
      have s2 := same_new (o := .tup [.str "made", .str "yes", .ref q1]) hp1
      have s3 := same_new (o := .tup [.str "function"]) hp2
      have s4 := same_new (o := .lst []) hp3
      have s5 := same_new (o := .dK []) hp4
      have s6 := same_new (o := .tup []) hp5
      have s7 := same_new (o := .tup [.str "whole"]) hp6
      have s8 := same_new (o := .lst [.ref a1, .ref p1, .ref p2, .non, .int 5, .str "a", .ref p3, .ref p4, .ref p5, .ref p6]) hl
      have S78 := s7.trans s8
      have S68 := s6.trans S78
      have S58 := s5.trans S68
      have S48 := s4.trans S58
      have S38 := s3.trans S48
      have S28 := s2.trans S38
      have S18 := s1.trans S28
      have n4 : p4 ≠ t := ((((t1.same s1).same s2).same s3).same s4).ne hp4
      have d10 := DaAll.cons (m1.da (t := t) (S18 _ _ g1)) (DaAll.cons (Da.tup (S38 _ _ upd_same) (.cons (.str _) (.cons (.str _) (.cons (.tup (S28 _ _ upd_same) .nil) .nil)))) (DaAll.cons (Da.tup (S48 _ _ upd_same) (.cons (.str _) .nil)) (DaAll.cons .non (DaAll.cons (.int 5) (DaAll.cons (.str "a") (DaAll.cons (Da.lst (S58 _ _ upd_same) np3 .nil) (DaAll.cons (Da.dct (S68 _ _ upd_same) n4 .nil) (DaAll.cons (Da.tup (S78 _ _ upd_same) .nil) (DaAll.cons (Da.tup (s8 _ _ upd_same) (.cons (.str _) .nil)) .nil)))))))))
      have g0 : (upd (upd (upd (upd (upd (upd (upd (upd H1 q1 (.tup [])) p1 (.tup [.str "made", .str "yes", .ref q1])) p2 (.tup [.str "function"])) p3 (.lst [])) p4 (.dK [])) p5 (.tup [])) p6 (.tup [.str "whole"])) l (.lst [.ref a1, .ref p1, .ref p2, .non, .int 5, .str "a", .ref p3, .ref p4, .ref p5, .ref p6])) l = some (.lst [.ref a1, .ref p1, .ref p2, .non, .int 5, .str "a", .ref p3, .ref p4, .ref p5, .ref p6]) := upd_same
      exact rest H1 _ l _ d1 e1 t1 S18 g0 d10 (.inr ⟨u1, m1⟩)
end
end L3

/-! a list of anything beside the empty one -/
namespace L3
open PySem PySem.Spec PyProof.Rows L2
open PySem.SeqAt
def rEqNilL (K : PySem.W.Frag) : R2 := fun x y H Q => ∃ (a b : Addr) (xs : List V), x = .ref a ∧ y = .ref b ∧ SqL K H a xs ∧ SqL K H b [] ∧ Q (.bl xs.isEmpty) H
theorem op_eqNilL {X : Cx} (hu : X.A.units + 64 < cLine) : OpR X (compareOp .Eq) (rEqNilL X.K) := by
  intro pins s σ H x y v u Q I rx ry h
  obtain ⟨a, b, xs, rfl, rfl, ha, hb, q⟩ := h
  obtain rfl : v = Value.ref a := rx
  obtain rfl : u = Value.ref b := ry
  obtain ⟨its, rv, ⟨o, n, ho, hc, _, hd⟩, _⟩ := I.list ha
  obtain ⟨its2, rv2, ⟨o2, n2, ho2, hc2, _, hd2⟩, _⟩ := I.list hb
  cases rv2
  cases rv with
  | nil =>
    refine RcAt.lists (e := fun _ => true) ⟨o, ho, hc, n, hd⟩ ⟨o2, ho2, hc2, n2, hd2⟩ rfl (by omega) (fun j h1 h2 => absurd h2 (by simp)) _ _ _ _ ?_
    exact ⟨.bl true, H, I, rfl, q⟩
  | cons r1 rr =>
    refine RcAt.lists_lengths ⟨o, ho, hc, n, hd⟩ ⟨o2, ho2, hc2, n2, hd2⟩ (by simp) (by omega) _ _ _ _ ?_
    exact ⟨.bl false, H, I, rfl, q⟩
end L3

set_option maxHeartbeats 4000000
namespace L3
open PySem L2 StX
theorem four_cases : ∀ {us : List V}, us ≠ [] → us.length ≤ 4 → (∃ a, us = [a]) ∨ (∃ a b, us = [a, b]) ∨ (∃ a b c, us = [a, b, c]) ∨ ∃ a b c d, us = [a, b, c, d]
  | [], h, _ => absurd rfl h
  | [a], _, _ => .inl ⟨a, rfl⟩
  | [a, b], _, _ => .inr (.inl ⟨a, b, rfl⟩)
  | [a, b, c], _, _ => .inr (.inr (.inl ⟨a, b, c, rfl⟩))
  | [a, b, c, d], _, _ => .inr (.inr (.inr ⟨a, b, c, d, rfl⟩))
  | a :: b :: c :: d :: e :: r, _, h => by
    simp only [List.length_cons] at h
    omega
section
variable {P : Program} {w : World} {K : PySem.W.Frag} {mg : Str → Option Value} {base : Heap} {kA aA CN CV CP fD : Addr}
abbrev s__law_tried : Stmt := topS 82
abbrev N__law_tried : List Str := ["_law_which", "_law_some"]
theorem sc__law_tried : FnScope N__law_tried ["_law_which", "_law_some"] (defScope s__law_tried) := ⟨rfl, rfl, rfl, by decide +kernel, rfl, by decide +kernel, by decide +kernel⟩
def spTried (P : Program) (w : World) (K : PySem.W.Frag) (mg : Str → Option Value) (base : Heap) (kA aA CN CV : Addr) : Sp := fun vs H Q E => ∃ (v : V) (l : Addr) (us : List V), vs = [v, .ref l] ∧ SqL K H l us ∧ us ≠ [] ∧ us.length ≤ 4 ∧
  ∀ H' p, Same H H' → H' p = some (.tup us) → spDone P w K mg base kA aA CN CV [v, .ref p] H' Q E
theorem ok_tried {f : Addr} {fd : FuncData} (F : Fun K "_law_tried" "_law_tried" s__law_tried f fd) (B : Bl mg) (hC : mg "Primitives" = some (.ref CP)) (SM_done : SmK K CP "done" fD) (D_done : FnR P w K mg base (L2.CX P w) 4 fD (spStar 1 (spDone P w K mg base kA aA CN CV))) : FnOk P w K mg base (L2.CX P w) 5 f fd ["_law_which", "_law_some"] (spTried P w K mg base kA aA CN CV) := by
  refine F.okX sc__law_tried (fun vs H Q E h => ?_) (fun cdv A outer s H vs Q E hr h => ?_)
  · obtain ⟨v, l, us, rfl, _⟩ := h
    rfl
  · obtain ⟨v, l, us, rfl, gl, ne, l4, k⟩ := h
    have hu64 := hr.units
    have hr_done : Room 4 _ := hr
    have sh := four_cases ne l4
    refine ⟨_, (pss_cons (ps_if (pt_cmpR op_lt (pe_callB call_len (by rfl) B.len PySem.boot_len (pa_cons (pv 1) pa_nil)) pe_int (nomark _))
  (pss_one (ps_ret (pe_ifExp (pt_cmpR (op_eqNilL hu64) (pv 1) (pe_lst pa_nil) (nomark _)) (pe_smX hC SM_done D_done hr_done (takes_of rfl rfl rfl rfl) (pa_cons (pv 0) pa_nil)) (pe_smX hC SM_done D_done hr_done (takes_of rfl rfl rfl rfl) (pa_cons (pv 0) (pa_cons (pe_ix ix_list (pv 1) pe_int (fun _ _ => rfl)) pa_nil))))))
  pss_nil)
  (pss_cons (ps_if (pt_cmpR op_eq (pe_callB call_len (by rfl) B.len PySem.boot_len (pa_cons (pv 1) pa_nil)) pe_int (nomark _))
  (pss_one (ps_ret (pe_smX hC SM_done D_done hr_done (takes_of rfl rfl rfl rfl) (pa_cons (pv 0) (pa_cons (pe_ix ix_list (pv 1) pe_int (fun _ _ => rfl)) (pa_cons (pe_ix ix_list (pv 1) pe_int (fun _ _ => rfl)) pa_nil))))))
  pss_nil)
  (pss_cons (ps_if (pt_cmpR op_eq (pe_callB call_len (by rfl) B.len PySem.boot_len (pa_cons (pv 1) pa_nil)) pe_int (nomark _))
  (pss_one (ps_ret (pe_smX hC SM_done D_done hr_done (takes_of rfl rfl rfl rfl) (pa_cons (pv 0) (pa_cons (pe_ix ix_list (pv 1) pe_int (fun _ _ => rfl)) (pa_cons (pe_ix ix_list (pv 1) pe_int (fun _ _ => rfl)) (pa_cons (pe_ix ix_list (pv 1) pe_int (fun _ _ => rfl)) pa_nil)))))))
  pss_nil)
  (pss_one (ps_ret (pe_smX hC SM_done D_done hr_done (takes_of rfl rfl rfl rfl) (pa_cons (pv 0) (pa_cons (pe_ix ix_list (pv 1) pe_int (fun _ _ => rfl)) (pa_cons (pe_ix ix_list (pv 1) pe_int (fun _ _ => rfl)) (pa_cons (pe_ix ix_list (pv 1) pe_int (fun _ _ => rfl)) (pa_cons (pe_ix ix_list (pv 1) pe_int (fun _ _ => rfl)) pa_nil))))))))))), ?_⟩
    have call : ∀ (H1 : Hp) (ws : List V), Same H H1 → ws = us → spStar 1 (spDone P w K mg base kA aA CN CV) (v :: ws) H1 Q E := fun H1 ws s1 e => ⟨[v], ws, rfl, rfl, by rw [e, sizeLine_eq]; omega, fun p hp => k _ p (s1.trans (same_new hp)) (by rw [upd_same, e])⟩
    rcases sh with ⟨a, rfl⟩ | ⟨a, b, rfl⟩ | ⟨a, b, c, rfl⟩ | ⟨a, b, c, d, rfl⟩
    · refine ⟨_, rfl, .ref l, 1, rfl, .inl ⟨_, gl, rfl⟩, _, _, rfl, rfl, _, rfl, ?_⟩
      refine iT (by decide) ?_
      refine ⟨_, rfl, slz rfl, fun p hp => ?_⟩
      have s1 := same_new (o := .lst []) hp
      refine ⟨l, p, [a], rfl, rfl, Same.seq s1 gl, SqL.of upd_same, _, rfl, ?_⟩
      refine iF rfl ?_
      exact ⟨_, rfl, _, rfl, l, _, 0, _, rfl, rfl, Same.seq s1 gl, rfl, call _ [a] s1 rfl⟩
    · refine ⟨_, rfl, .ref l, 2, rfl, .inl ⟨_, gl, rfl⟩, _, _, rfl, rfl, _, rfl, ?_⟩
      refine iF (by decide) ?_
      refine ⟨_, rfl, .ref l, 2, rfl, .inl ⟨_, gl, rfl⟩, rfl, _, rfl, ?_⟩
      refine iT (by decide) ?_
      exact ⟨_, rfl, _, rfl, l, _, 0, _, rfl, rfl, gl, rfl, _, rfl, l, _, 1, _, rfl, rfl, gl, rfl, call H [a, b] (Same.refl H) rfl⟩
    · refine ⟨_, rfl, .ref l, 3, rfl, .inl ⟨_, gl, rfl⟩, _, _, rfl, rfl, _, rfl, ?_⟩
      refine iF (by decide) ?_
      refine ⟨_, rfl, .ref l, 3, rfl, .inl ⟨_, gl, rfl⟩, rfl, _, rfl, ?_⟩
      refine iF (by decide) ?_
      refine ⟨_, rfl, .ref l, 3, rfl, .inl ⟨_, gl, rfl⟩, rfl, _, rfl, ?_⟩
      refine iT (by decide) ?_
      exact ⟨_, rfl, _, rfl, l, _, 0, _, rfl, rfl, gl, rfl, _, rfl, l, _, 1, _, rfl, rfl, gl, rfl, _, rfl, l, _, 2, _, rfl, rfl, gl, rfl, call H [a, b, c] (Same.refl H) rfl⟩
    · refine ⟨_, rfl, .ref l, 4, rfl, .inl ⟨_, gl, rfl⟩, _, _, rfl, rfl, _, rfl, ?_⟩
      refine iF (by decide) ?_
      refine ⟨_, rfl, .ref l, 4, rfl, .inl ⟨_, gl, rfl⟩, rfl, _, rfl, ?_⟩
      refine iF (by decide) ?_
      refine ⟨_, rfl, .ref l, 4, rfl, .inl ⟨_, gl, rfl⟩, rfl, _, rfl, ?_⟩
      refine iF (by decide) ?_
      exact ⟨_, rfl, _, rfl, l, _, 0, _, rfl, rfl, gl, rfl, _, rfl, l, _, 1, _, rfl, rfl, gl, rfl, _, rfl, l, _, 2, _, rfl, rfl, gl, rfl, _, rfl, l, _, 3, _, rfl, rfl, gl, rfl, call H [a, b, c, d] (Same.refl H) rfl⟩
end
end L3

/-! try with several clauses 'except C as n', all of one name n -/
namespace L3
open PySem PySem.Spec PyProof.Rows L2
/-- a clause: the class it names, what its suite does -/
abbrev Clause := Value × (Addr → Value → Option Addr → TS)
/-- behind a suite the name at slot i is gone -/
def goneE (i : Nat) (D : Ends) : Ends := ⟨fun τ G => D.nx (τ.set i none) G, D.rt, fun τ G => D.bk (τ.set i none) G, fun τ G => D.ct (τ.set i none) G⟩
/-- what the clauses want of what flies, from the first on -/
def wantAs (K : PySem.W.Frag) (i : Nat) (out : WX) (D : Ends) : List Clause → WX
  | [] => out
  | q :: r => fun cls d τ G => ∃ y : Bool, PySem.W.exmOne K cls q.1 = some y ∧ (y = false → wantAs K i out D r cls d τ G) ∧ (y = true → ∀ a, G a = none → q.2 a cls d (goneE i D) (τ.set i (some (.ref a))) G)
/-- the clauses stand as they are written -/
inductive ClsAs (X : Cx) (n : Str) : List ExceptHandler → List Clause → Prop
  | nil : ClsAs X n [] []
  | cons {x : Str} {c : Value} {ts : Addr → Value → Option Addr → TS} {b : Stmt} {bs : List Stmt} {p1 p2 : Pos} {hs : List ExceptHandler} {r : List Clause} (nm : Names X x c)
      (su : ∀ (a : Addr) (ob : Obj) (cls : Value) (d : Option Addr) (pn : List (Addr × Obj)), Zc cls d ob → (∃ fs, ob.data = .fields fs) → PSs (X.suite a ((a, ob) :: pn)) (b :: bs) (ts a cls d)) (rest : ClsAs X n hs r) :
      ClsAs X n (.ExceptHandler (some (.Name x p1)) (some n) (b :: bs) p2 :: hs) ((c, ts) :: r)
section
variable {X : Cx} {n : Str} {i : Nat} {body : List Stmt} {h1 : ExceptHandler} {hs : List ExceptHandler} {cs : List Clause} {pos : Pos} {tb : WX → TS} {out : WX}
theorem ps_try_ases (st : X.stack = X.env :: X.outer) (fr : X.env.frame = some X.env.locals) (nd : X.N.Nodup) (ni : X.N[i]? = some n) (kl : X.env.kindOf n = some .local) (tk : Takes X out)
    (hb : ∀ (W : WX) (pn : List (Addr × Obj)) (xe : Value → Shared → Prop), Takes (X.tr pn xe) W → PassesOwn (model X.prog X.w) X.A X.env xe → PSs (X.tr pn xe) body (tb W))
    (hc : ClsAs X n (h1 :: hs) cs) : PS X (.Try body (h1 :: hs) [] [] pos) (fun D σ H => tb (wantAs X.K i out D cs) D σ H) := by
  constructor
  intro pins s σ H D I want
  have ok := I.ok
  have frs' : X.A.frames = some (X.env :: X.outer) := st ▸ ok.frames
  apply wpAny_Try_except
  refine wpAny_mono ((hb _ (X.pn ++ pins) (fun v t1 => wpAny (model X.prog X.w) X.A (noteFrame v X.env) (fun _ t2 => wpAny (model X.prog X.w) X.A (setFlight v none) (fun _ t3 => wpAny (model X.prog X.w) X.A (handleBy v X.env (h1 :: hs)) (SP X pins D) X.xe t3) X.xe t2) X.xe t1)
    (fun v t flying => ?_) PassesOwn.looking).run [] s σ H D (I.toTry _) want) (fun flow t z => ?_) (fun _ _ z => z)
  · obtain ⟨e, B, s0, pins2, τ, G, cls, d, rfl, J0, below, up, sky, fresh, os, ag, wish⟩ := flying
    have J : Inv X pins τ G s0 := J0.ofTry ok
    show wpAny (model X.prog X.w) X.A (noteFrame (.ref e) X.env) _ _ _
    refine Sky.land Zc.steady frs' fr (show Sky B (X.env :: X.outer) e (Zc cls d) X.env.locals t.heap from st ▸ sky) fun g land up2 => ?_
    obtain ⟨ob, vs, look, zc, fld⟩ := land.there
    have J2 : Inv X pins τ G { t with heap := g } := J.landed below land.1 (up.trans up2) os ag
    have apart : e ∉ frs (X.env :: X.outer) := by
      intro m
      obtain ⟨_, ob', look', nf⟩ := land.2.2.1.mem m
      cases look.symm.trans look'
      exact nf _ fld
    have notL : e ≠ X.env.locals := by
      rintro rfl
      exact apart (List.mem_filterMap.mpr ⟨X.env, .head _, fr⟩)
    have notF : e ∉ X.fs := by
      intro m
      obtain ⟨v, hv, q⟩ := List.mem_filterMap.mp m
      exact apart (List.mem_filterMap.mpr ⟨v, .tail _ hv, q⟩)
    have S := J2.suite look fld fresh notL notF
    clear want
    revert wish
    generalize h1 :: hs = hds at hc ⊢
    induction hc with
    | nil =>
      intro wish
      refine wpAny_handleBy_nil ?_
      obtain ⟨_, _, _, o1, w1, T, o2, w2, l1, z1, f1, tb1, r1⟩ := id land
      unfold PySem.passOn
      refine wpAny_bind (wpAny_field l1 f1 tb1 ?_)
      rw [if_neg (by simp)]
      have last : wpAny (model X.prog X.w) X.A (setFlight (.ref e) X.env.frame) (fun _ t4 => wpAny (model X.prog X.w) X.A (throw (.ref e) : Sem Flow) (SP X pins D) X.xe t4) X.xe { t with heap := g } := by
        rw [fr]
        refine HandSPX.setFlight_upZ land fun g4 sky4 up4 => wpAny_throw (tk _ _ ⟨e, B, s0, pins, τ, G, cls, d, rfl, J, below, (up.trans up2).trans up4, .inr (.inr (by rw [st]; exact sky4)), fresh, os, ag, wish⟩)
      first
        | exact wpAny_bind (wpAny_pure (wpAny_bind last))
        | exact wpAny_bind last
    | @cons x c ts b bs p1 p2 hs2 r nm su rest ih =>
      rintro ⟨y, ex, no, yes⟩
      refine wpAny_handleBy_cons (codeAny_handlers_test ?_) nofun
      have named : ∀ {Q : Value → Shared → Prop} {E : Value → Shared → Prop}, Q c { t with heap := g } → wpAny (model X.prog X.w) (X.A.mark (some (.ref e))) (eval (.Name x p1) X.env) Q E { t with heap := g } := by
        intro Q E hq
        obtain ⟨gl, db, m | ⟨m, bv, nn⟩⟩ := nm
        · exact ld_glob (X := X.suite e ((e, ob) :: (X.pn ++ pins))) S gl m hq db
        · exact ld_blt (X := X.suite e ((e, ob) :: (X.pn ++ pins))) S gl m bv hq nn db
      have typed : PySem.W.Looks (model X.prog X.w) g (typeOf (.ref e)) cls := fun _ _ _ _ kp hq => wpAny_typeOf_ref (kp _ _ look) (zc.1 ▸ hq)
      refine named ((PySem.W.exm_one (M := model X.prog X.w) J2.kIn typed ex).here ?_)
      cases y with
      | false =>
        show wpAny _ X.A (handleBy (.ref e) X.env hs2) _ _ _
        exact ih (no rfl)
      | true =>
        refine codeAny_handlers_suite_as (HandSPX.lands_againZ land fun g4 land4 up4 => ?_)
        have J4 : Inv X pins τ G { t with heap := g4 } := J.landed below land4.1 ((up.trans up2).trans up4) os ag
        obtain ⟨ob4, vs4, look4, zc4, fld4⟩ := land4.there
        refine store_ok (X := X.suite e ((e, ob4) :: (X.pn ++ pins))) (v := .ref e) (J4.suite look4 fld4 fresh notL notF) nd ni (.inl kl) rfl (fun t5 S5 => ?_) (.inr kl)
        refine wpAny_mono ((su e ob4 cls d (X.pn ++ pins) zc4 ⟨_, fld4⟩).run [] t5 _ G _ S5 (yes rfl e fresh)) (fun flow t6 z => ?_) (fun _ _ z => z.elim)
        have drop : ∀ {τ6 : L2.St} {G6 : Hp} {Q : Shared → Prop}, Inv (X.suite e ((e, ob4) :: (X.pn ++ pins))) [] τ6 G6 t6 → (∀ t7, Inv X pins (τ6.set i none) G6 t7 → Q t7) → wpAny (model X.prog X.w) X.A (do bindName X.env n .none; unbindBehindTheSuite X.env n p2) (fun _ t7 => Q t7) X.xe t6 :=
          fun S6 hq => gone_ok (S6.unsuite ok) nd ni kl hq
        cases flow with
        | ret u =>
          obtain ⟨v6, τ6, G6, S6, r6, q6⟩ := z
          exact drop S6 fun _ J7 => ⟨v6, _, G6, J7, r6, q6⟩
        | next =>
          obtain ⟨τ6, G6, S6, q6⟩ := z
          exact drop S6 fun _ J7 => ⟨_, G6, J7, q6⟩
        | brk =>
          obtain ⟨τ6, G6, S6, q6⟩ := z
          exact drop S6 fun _ J7 => ⟨_, G6, J7, q6⟩
        | cont =>
          obtain ⟨τ6, G6, S6, q6⟩ := z
          exact drop S6 fun _ J7 => ⟨_, G6, J7, q6⟩
  · cases flow with
    | ret u =>
      obtain ⟨v, τ, G, J, r, q⟩ := z
      exact ⟨v, τ, G, J.ofTry ok, r, q⟩
    | next =>
      obtain ⟨τ, G, J, q⟩ := z
      exact wpAny_execs_nil ⟨τ, G, J.ofTry ok, q⟩
    | brk =>
      obtain ⟨τ, G, J, q⟩ := z
      exact ⟨τ, G, J.ofTry ok, q⟩
    | cont =>
      obtain ⟨τ, G, J, q⟩ := z
      exact ⟨τ, G, J.ofTry ok, q⟩
end
end L3

/-! repr of a value of any kind, at the law's own level -/
namespace L3
open PySem PySem.Spec PyProof.Rows L2
section
variable {X : Cx}
def rReprV (t : Addr) : List V → Hp → VK → Prop := fun xs H Q => ∃ (v : V) (d : PyData), xs = [v] ∧ Da t H v d ∧ d.showable = true ∧ d.depth ≤ 60 ∧ d.shown.length ≤ sizeLine ∧ (∀ i, d = .int i → i.natAbs.log2 < 1920) ∧ Q (.str d.shown) H
theorem call_reprV (t : Addr) (hg : X.A.guards = some []) (hu : X.A.units + 64 < cLine) : CallR X (.builtin "repr") (rReprV t) := by
  intro pins s σ H xs us Q I r h
  obtain ⟨v, d, rfl, hd, hs, hdep, hsz, hi, q⟩ := h
  obtain ⟨u, rfl, rx⟩ := vals1 r
  have any : ∀ E a, v = .ref a → wpAny (model X.prog X.w) X.A (call (.builtin "repr") [u]) (EP X pins σ Q) E s := fun E a e => by
    subst e
    obtain rfl : u = Value.ref a := rx
    obtain ⟨as, hr, n⟩ := Da.reads I d _ _ hd (show RelV (.ref a) (.ref a) from rfl)
    exact repr_of_reads' hr hs (fun _ => n) hg (by omega) (fun _ _ e => e) (fun h' u tk hk => ⟨.str d.shown, H, I.kept (t' := tk) hk, ⟨u, rfl⟩, q⟩) hsz
  cases d with
  | none =>
    cases hd
    cases (show u = Value.none from rx)
    exact PySem.P.repr_of_none ⟨.str _, H, I.tok _, ⟨_, rfl⟩, q⟩
  | bool b =>
    cases hd
    cases (show u = Value.bool b from rx)
    exact PySem.P.repr_of_bool ⟨.str _, H, I.tok _, ⟨_, rfl⟩, q⟩
  | int i =>
    cases hd
    obtain ⟨k, rfl⟩ := (show ∃ k, u = Value.int i k from rx)
    exact PySem.P.repr_of_int (hi i rfl) ⟨.str _, H, I.tok _, ⟨_, rfl⟩, q⟩
  | str x =>
    cases hd
    obtain ⟨k, rfl⟩ := (show ∃ k, u = Value.str x k from rx)
    exact PySem.P.repr_of_str ⟨.str _, H, I.tok _, ⟨_, rfl⟩, q⟩ hsz
  | list ds => cases id hd with | lst => exact any _ _ rfl
  | tuple ds => cases id hd with | tup => exact any _ _ rfl
  | dict ds => cases id hd with | dct => exact any _ _ rfl
end
end L3

/-! an own exception with fields, caught: isinstance(e, T) in the suite; what its class is -/
namespace L3
open PySem PySem.Spec PyProof.Rows L2
def rIsS (K : PySem.W.Frag) (C a : Addr) (cls : Value) (d : Option Addr) : List V → Hp → VK → Prop := fun xs H Q => ∃ (c : V) (cv : Value) (b : Bool), xs = [.ref a, c] ∧ cls = .ref C ∧ (∃ dd fs, d = some dd ∧ H dd = some (.xd fs)) ∧ (∀ u, RelV c u → u = cv) ∧ PySem.W.kitOne K (.ref C) cv = some b ∧ Q (.bl b) H
theorem call_isS {X : Cx} {a C : Addr} {oe : Obj} {cls : Value} {d : Option Addr} {pn : List (Addr × Obj)} (T : Xr X.K C) (hz : Zc cls d oe) (hf : ∃ vs, oe.data = .fields vs) : CallR (X.suite a ((a, oe) :: pn)) (.builtin "isinstance") (rIsS X.K C a cls d) := by
  intro pins s σ H xs us Q I r ⟨c, cv, b, exs, ec, ⟨dd, fs, ed, ea⟩, hc, e, q⟩
  subst exs
  subst ec
  subst ed
  cases r with
  | cons ra rr =>
    cases rr with
    | cons rc rr =>
      cases rr
      cases ra
      cases hc _ rc
      obtain ⟨ha, _⟩ := I.pin (a, oe) (List.mem_append_left _ List.mem_cons_self)
      obtain ⟨vs, hd⟩ := hf
      have hx : ObjOk X.prog X.w H s.heap dd (.xd fs) := I.hok dd _ ea
      obtain ⟨mA, hns, hr⟩ := hx
      obtain ⟨od, ho, hl⟩ := lookIn_ns hns
      have J : PySem.W.InstAt s.heap a oe C (some od) := ⟨ha, hz.1, by unfold PySem.W.notCls; rw [hd] <;> rfl, by rw [hz.2]; exact ho⟩
      have cl : (PySem.W.clsIn X.K C).isSome = true := by
        obtain ⟨cd, h1, _⟩ := PySem.W.any_some T.dct
        rw [h1]
        rfl
      exact PySem.W.kia_one (PySem.W.kitx_exc cl T.ga T.gg T.sb T.cl T.gs T.tk T.ob) I.kIn J e (fun z => nomatch z) fun tk => ⟨.bl b, H, I.kept (t' := tk) fun _ _ z => z, rfl, q⟩
theorem Xr.xf {K : PySem.W.Frag} {C : Addr} (R : Xr K C) : XfC K C := ⟨R.ga, R.gg, R.sb, R.dct⟩
theorem call_reprAny {X : Cx} (hg : X.A.guards = some []) (hu : X.A.units + 64 < cLine) : CallR X (.builtin "repr") (fun xs H Q => ∃ t, rReprV t xs H Q) :=
  fun pins s σ H xs us Q I r ⟨t, h⟩ => call_reprV t hg hu pins s σ H xs us Q I r h
/-- an own class in its own except clause -/
theorem exm_self {K : PySem.W.Frag} {C : Addr} {bm : List Value} (R : Xr K C) (h : ∃ cd, PySem.W.clsIn K C = some cd ∧ cd.mro = .ref C :: bm) (ty : PySem.W.typeIn K (.ref C) = some (.type "type")) : PySem.W.exmOne K (.ref C) (.ref C) = some true := by
  refine PySem.W.exm_ref R.sb R.dct ty ?_
  obtain ⟨cd, e1, e2⟩ := h
  unfold PySem.W.subIn
  dsimp only
  unfold PySem.W.mroIn
  rw [e1, Option.bind_some, e2]
  show some (List.contains (Value.ref C :: bm) (.ref C)) = some true
  rw [List.contains_cons]
  simp
theorem kit_base {K : PySem.W.Frag} {C : Addr} {bm : List Value} {T : String} (h : ∃ cd, PySem.W.clsIn K C = some cd ∧ cd.mro = .ref C :: bm) (hm : PySem.W.kitMeta T = true) (hb : bm.contains (.type T) = true) : PySem.W.kitOne K (.ref C) (.type T) = some true := by
  obtain ⟨cd, e1, e2⟩ := h
  unfold PySem.W.kitOne
  rw [if_neg (by simp)]
  unfold PySem.W.kitCls
  dsimp only
  rw [if_pos hm]
  unfold PySem.W.subIn
  dsimp only
  unfold PySem.W.mroIn
  rw [e1, Option.bind_some, e2]
  show some (List.contains (Value.ref C :: bm) (.type T)) = some true
  rw [List.contains_cons, hb]
  simp
end L3

namespace L3
open PySem L2 StX LamX
abbrev s__law_refused : Stmt := topS 83
abbrev N__law_refused : List Str := ["_law_call", "e"]
theorem sc__law_refused : FnScope N__law_refused ["_law_call"] (defScope s__law_refused) := ⟨rfl, rfl, rfl, by decide +kernel, rfl, by decide +kernel, by decide +kernel⟩
/-- what can be shown by the law -/
structure Shw (d : PyData) : Prop where
  sh : d.showable = true
  dep : d.depth ≤ 60
  len : d.shown.length ≤ sizeLine
  small : ∀ i, d = .int i → i.natAbs.log2 < 1920
/-- what the field of an error gives -/
def Told (f : Str) (d : Option Addr) (H : Hp) (Q : VK) : Prop := ∃ (t dd : Addr) (u : V) (dat : PyData), d = some dd ∧ H dd = some (.xd [(f, u)]) ∧ Da t H u dat ∧ Shw dat ∧ ∀ l, H l = none → Q (.ref l) (upd H l (.lst [.str f, .str dat.shown, .bl true]))
def TTref (CV CN : Addr) : (XK → Hp → VK → Prop) → Hp → VK → Prop := fun tl H Q => tl (fun cls d H' => (cls = .ref CV ∧ Told "index" d H' Q) ∨ (cls = .ref CN ∧ Told "word" d H' Q)) H fun x H' => Q .non H'
theorem exm_not {K : PySem.W.Frag} {C D : Addr} {bm : List Value} (R : Xr K D) (hC : ∃ cd, PySem.W.clsIn K C = some cd ∧ cd.mro = .ref C :: bm) (ty : PySem.W.typeIn K (.ref D) = some (.type "type")) (ne : D ≠ C) (nb : bm.contains (.ref D) = false) : PySem.W.exmOne K (.ref C) (.ref D) = some false := by
  refine PySem.W.exm_ref R.sb R.dct ty ?_
  obtain ⟨cd, e1, e2⟩ := hC
  unfold PySem.W.subIn
  dsimp only
  unfold PySem.W.mroIn
  rw [e1, Option.bind_some, e2]
  show some (List.contains (Value.ref C :: bm) (.ref D)) = some false
  rw [List.contains_cons, nb]
  simp [ne]
theorem takes_lenS {X : Cx} {W : WX} (tk : Takes X W) : Takes X (fun cls d σ H => σ.length = X.N.length → W cls d σ H) := fun u s' x => by
  obtain ⟨a, B, sI, pins, σ, H, cls, d, e, I, nb, up, sky, na, os, ag, w⟩ := x
  exact tk u s' ⟨a, B, sI, pins, σ, H, cls, d, e, I, nb, up, sky, na, os, ag, w I.len⟩
theorem ref_gives {X : Cx} {q : Str} {g CV CN : Addr} {cdg : Value} {P : Program} {w : World} {base : Heap} (hV : E1 P w X.K X.mg base "InvalidValue" "index" mroV "ValueError.__new__" CV) (hN : E1 P w X.K X.mg base "NoPrimitive" "word" mroL "LookupError.__new__" CN) (ne : CV ≠ CN)
    (B : Bl X.mg) (B9 : Bl9 X.mg) (hVE : X.mg "ValueError" = none) (hLE : X.mg "LookupError" = none) (hgd : X.A.guards = some []) (hu : ∀ env, (X.A.deeper env).units + 64 < cLine) :
    GivesTo X N__law_refused "_law_refused" (defScope s__law_refused) g cdg (defBody s__law_refused) "_law_call" q (TTref CV CN) := by
  intro f c' s H Q tl act hc h
  have glV : Gl (cxOf C8.CX0 X.prog X.w X.K X.mg X.base N__law_refused "_law_refused" (defScope s__law_refused) g cdg X.A X.stack s H C8.E0).nox "InvalidValue" := by rfl
  have glN : Gl (cxOf C8.CX0 X.prog X.w X.K X.mg X.base N__law_refused "_law_refused" (defScope s__law_refused) g cdg X.A X.stack s H C8.E0).nox "NoPrimitive" := by rfl
  refine ⟨_, pss_cons (ps_try_ases (X := (cxOf C8.CX0 X.prog X.w X.K X.mg X.base N__law_refused "_law_refused" (defScope s__law_refused) g cdg X.A X.stack s H C8.E0).nox) (i := 1)
      (tb := fun W D σ H => ∃ Ech : XK, (∀ cls d (σ' : L2.St) H', σ'.length = 2 → Ech cls d H' → W cls d σ' H') ∧ σ[0]? = some (some (.ref f)) ∧ H c' = some (CodeO c' q) ∧ tl Ech H fun x H1 => D.nx σ H1)
      rfl rfl sc__law_refused.nd rfl rfl LamX.takes0 ?hb
      (.cons (c := .ref CV) ⟨glV, by decide, .inl hV.hm⟩ (fun a oe cls d pn hz hf => pss_one (ps_ret (pe_lst (pa_cons pe_str (pa_cons
        (pe_callB (call_reprAny hgd (hu (PyProof.Rows.envOfC "_law_refused" (defScope s__law_refused) s.heap.objs.size g cdg))) (by rfl) B.repr (by decide +kernel) (pa_cons (pe_xf hV.R.xf hV.no hz hf (pv 1)) pa_nil)) (pa_cons (pe_callB (call_isS hV.R hz hf) (by rfl) B9.isinstance PyProof.Rows.boot_isinstance (pa_cons (pv 1) (pa_cons (pe_bltn (v := .ty "ValueError") (by rfl) hVE (by decide +kernel) rfl) pa_nil))) pa_nil))))))
      (.cons (c := .ref CN) ⟨glN, by decide, .inl hN.hm⟩ (fun a oe cls d pn hz hf => pss_one (ps_ret (pe_lst (pa_cons pe_str (pa_cons
        (pe_callB (call_reprAny hgd (hu (PyProof.Rows.envOfC "_law_refused" (defScope s__law_refused) s.heap.objs.size g cdg))) (by rfl) B.repr (by decide +kernel) (pa_cons (pe_xf hN.R.xf hN.no hz hf (pv 1)) pa_nil)) (pa_cons (pe_callB (call_isS hN.R hz hf) (by rfl) B9.isinstance PyProof.Rows.boot_isinstance (pa_cons (pv 1) (pa_cons (pe_bltn (v := .ty "LookupError") (by rfl) hLE (by decide +kernel) rfl) pa_nil))) pa_nil))))))
      .nil))) (pss_one (ps_ret pe_non)), ?rd⟩
  case hb =>
    intro W pn xe tk _
    refine ⟨fun pins s' σ H' D I h' => ?_⟩
    obtain ⟨Ech, hW, h1, h2, h3⟩ := h'
    exact (pss_one (ps_expr (act _ pn xe Ech _ _ (takes_lenS tk) fun cls d σ' H' he hl => hW cls d σ' H' hl he))).run pins s' σ H' D I ⟨h1, h2, h3⟩
  case rd =>
    refine ⟨fun cls d H' => (cls = .ref CV ∧ Told "index" d H' Q) ∨ (cls = .ref CN ∧ Told "word" d H' Q), fun cls d σ' H' hl hh => ?_, rfl, hc, h⟩
    rcases hh with ⟨ec, t, dd, u, dat, ed, gd, hd, ho, k⟩ | ⟨ec, t, dd, u, dat, ed, gd, hd, ho, k⟩
    · refine ⟨true, by rw [ec]; exact exm_self hV.R hV.cd hV.ty, nofun, fun _ a ha => ?_⟩
      have e1 : (σ'.set 1 (some (V.ref a)))[1]? = some (some (V.ref a)) := List.getElem?_set_self (by omega)
      refine ⟨_, e1, rfl, ec, dd, _, u, ed, gd, rfl, t, u, dat, rfl, hd, ho.sh, ho.dep, ho.len, ho.small, _, e1, .ty "ValueError", .type "ValueError", true, rfl, ec, ⟨dd, _, ed, gd⟩, fun u hu => hu, kit_base hV.cd (by decide +kernel) (by decide +kernel), ?_⟩
      exact ⟨slz rfl, fun l hl2 => k l hl2⟩
    · refine ⟨false, by rw [ec]; exact exm_not hV.R hN.cd hV.ty ne (by rfl), fun _ => ?_, nofun⟩
      refine ⟨true, by rw [ec]; exact exm_self hN.R hN.cd hN.ty, nofun, fun _ a ha => ?_⟩
      have e1 : (σ'.set 1 (some (V.ref a)))[1]? = some (some (V.ref a)) := List.getElem?_set_self (by omega)
      refine ⟨_, e1, rfl, ec, dd, _, u, ed, gd, rfl, t, u, dat, rfl, hd, ho.sh, ho.dep, ho.len, ho.small, _, e1, .ty "LookupError", .type "LookupError", true, rfl, ec, ⟨dd, _, ed, gd⟩, fun u hu => hu, kit_base hN.cd (by decide +kernel) (by decide +kernel), ?_⟩
      exact ⟨slz rfl, fun l hl2 => k l hl2⟩
end L3

/-! numbers spelled and read back; how plain texts are shown; texts in their order -/
namespace L3
open PySem L2 TL PyProof.Rows
theorem tl_neg (n : Nat) : (Str.ofString (toString (Int.negSucc n))).cps.toList = 45 :: numL (n + 1) := by
  rw [signs_ofString]
  show ("-" ++ Nat.repr (n + 1)).toList.map Char.toNat = _
  rw [String.toList_append, List.map_append, Nat.toList_repr]
  rfl
theorem spell_reads {i : Int} (h1 : -(10 ^ 30) ≤ i) (h2 : i ≤ 10 ^ 30) : intText? (Str.ofString (toString i)) = some i ∧ (Str.ofString (toString i)).length ≤ 200 := by
  have e30 : (10 : Int) ^ 30 = 1000000000000000000000000000000 := by decide
  have e31 : (10 : Nat) ^ 31 = 10000000000000000000000000000000 := by decide
  rw [e30] at h1 h2
  cases i with
  | ofNat n =>
    rw [Int.ofNat_eq_natCast] at h2
    have hl : (numL n).length ≤ 31 := numL_len (by decide) (by rw [e31]; omega)
    refine ⟨int_num (Nat.le_trans hl (by decide)), ?_⟩
    have z : (Str.ofString (toString (Int.ofNat n))).length ≤ 31 := by
      rw [len_tl, show tl (Str.ofString (toString (Int.ofNat n))) = numL n from tl_num n]
      exact hl
    exact Nat.le_trans z (by decide)
  | negSucc n =>
    have hl : (numL (n + 1)).length ≤ 31 := numL_len (by decide) (by rw [e31]; omega)
    have z : (Str.ofString (toString (Int.negSucc n))).length ≤ 32 := by
      rw [len_tl, show tl (Str.ofString (toString (Int.negSucc n))) = 45 :: numL (n + 1) from tl_neg n, List.length_cons]
      omega
    have e := PySem.intText_neg (tl_neg n) (numL_digits _) (numL_ne _) (Nat.le_trans z (by decide))
    rw [numL_val] at e
    exact ⟨e, Nat.le_trans z (by decide)⟩
theorem spell_signs (i : Int) : ∀ c ∈ (Str.ofString (toString i)).cps.toList, c = 45 ∨ (48 ≤ c ∧ c ≤ 57) := by
  intro c hc
  cases i with
  | ofNat n =>
    rw [show (Str.ofString (toString (Int.ofNat n))).cps.toList = numL n from tl_num n] at hc
    exact .inr (numL_digits n c hc)
  | negSucc n =>
    rw [tl_neg n] at hc
    rcases List.mem_cons.mp hc with h | h
    · exact .inl h
    · exact .inr (numL_digits _ c h)
theorem spell_inj {i j : Int} (h1 : -(10 ^ 30) ≤ i) (h2 : i ≤ 10 ^ 30) (h3 : -(10 ^ 30) ≤ j) (h4 : j ≤ 10 ^ 30) : Str.ofString (toString i) = Str.ofString (toString j) ↔ i = j :=
  ⟨fun e => by
    have a := (spell_reads h1 h2).1
    rw [e, (spell_reads h3 h4).1] at a
    exact (Option.some.inj a).symm, fun e => by rw [e]⟩
/-! plain signs -/
def plnS (c : Nat) : Bool := c == 97 || c == 98 || c == 66 || c == 126 || c == 32 || c == 90
theorem plnS_char {c : Nat} (h : plnS c = true) : Builtin.Str.reprChar 39 c = [c] ∧ c ≠ 39 := by
  unfold plnS at h
  simp only [Bool.or_eq_true, beq_iff_eq] at h
  rcases h with ((((rfl | rfl) | rfl) | rfl) | rfl) | rfl <;> exact ⟨by decide +kernel, by decide⟩
theorem fold_pln : ∀ (l : List Nat) (acc : Array Nat), l.all plnS = true → (l.foldl (fun out c => out ++ (Builtin.Str.reprChar 39 c).toArray) acc).toList = acc.toList ++ l
  | [], acc, _ => by simp
  | c :: l, acc, h => by
    simp only [List.all_cons, Bool.and_eq_true] at h
    rw [List.foldl_cons, fold_pln l _ h.2, (plnS_char h.1).1]
    simp
theorem repr_pln {x : Str} (h : x.cps.toList.all plnS = true) : (reprText x).cps.toList = 39 :: x.cps.toList ++ [39] := by
  have hq : reprQuote x = 39 := by
    unfold reprQuote
    have : x.cps.contains 39 = false := by
      rw [Bool.eq_false_iff]
      intro z
      have z2 : 39 ∈ x.cps := by simpa using z
      have := List.all_eq_true.mp h 39 (by simpa using z2)
      exact (plnS_char this).2 rfl
    rw [this]
    rfl
  unfold reprText
  rw [hq]
  show (Array.push _ 39).toList = _
  rw [Array.toList_push, ← Array.foldl_toList, fold_pln _ _ h]
  rfl
theorem Str.eq_of {x y : Str} (h : x.cps.toList = y.cps.toList) : x = y := by
  cases x; cases y
  exact congrArg Str.mk (Array.toList_inj.mp h)
theorem shown_pln {x : Str} (h : x.cps.toList.all plnS = true) : (PyData.tuple [.str "text", .str x]).shown = ("(" : Str) ++ (reprText "text" ++ ", " ++ reprText x) ++ (")" : Str) := by
  simp only [PyData.shown, PyData.shownAll]
  rfl
theorem shown_inj {x y : Str} (hx : x.cps.toList.all plnS = true) (hy : y.cps.toList.all plnS = true) : (PyData.tuple [.str "text", .str x]).shown = (PyData.tuple [.str "text", .str y]).shown ↔ x = y := by
  refine ⟨fun e => ?_, fun e => by rw [e]⟩
  rw [shown_pln hx, shown_pln hy] at e
  have e2 := congrArg (fun s : Str => s.cps.toList) e
  have ap : ∀ a b : Str, (a ++ b).cps.toList = a.cps.toList ++ b.cps.toList := fun a b => Array.toList_append
  simp only [ap, repr_pln hx, repr_pln hy] at e2
  simp only [List.append_assoc, List.append_cancel_left_eq, List.cons_append, List.cons.injEq, true_and] at e2
  exact Str.eq_of (List.append_cancel_right e2)
theorem shown_len {x : Str} (hx : x.cps.toList.all plnS = true) (hl : x.length ≤ 200) : (PyData.tuple [.str "text", .str x]).shown.length ≤ 300 := by
  rw [shown_pln hx, Str.length_append, Str.length_append, Str.length_append, Str.length_append]
  have : (reprText x).length = x.length + 2 := by
    show (reprText x).cps.size = x.cps.size + 2
    have := congrArg List.length (repr_pln hx)
    simp only [Array.length_toList, List.length_append, List.length_cons, List.length_nil] at this
    omega
  rw [this]
  have a1 : ("(" : Str).length = 1 := by decide +kernel
  have a2 : (", " : Str).length = 2 := by decide +kernel
  have a3 : (")" : Str).length = 1 := by decide +kernel
  have a4 : (reprText "text").length = 6 := by decide +kernel
  omega
/-! cuts -/
theorem cut_list (x : Str) : (cutS x none (some 200)).cps.toList = x.cps.toList.take 200 := by
  show (List.toArray _).toList = _
  rw [List.toList_toArray, HT.sIx_none, show (200 : Int) = ((200 : Nat) : Int) from rfl, HT.sIx_nat, List.drop_zero, Nat.sub_zero]
  show List.take (min 200 x.cps.size) _ = _
  rw [← Array.length_toList, List.take_eq_take_iff]
  omega
theorem cut_cut (x y z : Str) : cutS (cutS (x ++ y) none (some 200) ++ z) none (some 200) = cutS (x ++ cutS (y ++ z) none (some 200)) none (some 200) := by
  refine Str.eq_of ?_
  have ap : ∀ a b : Str, (a ++ b).cps.toList = a.cps.toList ++ b.cps.toList := fun a b => Array.toList_append
  rw [cut_list, cut_list, ap, ap, cut_list, cut_list, ap, ap]
  generalize x.cps.toList = a
  generalize y.cps.toList = b
  generalize z.cps.toList = c
  have k1 : ∀ (u v : List Nat), (u.take 200 ++ v).take 200 = (u ++ v).take 200 := fun u v => by
    rw [List.take_append, List.take_append, List.take_take, Nat.min_self, List.length_take]
    congr 2
    omega
  have k2 : ∀ (u v : List Nat), (u ++ v.take 200).take 200 = (u ++ v).take 200 := fun u v => by
    rw [List.take_append, List.take_append, List.take_take]
    congr 2
    omega
  rw [k1, k2, List.append_assoc]
theorem cut_self {x : Str} (h : x.length ≤ 200) : cutS x none (some 200) = x := by
  refine Str.eq_of ?_
  rw [cut_list, List.take_of_length_le]
  rw [Array.length_toList]
  exact h
theorem cut_lenE (x : Str) : (cutS x none (some 200)).length = min 200 x.length := by
  have := congrArg List.length (cut_list x)
  rw [Array.length_toList, List.length_take, Array.length_toList] at this
  exact this
end L3

namespace L3
open PySem L2 TL PyProof.Rows
theorem alQ_char {c : Nat} (h : alQ c = true) : Builtin.Str.reprChar 39 c = [c] ∧ c ≠ 39 := by
  unfold alQ at h
  simp only [Bool.or_eq_true, beq_iff_eq] at h
  rcases h with ((((((rfl | rfl) | rfl) | rfl) | rfl) | rfl) | rfl) | rfl <;> exact ⟨by decide +kernel, by decide⟩
theorem fold_al : ∀ (l : List Nat) (acc : Array Nat), l.all alQ = true → (l.foldl (fun out c => out ++ (Builtin.Str.reprChar 39 c).toArray) acc).toList = acc.toList ++ l
  | [], acc, _ => by simp
  | c :: l, acc, h => by
    simp only [List.all_cons, Bool.and_eq_true] at h
    rw [List.foldl_cons, fold_al l _ h.2, (alQ_char h.1).1]
    simp
theorem repr_al {x : Str} (h : sgs alQ x = true) : tl (reprText x) = 39 :: (tl x ++ [39]) := by
  have h : x.cps.toList.all alQ = true := h
  have hq : reprQuote x = 39 := by
    unfold reprQuote
    have : x.cps.contains 39 = false := by
      rw [Bool.eq_false_iff]
      intro z
      have z2 : 39 ∈ x.cps := by simpa using z
      have := List.all_eq_true.mp h 39 (by simpa using z2)
      exact (alQ_char this).2 rfl
    rw [this]
    rfl
  unfold reprText
  rw [hq]
  show (Array.push _ 39).toList = _
  rw [Array.toList_push, ← Array.foldl_toList, fold_al _ _ h]
  rfl
theorem two_shown (a b : PyData) : tl (PyData.tuple [a, b]).shown = 40 :: (tl a.shown ++ (44 :: 32 :: (tl b.shown ++ [41]))) := by
  have e : (PyData.tuple [a, b]).shown = ("(" : Str) ++ (a.shown ++ ", " ++ b.shown) ++ (")" : Str) := by
    simp only [PyData.shown, PyData.shownAll]
    rfl
  have ap : ∀ a b : Str, tl (a ++ b) = tl a ++ tl b := fun a b => Array.toList_append
  rw [e]
  simp only [ap]
  rw [show tl ("(" : Str) = [40] by rfl, show tl (", " : Str) = [44, 32] by rfl, show tl (")" : Str) = [41] by rfl]
  simp
/-- the front of a whole, of a text as it is shown -/
def hdW : List Nat := [40, 39, 119, 104, 111, 108, 101, 39, 44, 32]
def hdT : List Nat := [40, 39, 116, 101, 120, 116, 39, 44, 32, 39]
theorem whole_shown (i : Int) : tl (PyData.tuple [.str "whole", .int i]).shown = hdW ++ (tl (Str.ofString (toString i)) ++ [41]) := by
  rw [two_shown]
  have e1 : tl (PyData.str "whole").shown = [39, 119, 104, 111, 108, 101, 39] := by decide +kernel
  have e2 : (PyData.int i).shown = Str.ofString (toString i) := by simp only [PyData.shown]
  rw [e1, e2]
  rfl
theorem text_shown {x : Str} (h : sgs alQ x = true) : tl (PyData.tuple [.str "text", .str x]).shown = hdT ++ (tl x ++ [39, 41]) := by
  rw [two_shown]
  have e1 : tl (PyData.str "text").shown = [39, 116, 101, 120, 116, 39] := by decide +kernel
  have e2 : (PyData.str x).shown = reprText x := by simp only [PyData.shown]
  rw [e1, e2, repr_al h]
  show _ = hdT ++ (tl x ++ [39, 41])
  unfold hdT
  simp
/-- a text as a text is shown, with right signs -/
def chT (l : List Nat) : Bool := decide (l.take 10 = hdT) && decide (12 ≤ l.length) && decide (l.length ≤ 212) && ((l.drop 10).take (l.length - 12)).all alQ
theorem chT_smp {x : Str} (h : sgs alQ x = true) (hl : x.length ≤ 200) : chT (tl (PyData.tuple [.str "text", .str x]).shown) = true := by
  rw [text_shown h]
  have e : (tl x).length = x.length := rfl
  unfold chT
  have e0 : hdT.length = 10 := rfl
  simp only [Bool.and_eq_true, decide_eq_true_eq]
  refine ⟨⟨⟨?_, ?_⟩, ?_⟩, ?_⟩
  · rw [← e0, List.take_left']
    rfl
  · simp only [List.length_append, e0, List.length_cons, List.length_nil]
    omega
  · simp only [List.length_append, e0, List.length_cons, List.length_nil]
    omega
  · rw [← e0, List.drop_left']
    · have : (hdT ++ (tl x ++ [39, 41])).length - 12 = (tl x).length := by
        simp only [List.length_append, e0, List.length_cons, List.length_nil]
        omega
      rw [this, List.take_left']
      · exact h
      · rfl
    · rfl
/-- whole numbers spelled alike are the same -/
theorem spell_all {i j : Int} (e : tl (Str.ofString (toString i)) = tl (Str.ofString (toString j))) : i = j := by
  cases i with
  | ofNat n =>
    rw [show tl (Str.ofString (toString (Int.ofNat n))) = numL n from tl_num n] at e
    cases j with
    | ofNat m =>
      rw [show tl (Str.ofString (toString (Int.ofNat m))) = numL m from tl_num m] at e
      have a := numL_val n
      rw [e, numL_val m] at a
      rw [a]
    | negSucc m =>
      rw [show tl (Str.ofString (toString (Int.negSucc m))) = 45 :: numL (m + 1) from tl_neg m] at e
      have := numL_digits n 45 (by rw [e]; exact List.mem_cons_self)
      omega
  | negSucc n =>
    rw [show tl (Str.ofString (toString (Int.negSucc n))) = 45 :: numL (n + 1) from tl_neg n] at e
    cases j with
    | ofNat m =>
      rw [show tl (Str.ofString (toString (Int.ofNat m))) = numL m from tl_num m] at e
      have := numL_digits m 45 (by rw [← e]; exact List.mem_cons_self)
      omega
    | negSucc m =>
      rw [show tl (Str.ofString (toString (Int.negSucc m))) = 45 :: numL (m + 1) from tl_neg m] at e
      have e := (List.cons.inj e).2
      have a := numL_val (n + 1)
      rw [e, numL_val (m + 1)] at a
      have : m = n := by omega
      rw [this]
/-- shown like a whole number: its signs -/
def chW (l : List Nat) : Bool := decide (l.take 10 = hdW) && ((l.drop 10).dropLast).all fun c => c == 45 || (decide (48 ≤ c) && decide (c ≤ 57))
theorem chW_smp (i : Int) : chW (tl (PyData.tuple [.str "whole", .int i]).shown) = true := by
  rw [whole_shown]
  have e0 : hdW.length = 10 := rfl
  unfold chW
  simp only [Bool.and_eq_true, decide_eq_true_eq]
  refine ⟨?_, ?_⟩
  · rw [← e0, List.take_left']
    rfl
  · rw [← e0, List.drop_left' rfl, List.dropLast_concat, List.all_eq_true]
    intro c hc
    rcases spell_signs i c hc with h | ⟨h1, h2⟩
    · rw [h]
      rfl
    · rw [decide_eq_true h1, decide_eq_true h2]
      simp
def big1 : PyData := .tuple [.str "whole", .int (10 ^ 30 + 1)]
def big2 : PyData := .tuple [.str "whole", .int (-(10 ^ 30) - 1)]
def oddR : List PyData := oddA ++ [.tuple [.str "whole", .bool true], .tuple [.str "whole", .str "1"], .list [.str "whole", .int 1]] ++ oddC ++ oddD
theorem odd_split {e : PyData} (h : e ∈ odds) : e = big1 ∨ e = big2 ∨ e ∈ oddR := by
  unfold odds oddB at h
  simp only [List.mem_append, List.mem_cons, List.not_mem_nil, or_false] at h
  unfold oddR
  simp only [List.mem_append, List.mem_cons, List.not_mem_nil, or_false]
  rcases h with ((h | h) | h) | h
  · exact .inr (.inr (.inl (.inl (.inl h))))
  · rcases h with h | h | h
    · exact .inl h
    · exact .inr (.inl h)
    · exact .inr (.inr (.inl (.inl (.inr h))))
  · exact .inr (.inr (.inl (.inr h)))
  · exact .inr (.inr (.inr h))
theorem oddR_not : ∀ e ∈ oddR, chT (tl e.shown) = false ∧ chW (tl e.shown) = false ∧ plainB "whole" e = false ∧ plainB "text" e = false := by decide +kernel
theorem not_chW {x : Str} (h : sgs alQ x = true) : chW (tl (PyData.tuple [.str "text", .str x]).shown) = false := by
  rw [text_shown h]
  unfold chW
  have e0 : hdT.length = 10 := rfl
  rw [← e0, List.take_left' rfl, decide_eq_false (by decide)]
  rfl
theorem not_chT (i : Int) : chT (tl (PyData.tuple [.str "whole", .int i]).shown) = false := by
  rw [whole_shown]
  unfold chT
  have e0 : hdW.length = 10 := rfl
  rw [← e0, List.take_left' rfl, decide_eq_false (by decide)]
  rfl
theorem Smp.plain {sort : Str} {u : V} {d : PyData} (h : Smp sort u d) : plainB sort d = true := by
  cases h with
  | whole i h1 h2 =>
    show (isS "whole" (.str "whole") && (if ("whole" : Str) = "whole" then isWholeD (.int i) else isTextD (.int i))) = true
    rw [if_pos rfl]
    show (true && isWholeD (.int i)) = true
    rw [Bool.true_and]
    simp only [isWholeD]
    simpa using ⟨h1, h2⟩
  | text x h1 h2 =>
    show (isS "text" (.str "text") && (if ("text" : Str) = "whole" then isWholeD (.str x) else isTextD (.str x))) = true
    rw [if_neg (by decide +kernel)]
    show (true && (decide (x.length ≤ 200) && x.cps.all sgnT)) = true
    rw [Bool.true_and, decide_eq_true h1, Bool.true_and, ← Array.all_toList, List.all_eq_true]
    exact fun c hc => alQ_sgnT (List.all_eq_true.mp h2 c hc)
theorem tl_inj {a b : PyData} (h : a.shown = b.shown) : tl a.shown = tl b.shown := by rw [h]
theorem whole_ne {i j : Int} (h : i ≠ j) : (PyData.tuple [.str "whole", .int i]).shown ≠ (PyData.tuple [.str "whole", .int j]).shown := fun e => by
  have e := tl_inj e
  rw [whole_shown, whole_shown] at e
  exact h (spell_all (List.append_cancel_right (List.append_cancel_left e)))
/-- no odd value is shown as a right one, none is right -/
theorem odd_ne {sort : Str} {u : V} {d e : PyData} (h : Smp sort u d) (he : e ∈ odds ∨ ∃ u', Smp (othS sort) u' e) : e.shown ≠ d.shown ∧ plainB sort e = false := by
  cases h with
  | whole i h1 h2 =>
    rcases he with he | ⟨u', he⟩
    · rcases odd_split he with rfl | rfl | he
      · exact ⟨whole_ne (by omega), by decide +kernel⟩
      · exact ⟨whole_ne (by omega), by decide +kernel⟩
      · obtain ⟨_, q2, q3, _⟩ := oddR_not e he
        refine ⟨fun z => ?_, q3⟩
        rw [z, chW_smp] at q2
        cases q2
    · have eo : othS "whole" = "text" := by decide +kernel
      rw [eo] at he
      generalize hz : ("text" : Str) = z at he
      cases he with
      | whole j _ _ => exact absurd hz (by decide +kernel)
      | text x a1 a2 =>
        refine ⟨fun z => ?_, ?_⟩
        · have q := not_chW a2
          rw [z, chW_smp] at q
          cases q
        · show (isS "whole" (.str "text") && (if ("whole" : Str) = "whole" then isWholeD (.str x) else isTextD (.str x))) = false
          rw [show isS "whole" (.str "text") = false by decide +kernel]
          rfl
  | text x h1 h2 =>
    rcases he with he | ⟨u', he⟩
    · rcases odd_split he with rfl | rfl | he
      · refine ⟨fun z => ?_, by decide +kernel⟩
        have q := not_chT (10 ^ 30 + 1)
        rw [show (PyData.tuple [.str "whole", .int (10 ^ 30 + 1)]).shown = _ from z, chT_smp h2 h1] at q
        cases q
      · refine ⟨fun z => ?_, by decide +kernel⟩
        have q := not_chT (-(10 ^ 30) - 1)
        rw [show (PyData.tuple [.str "whole", .int (-(10 ^ 30) - 1)]).shown = _ from z, chT_smp h2 h1] at q
        cases q
      · obtain ⟨q1, _, _, q4⟩ := oddR_not e he
        refine ⟨fun z => ?_, q4⟩
        rw [z, chT_smp h2 h1] at q1
        cases q1
    · have eo : othS "text" = "whole" := by decide +kernel
      rw [eo] at he
      generalize hz : ("whole" : Str) = z at he
      cases he with
      | text y _ _ => exact absurd hz (by decide +kernel)
      | whole j a1 a2 =>
        refine ⟨fun z => ?_, ?_⟩
        · have q := not_chT j
          rw [z, chT_smp h2 h1] at q
          cases q
        · show (isS "text" (.str "whole") && (if ("text" : Str) = "whole" then isWholeD (.int j) else isTextD (.int j))) = false
          rw [show isS "text" (.str "whole") = false by decide +kernel]
          rfl
theorem spell_len {i : Int} (h1 : -(10 ^ 30) - 1 ≤ i) (h2 : i ≤ 10 ^ 30 + 1) : (tl (Str.ofString (toString i))).length ≤ 40 := by
  have e30 : (10 : Int) ^ 30 = 1000000000000000000000000000000 := by decide
  have e31 : (10 : Nat) ^ 31 = 10000000000000000000000000000000 := by decide
  rw [e30] at h1 h2
  cases i with
  | ofNat n =>
    rw [Int.ofNat_eq_natCast] at h2
    rw [show tl (Str.ofString (toString (Int.ofNat n))) = numL n from tl_num n]
    exact Nat.le_trans (numL_len (k := 31) (by decide) (by rw [e31]; omega)) (by decide)
  | negSucc n =>
    rw [show tl (Str.ofString (toString (Int.negSucc n))) = 45 :: numL (n + 1) from tl_neg n, List.length_cons]
    have := numL_len (n := n + 1) (k := 31) (by decide) (by rw [e31]; omega)
    omega
theorem whole_len {i : Int} (h1 : -(10 ^ 30) - 1 ≤ i) (h2 : i ≤ 10 ^ 30 + 1) : (PyData.tuple [.str "whole", .int i]).shown.length ≤ 1000 := by
  have e : (PyData.tuple [.str "whole", .int i]).shown.length = (tl (PyData.tuple [.str "whole", .int i]).shown).length := rfl
  rw [e, whole_shown]
  have := spell_len h1 h2
  have e0 : hdW.length = 10 := rfl
  simp only [List.length_append, e0, List.length_cons, List.length_nil]
  omega
theorem odds_shw : ∀ e ∈ odds, e.showable = true ∧ e.depth ≤ 60 ∧ e.shown.length ≤ 1000 := by
  intro e he
  have key : ∀ e ∈ oddR, e.showable = true ∧ e.depth ≤ 60 ∧ e.shown.length ≤ 1000 := by decide +kernel
  rcases odd_split he with rfl | rfl | he
  · exact ⟨by decide +kernel, by decide +kernel, whole_len (by omega) (by omega)⟩
  · exact ⟨by decide +kernel, by decide +kernel, whole_len (by omega) (by omega)⟩
  · exact key e he
theorem Smp.shw {sort : Str} {u : V} {d : PyData} (h : Smp sort u d) : d.showable = true ∧ d.depth ≤ 60 ∧ d.shown.length ≤ 1000 := by
  cases h with
  | whole i h1 h2 =>
    refine ⟨?_, by simp [PyData.depth, PyData.depthAll], whole_len (by omega) (by omega)⟩
    have q : decide (i.natAbs.log2 < 1920) = true := decide_eq_true (Nat.lt_of_lt_of_le (PySem.Flt.log2_lt_of (by decide) (big100 (e30 ▸ h1) (e30 ▸ h2))) (by decide))
    simp only [PyData.showable, PyData.showableAll, q, Bool.and_true]
  | text x h1 h2 =>
    refine ⟨by simp only [PyData.showable, PyData.showableAll, Bool.and_true], by simp [PyData.depth, PyData.depthAll], ?_⟩
    have e : (PyData.tuple [.str "text", .str x]).shown.length = (tl (PyData.tuple [.str "text", .str x]).shown).length := rfl
    rw [e, text_shown h2]
    have e0 : hdT.length = 10 := rfl
    have e1 : (tl x).length = x.length := rfl
    simp only [List.length_append, e0, e1, List.length_cons, List.length_nil]
    omega
/-- names of no primitive that the law tries -/
def oddN : List PyData := [.str "alike", .str "less", .str "", .str "Plus", .str "plus ", .none, .int 3, .tuple [.str "plus"], .list [.str "plus"], .dict [], .bool true]
theorem oddN_bad : ∀ e ∈ oddN, badN e = true ∧ e.showable = true ∧ e.depth ≤ 60 ∧ e.shown.length ≤ 1000 := by decide +kernel
theorem odds_see : ∀ e ∈ odds, headOk e = true := by decide +kernel
end L3

/-! how long values of any kind are shown -/
namespace L3
open PySem L2
mutual
def wt : PyData → Nat
  | .list ds => 7 + wtL ds
  | .tuple ds => 7 + wtL ds
  | d => 7 + d.shown.length
def wtL : List PyData → Nat
  | [] => 0
  | d :: ds => 2 + wt d + wtL ds
end
theorem wt_tup (ds : List PyData) : wt (.tuple ds) = 7 + wtL ds := by simp only [wt]
theorem wt_lst (ds : List PyData) : wt (.list ds) = 7 + wtL ds := by simp only [wt]
theorem wtL_cons (d : PyData) (ds : List PyData) : wtL (d :: ds) = 2 + wt d + wtL ds := by simp only [wtL]
theorem wtL_app : ∀ (a b : List PyData), wtL (a ++ b) = wtL a + wtL b
  | [], b => by simp [wtL]
  | d :: a, b => by simp only [List.cons_append, wtL_cons, wtL_app a b]; omega
theorem wt_low (d : PyData) : 7 ≤ wt d := by cases d <;> simp only [wt] <;> omega
theorem wtL_len : ∀ (a : List PyData), a.length ≤ wtL a
  | [] => Nat.le_refl _
  | d :: a => by
    have := wtL_len a
    rw [wtL_cons, List.length_cons]
    omega
mutual
theorem shown_wt : ∀ (d : PyData), d.shown.length ≤ wt d
  | .none => by simp only [wt]; omega
  | .bool _ => by simp only [wt]; omega
  | .int _ => by simp only [wt]; omega
  | .str _ => by simp only [wt]; omega
  | .dict _ => by simp only [wt]; omega
  | .list ds => by
    have h := listText_len_le (PyData.shownAll ds)
    have g := shownAll_wt ds
    simp only [PyData.shown, wt]
    omega
  | .tuple ds => by
    have h := tupleText_len_le (PyData.shownAll ds)
    have g := shownAll_wt ds
    simp only [PyData.shown, wt]
    omega
theorem shownAll_wt : ∀ (ds : List PyData), ((PyData.shownAll ds).map (·.length)).sum + 2 * (PyData.shownAll ds).length ≤ wtL ds
  | [] => by simp [PyData.shownAll, wtL]
  | d :: ds => by
    have h := shown_wt d
    have g := shownAll_wt ds
    simp only [PyData.shownAll, wtL, List.map_cons, List.sum_cons, List.length_cons]
    omega
end
theorem wt_kd : ∀ {k : Kd} {n : Nat}, k.fit n → wt k.dat + 300 ≤ 500 * 2 ^ n
  | .var x, n, h => by
    have w : Wok x := by cases n <;> exact h
    have h2 := shown_word w
    have h3 := shown_var
    have : 1 ≤ 2 ^ n := Nat.one_le_two_pow
    show wt (.tuple [.str "var", .str x]) + 300 ≤ _
    rw [wt_tup, wtL_cons, wtL_cons]
    simp only [wt, wtL]
    omega
  | .con x, n, h => by
    have w : Wok x := by cases n <;> exact h
    have h2 := shown_word w
    have h3 := shown_con
    have : 1 ≤ 2 ^ n := Nat.one_le_two_pow
    show wt (.tuple [.str "con", .str x]) + 300 ≤ _
    rw [wt_tup, wtL_cons, wtL_cons]
    simp only [wt, wtL]
    omega
  | .app a b, n, h => by
    obtain ⟨m, rfl, h1, h2⟩ := Kd.fit_app h
    have i1 := wt_kd h1
    have i2 := wt_kd h2
    have h3 := shown_apply
    show wt (.tuple [.str "apply", a.dat, b.dat]) + 300 ≤ _
    rw [wt_tup, wtL_cons, wtL_cons, wtL_cons, Nat.pow_succ]
    simp only [wtL]
    have e : wt (.str "apply") = 7 + (PyData.str "apply").shown.length := by simp only [wt]
    rw [e]
    omega
end L3

namespace L3
open PySem L2 StX TL
/-- values that the law drew, of these words -/
inductive SmpsAt (H : Hp) : List Str → List V → List V → List PyData → Prop
  | nil : SmpsAt H [] [] [] []
  | cons {s : Str} {a : Addr} {c : V} {d : PyData} {ss : List Str} {us cs : List V} {ds : List PyData} : H a = some (.tup [.str s, c]) → Smp s c d → SmpsAt H ss us cs ds → SmpsAt H (s :: ss) (.ref a :: us) (c :: cs) (d :: ds)
theorem SmpsAt.mono {H H' : Hp} (e : ∀ a xs, H a = some (.tup xs) → H' a = some (.tup xs)) : ∀ {ss : List Str} {us cs : List V} {ds : List PyData}, SmpsAt H ss us cs ds → SmpsAt H' ss us cs ds
  | _, _, _, _, .nil => .nil
  | _, _, _, _, .cons a b c => .cons (e _ _ a) b (c.mono e)
theorem SmpsAt.snoc {H : Hp} {s : Str} {a : Addr} {c : V} {d : PyData} (g : H a = some (.tup [.str s, c])) (m : Smp s c d) : ∀ {ss : List Str} {us cs : List V} {ds : List PyData}, SmpsAt H ss us cs ds → SmpsAt H (ss ++ [s]) (us ++ [.ref a]) (cs ++ [c]) (ds ++ [d])
  | _, _, _, _, .nil => .cons g m .nil
  | _, _, _, _, .cons x y z => .cons x y (z.snoc g m)
theorem SmpsAt.da {t : Addr} {H : Hp} : ∀ {ss : List Str} {us cs : List V} {ds : List PyData}, SmpsAt H ss us cs ds → DaAll t H us ds
  | _, _, _, _, .nil => .nil
  | _, _, _, _, .cons x y z => .cons (y.da x) z.da
theorem SmpsAt.len {H : Hp} : ∀ {ss : List Str} {us cs : List V} {ds : List PyData}, SmpsAt H ss us cs ds → us.length = ss.length ∧ cs.length = ss.length ∧ ds.length = ss.length
  | _, _, _, _, .nil => ⟨rfl, rfl, rfl⟩
  | _, _, _, _, .cons x y z => by
    obtain ⟨a, b, c⟩ := z.len
    exact ⟨congrArg (· + 1) a, congrArg (· + 1) b, congrArg (· + 1) c⟩
theorem SmpsAt.at {H : Hp} : ∀ {ss : List Str} {us cs : List V} {ds : List PyData} {i : Nat} {s : Str}, SmpsAt H ss us cs ds → ss[i]? = some s → ∃ a c d, us[i]? = some (.ref a) ∧ cs[i]? = some c ∧ ds[i]? = some d ∧ H a = some (.tup [.str s, c]) ∧ Smp s c d
  | _, _, _, _, 0, _, .cons x y _, h => by cases h; exact ⟨_, _, _, rfl, rfl, rfl, x, y⟩
  | _, _, _, _, i + 1, _, .cons _ _ z, h => z.at (i := i) h
theorem SmpsAt.ofC {H : Hp} {ss : List Str} {us cs : List V} {ds : List PyData} {i : Nat} {c : V} (h : SmpsAt H ss us cs ds) (e : cs[i]? = some c) : ∃ a s, us[i]? = some (.ref a) ∧ H a = some (.tup [.str s, c]) := by
  obtain ⟨l1, l2, l3⟩ := h.len
  have hi : i < ss.length := by
    have := (List.getElem?_eq_some_iff.mp e).1
    omega
  obtain ⟨a, c', d, e1, e2, _, g, _⟩ := h.at (List.getElem?_eq_getElem hi)
  have z : c' = c := Option.some.inj (e2.symm.trans e)
  subst z
  exact ⟨a, _, e1, g⟩
theorem smp_whole {c : V} {d : PyData} (h : Smp "whole" c d) : ∃ i : Int, c = .int i ∧ d = .tuple [.str "whole", .int i] ∧ -(10 ^ 30) ≤ i ∧ i ≤ 10 ^ 30 := by
  generalize hz : ("whole" : Str) = z at h
  cases h with
  | whole i h1 h2 => exact ⟨i, rfl, rfl, h1, h2⟩
  | text _ _ _ => exact absurd hz (by decide +kernel)
theorem smp_text {c : V} {d : PyData} (h : Smp "text" c d) : ∃ x : Str, c = .str x ∧ d = .tuple [.str "text", .str x] ∧ x.length ≤ 200 ∧ sgs alQ x = true := by
  generalize hz : ("text" : Str) = z at h
  cases h with
  | text x h1 h2 => exact ⟨x, rfl, rfl, h1, h2⟩
  | whole _ _ _ => exact absurd hz (by decide +kernel)
theorem smp_wide {i : Int} (h1 : -(10 ^ 30) ≤ i) (h2 : i ≤ 10 ^ 30) : i.natAbs < 2 ^ 100 := big100 (e30 ▸ h1) (e30 ▸ h2)
theorem clp_in (n : Int) : -(10 ^ 30) ≤ clp n ∧ clp n ≤ 10 ^ 30 := by
  unfold clp
  rw [e30]
  omega
theorem toS_eq (i : Int) : (toString i : Str) = Str.ofString (toString i) := rfl
theorem shw_whole {n : Int} (h1 : -(10 ^ 30) ≤ n) (h2 : n ≤ 10 ^ 30) : (PyData.tuple [.str "whole", .int n]).showable = true ∧ (PyData.tuple [.str "whole", .int n]).depth ≤ 60 ∧ (PyData.tuple [.str "whole", .int n]).shown.length ≤ 1000 := (Smp.whole n h1 h2).shw
theorem shw_text {x : Str} (h1 : x.length ≤ 200) (h2 : sgs alQ x = true) : (PyData.tuple [.str "text", .str x]).showable = true ∧ (PyData.tuple [.str "text", .str x]).depth ≤ 60 ∧ (PyData.tuple [.str "text", .str x]).shown.length ≤ 1000 := (Smp.text x h1 h2).shw
theorem shw_spell {i : Int} (h1 : -(10 ^ 30) ≤ i) (h2 : i ≤ 10 ^ 30) : (PyData.tuple [.str "text", .str (toString i)]).showable = true ∧ (PyData.tuple [.str "text", .str (toString i)]).depth ≤ 60 ∧ (PyData.tuple [.str "text", .str (toString i)]).shown.length ≤ 1000 := by
  refine ⟨by simp only [PyData.showable, PyData.showableAll, Bool.and_true], by simp [PyData.depth, PyData.depthAll], ?_⟩
  have l1 : (toString i : Str).length ≤ 40 := spell_len (by omega) (by omega)
  have l2 := StrLaws.reprText_len (toString i : Str) (fun c hc => by
    have := spell_signs i c hc
    omega)
  have e : (PyData.tuple [.str "text", .str (toString i)]).shown.length = (tl (PyData.tuple [.str "text", .str (toString i)]).shown).length := rfl
  have e1 : tl (PyData.str "text").shown = [39, 116, 101, 120, 116, 39] := by decide +kernel
  have e2 : (PyData.str (toString i)).shown = reprText (toString i) := by simp only [PyData.shown]
  rw [e, two_shown, e1, e2]
  have e3 : (tl (reprText (toString i : Str))).length = (reprText (toString i : Str)).length := rfl
  simp only [List.length_append, List.length_cons, List.length_nil, e3]
  omega
theorem yn_shw (b : Bool) : (PyData.tuple [.str "made", .str (if b then "yes" else "no"), .tuple []]).showable = true ∧ (PyData.tuple [.str "made", .str (if b then "yes" else "no"), .tuple []]).depth ≤ 60 ∧ (PyData.tuple [.str "made", .str (if b then "yes" else "no"), .tuple []]).shown.length ≤ 1000 := by
  cases b <;> exact ⟨by decide +kernel, by decide +kernel, by decide +kernel⟩
/-- a primitive's result -/
theorem res_of {H : Hp} {x : Str} {us cs : List V} {ds : List PyData} (hx : x ∈ nmL) (h : SmpsAt H (rowW x) us cs ds) :
    ∃ c0 cl r, cs[0]? = some c0 ∧ cs[cs.length - 1]? = some cl ∧ Res x c0 cl r ∧ r.showable = true ∧ r.depth ≤ 60 ∧ r.shown.length ≤ 1000 := by
  have two : ∀ {s1 s2 : Str}, rowW x = [s1, s2] → ∃ c0 cl d0 d1, cs = [c0, cl] ∧ Smp s1 c0 d0 ∧ Smp s2 cl d1 := fun {s1 s2} e => by
    rw [e] at h
    cases h with
    | cons a1 b1 r1 =>
      cases r1 with
      | cons a2 b2 r2 =>
        cases r2
        exact ⟨_, _, _, _, rfl, b1, b2⟩
  have one : ∀ {s1 : Str}, rowW x = [s1] → ∃ c0 d0, cs = [c0] ∧ Smp s1 c0 d0 := fun {s1} e => by
    rw [e] at h
    cases h with
    | cons a1 b1 r1 =>
      cases r1
      exact ⟨_, _, rfl, b1⟩
  rcases nm_cases hx with rfl | rfl | rfl | rfl | rfl | rfl | rfl | rfl | rfl | rfl
  · obtain ⟨c0, cl, d0, d1, rfl, m0, m1⟩ := two (s1 := "whole") (s2 := "whole") (by decide +kernel)
    obtain ⟨i, rfl, rfl, i1, i2⟩ := smp_whole m0
    obtain ⟨j, rfl, rfl, j1, j2⟩ := smp_whole m1
    exact ⟨_, _, _, rfl, rfl, .plus i j (smp_wide i1 i2) (smp_wide j1 j2), shw_whole (clp_in _).1 (clp_in _).2⟩
  · obtain ⟨c0, cl, d0, d1, rfl, m0, m1⟩ := two (s1 := "whole") (s2 := "whole") (by decide +kernel)
    obtain ⟨i, rfl, rfl, i1, i2⟩ := smp_whole m0
    obtain ⟨j, rfl, rfl, j1, j2⟩ := smp_whole m1
    exact ⟨_, _, _, rfl, rfl, .minus i j (smp_wide i1 i2) (smp_wide j1 j2), shw_whole (clp_in _).1 (clp_in _).2⟩
  · obtain ⟨c0, cl, d0, d1, rfl, m0, m1⟩ := two (s1 := "whole") (s2 := "whole") (by decide +kernel)
    obtain ⟨i, rfl, rfl, i1, i2⟩ := smp_whole m0
    obtain ⟨j, rfl, rfl, j1, j2⟩ := smp_whole m1
    exact ⟨_, _, _, rfl, rfl, .times i j (smp_wide i1 i2) (smp_wide j1 j2), shw_whole (clp_in _).1 (clp_in _).2⟩
  · obtain ⟨c0, cl, d0, d1, rfl, m0, m1⟩ := two (s1 := "whole") (s2 := "whole") (by decide +kernel)
    obtain ⟨i, rfl, rfl, i1, i2⟩ := smp_whole m0
    obtain ⟨j, rfl, rfl, j1, j2⟩ := smp_whole m1
    exact ⟨_, _, _, rfl, rfl, .equal i j, yn_shw _⟩
  · obtain ⟨c0, cl, d0, d1, rfl, m0, m1⟩ := two (s1 := "whole") (s2 := "whole") (by decide +kernel)
    obtain ⟨i, rfl, rfl, i1, i2⟩ := smp_whole m0
    obtain ⟨j, rfl, rfl, j1, j2⟩ := smp_whole m1
    exact ⟨_, _, _, rfl, rfl, .upto i j, yn_shw _⟩
  · obtain ⟨c0, cl, d0, d1, rfl, m0, m1⟩ := two (s1 := "text") (s2 := "text") (by decide +kernel)
    obtain ⟨i, rfl, rfl, i1, i2⟩ := smp_text m0
    obtain ⟨j, rfl, rfl, j1, j2⟩ := smp_text m1
    exact ⟨_, _, _, rfl, rfl, .join i j i1 j1, shw_text (cut200 _) (sgs_cut (sgs_app i2 j2) _ _)⟩
  · obtain ⟨c0, d0, rfl, m0⟩ := one (s1 := "text") (by decide +kernel)
    obtain ⟨i, rfl, rfl, i1, i2⟩ := smp_text m0
    exact ⟨_, _, _, rfl, rfl, .size i i1, shw_whole (by rw [e30]; omega) (by rw [e30]; omega)⟩
  · obtain ⟨c0, cl, d0, d1, rfl, m0, m1⟩ := two (s1 := "text") (s2 := "text") (by decide +kernel)
    obtain ⟨i, rfl, rfl, i1, i2⟩ := smp_text m0
    obtain ⟨j, rfl, rfl, j1, j2⟩ := smp_text m1
    exact ⟨_, _, _, rfl, rfl, .eqtext i j, yn_shw _⟩
  · obtain ⟨c0, cl, d0, d1, rfl, m0, m1⟩ := two (s1 := "text") (s2 := "text") (by decide +kernel)
    obtain ⟨i, rfl, rfl, i1, i2⟩ := smp_text m0
    obtain ⟨j, rfl, rfl, j1, j2⟩ := smp_text m1
    exact ⟨_, _, _, rfl, rfl, .uptotext i j, yn_shw _⟩
  · obtain ⟨c0, d0, rfl, m0⟩ := one (s1 := "whole") (by decide +kernel)
    obtain ⟨i, rfl, rfl, i1, i2⟩ := smp_whole m0
    exact ⟨_, _, _, rfl, rfl, .spell i (smp_wide i1 i2), shw_spell i1 i2⟩
section
variable {P : Program} {w : World} {K : PySem.W.Frag} {mg : Str → Option Value} {base : Heap} {kA aA CN CV : Addr}
/-- what the two dicts of the module hold -/
structure Rw (P : Program) (w : World) (K : PySem.W.Frag) (mg : Str → Option Value) (base : Heap) (kA aA : Addr) : Prop where
  row : ∀ x ∈ nmL, ∃ wa, KDct K w kA x (.ref wa) ∧ ∀ H', SqT K H' wa ((rowW x).map V.str ++ [.str (rowL x)])
  act : ∀ x ∈ nmL, ∃ f sp, KDct K w aA x (.ref f) ∧ Does P w K mg base 3 f sp ∧ ∀ (cs : List V) (c0 cl : V) (r : PyData), cs.length = (rowW x).length → cs[0]? = some c0 → cs[cs.length - 1]? = some cl → Res x c0 cl r → ∀ H Q, (∀ H' v, Same H H' → Da 0 H' v r → Q v H') → sp cs H Q E0
theorem row_words : ∀ x ∈ nmL, (∀ wd ∈ rowW x, wd = "whole" ∨ wd = "text") ∧ rowW x ≠ [] ∧ (rowW x).length ≤ 2 := by decide +kernel
theorem badN_not {x : Str} (h : x ∈ nmL) : badN (.str x) = false := by
  show (!decide (x ∈ nmL)) = false
  rw [decide_eq_true h]
  rfl
theorem smp_see {s : Str} {c : V} {d : PyData} (h : Smp s c d) : seeOk d := by
  cases h with
  | whole i _ _ => exact ⟨rfl, fun a x e => by cases e⟩
  | text x h1 _ => exact ⟨rfl, fun a y e => by cases e; omega⟩
theorem first_right {ws : List Str} {i : Nat} : ∀ {ds : List PyData}, ws.length = i + ds.length → (∀ j d, ds[j]? = some d → badAt ws (i + j) d = false) → firstBad ws i ds = none
  | [], e, _ => if_neg (by simp at e; omega)
  | d :: ds, e, h => by
    show (if badAt ws i d then some i else firstBad ws (i + 1) ds) = none
    rw [show badAt ws i d = false from h 0 d rfl]
    exact first_right (by simp at e; omega) fun j d' e' => by
      have := h (j + 1) d' e'
      rw [show i + 1 + j = i + (j + 1) by omega]
      exact this
theorem smps_first {H : Hp} {ws : List Str} {us cs : List V} {ds : List PyData} (h : SmpsAt H ws us cs ds) : firstBad ws 0 ds = none := by
  obtain ⟨l1, l2, l3⟩ := h.len
  refine first_right (by omega) fun j d e => ?_
  have hj : j < ws.length := by
    have := (List.getElem?_eq_some_iff.mp e).1
    omega
  have ew : ws[j]? = some ws[j] := List.getElem?_eq_getElem hj
  obtain ⟨a, c, d', _, _, e3, _, m⟩ := h.at ew
  have : d' = d := Option.some.inj (e3.symm.trans e)
  subst this
  unfold badAt
  rw [Nat.zero_add, ew]
  show (!plainB ws[j] d') = false
  rw [m.plain]
  rfl
/-- right values -/
theorem tried_right (R : Rw P w K mg base kA aA) {x : Str} (hx : x ∈ nmL) {l : Addr} {H : Hp} {us cs : List V} {ds : List PyData} (gl : SqL K H l us) (h : SmpsAt H (rowW x) us cs ds) {c0 cl : V} {r : PyData} (h0 : cs[0]? = some c0) (h1 : cs[cs.length - 1]? = some cl) (hr : Res x c0 cl r) {Q : VK} {E : XK}
    (k : ∀ H' v, Same H H' → Da 0 H' v r → Q v H') : spTried P w K mg base kA aA CN CV [.str x, .ref l] H Q E := by
  obtain ⟨l1, l2, l3⟩ := h.len
  obtain ⟨r1, r2, r3⟩ := row_words x hx
  have ne : us ≠ [] := fun e => by
    rw [e] at l1
    exact r2 (List.length_eq_zero_iff.mp l1.symm)
  refine ⟨_, l, us, rfl, gl, ne, by omega, fun H1 p s1 gp => ?_⟩
  refine ⟨0, _, .str x, p, us, ds, rfl, .str x, gp, (h.da).kp (kp_same s1), by omega, fun e he => ?_, fun hb => ?_, fun _ => ?_⟩
  · obtain ⟨j, ej⟩ := List.getElem?_of_mem he
    have hj : j < (rowW x).length := by
      have := (List.getElem?_eq_some_iff.mp ej).1
      omega
    obtain ⟨a, c, d', _, _, e3, _, m⟩ := h.at (List.getElem?_eq_getElem hj)
    have : d' = e := Option.some.inj (e3.symm.trans ej)
    subst this
    exact smp_see m
  · rw [badN_not hx] at hb
    cases hb
  · obtain ⟨wa, hk, hw⟩ := R.row x hx
    obtain ⟨f, sp, ha, hD, hs⟩ := R.act x hx
    refine ⟨x, _, wa, rowW x, rfl, hk, hw, by omega, r1, fun j hj => ?_, fun _ => ⟨f, sp, cs, ha, hD, by omega, fun i u c eu ec => ?_, fun H2 s2 => ?_⟩⟩
    · rw [smps_first h] at hj
      cases hj
    · have hi : i < (rowW x).length := by
        have := (List.getElem?_eq_some_iff.mp eu).1
        omega
      obtain ⟨a, c', d', e1, e2, _, g, _⟩ := h.at (List.getElem?_eq_getElem hi)
      have z1 : V.ref a = u := Option.some.inj (e1.symm.trans eu)
      have z2 : c' = c := Option.some.inj (e2.symm.trans ec)
      subst z1 z2
      exact ⟨a, _, rfl, s1 _ _ g⟩
    · exact hs cs c0 cl r l2 h0 h1 hr H2 Q fun H' v s3 dv => k H' v (s1.trans (s2.trans s3)) dv
/-- wrong values -/
theorem tried_wrong (R : Rw P w K mg base kA aA) {x : Str} (hx : x ∈ nmL) {t l : Addr} {H : Hp} {us : List V} {ds : List PyData} (gl : SqL K H l us) (ne : us ≠ []) (l4 : us.length ≤ 4) (h : DaAll t H us ds) (hs : ∀ e ∈ ds, seeOk e) {j : Nat} (hj : firstBad (rowW x) 0 ds = some j) {Q : VK} {E : XK}
    (k : ∀ H' dx, Same H H' → H' dx = some (.xd [("index", .int (j : Int))]) → E (.ref CV) (some dx) H') : spTried P w K mg base kA aA CN CV [.str x, .ref l] H Q E := by
  obtain ⟨r1, r2, r3⟩ := row_words x hx
  refine ⟨_, l, us, rfl, gl, ne, l4, fun H1 p s1 gp => ?_⟩
  refine ⟨t, _, .str x, p, us, ds, rfl, .str x, gp, h.kp (kp_same s1), by omega, hs, fun hb => ?_, fun _ => ?_⟩
  · rw [badN_not hx] at hb
    cases hb
  · obtain ⟨wa, hk, hw⟩ := R.row x hx
    refine ⟨x, _, wa, rowW x, rfl, hk, hw, by omega, r1, fun j' hj' H' dx s2 g => ?_, fun hn => ?_⟩
    · have : j' = j := Option.some.inj (hj'.symm.trans hj)
      subst this
      exact k H' dx (s1.trans s2) g
    · rw [hj] at hn
      cases hn
/-- the name of no primitive -/
theorem tried_name {v : V} {d : PyData} {t l : Addr} {H : Hp} {us : List V} {ds : List PyData} (hd : Da t H v d) (hb : badN d = true) (gl : SqL K H l us) (ne : us ≠ []) (l4 : us.length ≤ 4) (h : DaAll t H us ds) (hs : ∀ e ∈ ds, seeOk e) {Q : VK} {E : XK}
    (k : ∀ H' dx, Same H H' → H' dx = some (.xd [("word", v)]) → E (.ref CN) (some dx) H') : spTried P w K mg base kA aA CN CV [v, .ref l] H Q E := by
  refine ⟨_, l, us, rfl, gl, ne, l4, fun H1 p s1 gp => ?_⟩
  refine ⟨t, v, d, p, us, ds, rfl, hd.kp (kp_same s1), gp, h.kp (kp_same s1), by omega, hs, fun _ H' dx s2 g => k H' dx (s1.trans s2) g, fun hf => ?_⟩
  rw [hb] at hf
  cases hf
end
end L3

namespace L3
open PySem L2
/-! values whose lists hold no value that is a reference: a list of references is none of theirs -/
def atomD : PyData → Bool
  | .none | .bool _ | .int _ | .str _ => true
  | _ => false
mutual
def flatD : PyData → Bool
  | .list ds => ds.all atomD
  | .tuple ds => flatL ds
  | .dict ds => flatKv ds
  | .none | .bool _ | .int _ | .str _ => true
def flatL : List PyData → Bool
  | [] => true
  | d :: ds => flatD d && flatL ds
def flatKv : List (PyData × PyData) → Bool
  | [] => true
  | d :: ds => flatD d.2 && flatKv ds
end
theorem atom_da {t : Addr} {H H' : Hp} {d : PyData} {v : V} (h : Da t H v d) (a : atomD d = true) : Da t H' v d ∧ ∀ x, v ≠ .ref x := by
  cases h with
  | non => exact ⟨.non, fun x z => by cases z⟩
  | bl b => exact ⟨.bl b, fun x z => by cases z⟩
  | int i => exact ⟨.int i, fun x z => by cases z⟩
  | str x => exact ⟨.str x, fun y z => by cases z⟩
  | lst => cases a
  | tup => cases a
  | dct => cases a
theorem atoms_da {t : Addr} {H H' : Hp} : ∀ {ds : List PyData} {vs : List V}, DaAll t H vs ds → ds.all atomD = true → DaAll t H' vs ds ∧ ∀ x, V.ref x ∉ vs
  | [], _, h, _ => by cases h; exact ⟨.nil, fun _ z => by cases z⟩
  | d :: ds, _, h, a => by
    rw [List.all_cons, Bool.and_eq_true] at a
    cases h with
    | cons h1 h2 =>
      obtain ⟨p1, p2⟩ := atom_da (H' := H') h1 a.1
      obtain ⟨q1, q2⟩ := atoms_da (H' := H') h2 a.2
      refine ⟨.cons p1 q1, fun x z => ?_⟩
      rcases List.mem_cons.mp z with z | z
      · exact p2 x z.symm
      · exact q2 x z
section
variable {t lw b : Addr} {H : Hp} {us0 : List V} {o : HO}
mutual
theorem Da.upL (g : H lw = some (.lst us0)) (hr : V.ref b ∈ us0) : ∀ {d : PyData} {v : V}, Da t H v d → flatD d = true → Da t (upd H lw o) v d
  | .none, _, h, _ => by cases h; exact .non
  | .bool b, _, h, _ => by cases h; exact .bl b
  | .int i, _, h, _ => by cases h; exact .int i
  | .str x, _, h, _ => by cases h; exact .str x
  | .list ds, _, h, f => by
    cases h with
    | lst h1 h2 h3 =>
      obtain ⟨q1, q2⟩ := atoms_da (H' := upd H lw o) h3 (by simpa only [flatD] using f)
      refine .lst ?_ h2 q1
      rw [upd_ne (fun z => by rw [z, g] at h1; cases h1; exact q2 b hr)]
      exact h1
  | .tuple ds, _, h, f => by
    cases h with
    | tup h1 h3 =>
      refine .tup ?_ (DaAll.upL g hr h3 (by simpa only [flatD] using f))
      rw [upd_ne (fun z => by rw [z, g] at h1; cases h1)]
      exact h1
  | .dict ds, _, h, f => by
    cases h with
    | dct h1 h2 h3 =>
      refine .dct ?_ h2 (DaKv.upL g hr h3 (by simpa only [flatD] using f))
      rw [upd_ne (fun z => by rw [z, g] at h1; cases h1)]
      exact h1
theorem DaAll.upL (g : H lw = some (.lst us0)) (hr : V.ref b ∈ us0) : ∀ {ds : List PyData} {vs : List V}, DaAll t H vs ds → flatL ds = true → DaAll t (upd H lw o) vs ds
  | [], _, h, _ => by cases h; exact .nil
  | d :: ds, _, h, f => by
    simp only [flatL, Bool.and_eq_true] at f
    cases h with
    | cons h1 h2 => exact .cons (Da.upL g hr h1 f.1) (DaAll.upL g hr h2 f.2)
theorem DaKv.upL (g : H lw = some (.lst us0)) (hr : V.ref b ∈ us0) : ∀ {ds : List (PyData × PyData)} {vs : List (Key × V)}, DaKv t H vs ds → flatKv ds = true → DaKv t (upd H lw o) vs ds
  | [], _, h, _ => by cases h; exact .nil
  | d :: ds, _, h, f => by
    simp only [flatKv, Bool.and_eq_true] at f
    cases h with
    | cons h1 h2 => exact .cons (Da.upL g hr h1 f.1) (DaKv.upL g hr h2 f.2)
end
end
theorem flatL_of : ∀ {ds : List PyData}, (∀ d ∈ ds, flatD d = true) → flatL ds = true
  | [], _ => by simp only [flatL]
  | d :: ds, h => by
    simp only [flatL, Bool.and_eq_true]
    exact ⟨h d List.mem_cons_self, flatL_of fun e he => h e (List.mem_cons_of_mem _ he)⟩
theorem DaAll.set {t : Addr} {H : Hp} {v : V} {d : PyData} (hv : Da t H v d) : ∀ {ds : List PyData} {vs : List V} (i : Nat), DaAll t H vs ds → DaAll t H (vs.set i v) (ds.set i d)
  | [], _, _, h => by cases h; exact .nil
  | e :: ds, _, 0, h => by
    cases h with
    | cons h1 h2 => exact .cons hv h2
  | e :: ds, _, i + 1, h => by
    cases h with
    | cons h1 h2 => exact .cons h1 (DaAll.set hv i h2)
theorem DaAll.take {t : Addr} {H : Hp} : ∀ {ds : List PyData} {vs : List V} (i : Nat), DaAll t H vs ds → DaAll t H (vs.take i) (ds.take i)
  | _, _, 0, _ => by rw [List.take_zero, List.take_zero]; exact .nil
  | [], _, i + 1, h => by cases h; exact .nil
  | e :: ds, _, i + 1, h => by
    cases h with
    | cons h1 h2 => exact .cons h1 (DaAll.take i h2)
end L3

/-! places: tuples of numbers; x in l, x in t for data -/
namespace L3
open PySem L2
theorem Same.seqT {K : PySem.W.Frag} {H H' : Hp} {a : Addr} {xs : List V} (e : Same H H') (h : SqT K H a xs) : SqT K H' a xs := by
  rcases h with h | h
  · rcases h with h | ⟨o, h⟩
    · exact .inl (.inl (e _ _ h))
    · exact .inl (.inr ⟨o, e _ _ h⟩)
  · exact .inr h
mutual
theorem Dp.same {K : PySem.W.Frag} {H H' : Hp} (e : Same H H') {v : V} : ∀ {d : PyData}, Dp K H v d → Dp K H' v d
  | _, .non => .non
  | _, .bl b => .bl b
  | _, .int i => .int i
  | _, .str x => .str x
  | _, .lst h hs => .lst (e.seq h) (DpAll.same e hs)
  | _, .tup h hs => .tup (Same.seqT e h) (DpAll.same e hs)
theorem DpAll.same {K : PySem.W.Frag} {H H' : Hp} (e : Same H H') : ∀ {vs : List V} {ds : List PyData}, DpAll K H vs ds → DpAll K H' vs ds
  | _, _, .nil => .nil
  | _, _, .cons a b => .cons (Dp.same e a) (DpAll.same e b)
end
mutual
theorem Da.dp {K : PySem.W.Frag} {t : Addr} {H : Hp} {v : V} : ∀ {d : PyData}, Da t H v d → d.hasDict = false → Dp K H v d
  | _, .non, _ => .non
  | _, .bl b, _ => .bl b
  | _, .int i, _ => .int i
  | _, .str x, _ => .str x
  | _, .lst h _ hs, n => .lst (SqL.of h) (DaAll.dp hs (by simpa only [PyData.hasDict] using n))
  | _, .tup h hs, n => .tup (SqT.of h) (DaAll.dp hs (by simpa only [PyData.hasDict] using n))
  | _, .dct _ _ _, n => by simp [PyData.hasDict] at n
theorem DaAll.dp {K : PySem.W.Frag} {t : Addr} {H : Hp} : ∀ {vs : List V} {ds : List PyData}, DaAll t H vs ds → PyData.hasDictAll ds = false → DpAll K H vs ds
  | _, _, .nil, _ => .nil
  | _, _, .cons a b, n => by
    simp only [PyData.hasDictAll, Bool.or_eq_false_iff] at n
    exact .cons (Da.dp a n.1) (DaAll.dp b n.2)
end
mutual
def noList : PyData → Bool
  | .list _ => false
  | .tuple ds => noListA ds
  | _ => true
def noListA : List PyData → Bool
  | [] => true
  | d :: ds => noList d && noListA ds
end
mutual
/-- data without lists stays where the tuples stay -/
theorem Dp.tups {K : PySem.W.Frag} {H H' : Hp} (k : ∀ a xs, SqT K H a xs → SqT K H' a xs) {v : V} : ∀ {d : PyData}, Dp K H v d → noList d = true → Dp K H' v d
  | _, .non, _ => .non
  | _, .bl b, _ => .bl b
  | _, .int i, _ => .int i
  | _, .str x, _ => .str x
  | _, .lst _ _, n => by simp [noList] at n
  | _, .tup h hs, n => .tup (k _ _ h) (DpAll.tups k hs (by simpa only [noList] using n))
theorem DpAll.tups {K : PySem.W.Frag} {H H' : Hp} (k : ∀ a xs, SqT K H a xs → SqT K H' a xs) : ∀ {vs : List V} {ds : List PyData}, DpAll K H vs ds → noListA ds = true → DpAll K H' vs ds
  | _, _, .nil, _ => .nil
  | _, _, .cons a b, n => by
    simp only [noListA, Bool.and_eq_true] at n
    exact .cons (Dp.tups k a n.1) (DpAll.tups k b n.2)
end
mutual
theorem Da.tups {t : Addr} {H H' : Hp} (k : ∀ a xs, H a = some (.tup xs) → H' a = some (.tup xs)) {v : V} : ∀ {d : PyData}, Da t H v d → noList d = true → d.hasDict = false → Da t H' v d
  | _, .non, _, _ => .non
  | _, .bl b, _, _ => .bl b
  | _, .int i, _, _ => .int i
  | _, .str x, _, _ => .str x
  | _, .lst _ _ _, n, _ => by simp [noList] at n
  | _, .tup h hs, n, m => .tup (k _ _ h) (DaAll.tups k hs (by simpa only [noList] using n) (by simpa only [PyData.hasDict] using m))
  | _, .dct _ _ _, _, m => by simp [PyData.hasDict] at m
theorem DaAll.tups {t : Addr} {H H' : Hp} (k : ∀ a xs, H a = some (.tup xs) → H' a = some (.tup xs)) : ∀ {vs : List V} {ds : List PyData}, DaAll t H vs ds → noListA ds = true → PyData.hasDictAll ds = false → DaAll t H' vs ds
  | _, _, .nil, _, _ => .nil
  | _, _, .cons a b, n, m => by
    simp only [noListA, Bool.and_eq_true] at n
    simp only [PyData.hasDictAll, Bool.or_eq_false_iff] at m
    exact .cons (Da.tups k a n.1 m.1) (DaAll.tups k b n.2 m.2)
end
/-- tuples stay when a list is changed -/
theorem tups_upd {K : PySem.W.Frag} {H : Hp} {l : Addr} {xs ys : List V} (h : H l = some (.lst xs)) : ∀ a zs, SqT K H a zs → SqT K (upd H l (.lst ys)) a zs := fun a zs q => by
  rcases q with q | q
  · have ne : a ≠ l := fun z => by
      rw [z] at q
      rcases q with q | ⟨o, q⟩
      · rw [h] at q
        cases q
      · rw [h] at q
        cases q
    rcases q with q | ⟨o, q⟩
    · exact .inl (.inl (by rw [upd_ne ne]; exact q))
    · exact .inl (.inr ⟨o, by rw [upd_ne ne]; exact q⟩)
  · exact .inr q
def rInDA (K : PySem.W.Frag) : R2 := fun x y H Q => ∃ d ds, Dp K H x d ∧ ((Dp K H y (.list ds) ∧ SeqAt.shaped (.list ds) = true) ∨ (Dp K H y (.tuple ds) ∧ SeqAt.shaped (.tuple ds) = true)) ∧ SeqAt.shaped d = true ∧ Q (.bl (ds.any fun z => PyData.eqv z d)) H
theorem op_inDA {X : Cx} (hu : X.A.units + 65 < cLine) : OpR X (compareOp .In) (rInDA X.K) := by
  intro pins s σ H x y v u Q I rx ry h
  obtain ⟨d, ds, hd, he, sd, q⟩ := h
  obtain ⟨as, r1⟩ := Dp.reads I d x v hd rx
  rcases he with ⟨he, se⟩ | ⟨he, se⟩
  · obtain ⟨bs, r2⟩ := Dp.reads I (.list ds) y u he ry
    exact SeqAt.in_list_reads r2 r1 (SeqAt.canLay_of_shaped se) (SeqAt.canLay_of_shaped sd) (PyProof.Rows.room_in_shaped sd hu) ⟨.bl _, H, I, rfl, q⟩
  · obtain ⟨bs, r2⟩ := Dp.reads I (.tuple ds) y u he ry
    exact SeqAt.in_tuple_reads r2 r1 (SeqAt.canLay_of_shaped se) (SeqAt.canLay_of_shaped sd) (PyProof.Rows.room_in_shaped sd hu) ⟨.bl _, H, I, rfl, q⟩
/-- a place -/
def plD (ns : List Nat) : PyData := .tuple (ns.map fun n : Nat => .int (n : Int))
def plV (ns : List Nat) : List V := ns.map fun n : Nat => .int (n : Int)
def PlAt (H : Hp) (v : V) (ns : List Nat) : Prop := ∃ a, v = .ref a ∧ H a = some (.tup (plV ns))
theorem PlAt.same {H H' : Hp} {v : V} {ns : List Nat} (h : PlAt H v ns) (s : Same H H') : PlAt H' v ns := by
  obtain ⟨a, rfl, g⟩ := h
  exact ⟨a, rfl, s _ _ g⟩
theorem dp_ints {K : PySem.W.Frag} {H : Hp} : ∀ ns : List Nat, DpAll K H (plV ns) (ns.map fun n : Nat => PyData.int (n : Int))
  | [] => .nil
  | n :: ns => .cons (.int _) (dp_ints ns)
theorem PlAt.dp {K : PySem.W.Frag} {H : Hp} {v : V} {ns : List Nat} (h : PlAt H v ns) : Dp K H v (plD ns) := by
  obtain ⟨a, rfl, g⟩ := h
  exact .tup (SqT.of g) (dp_ints ns)
theorem eqv_ints : ∀ a b : List Nat, PyData.eqvAll (a.map fun n : Nat => PyData.int (n : Int)) (b.map fun n : Nat => PyData.int (n : Int)) = decide (a = b)
  | [], [] => by simp [PyData.eqvAll]
  | [], _ :: _ => by simp [PyData.eqvAll]
  | _ :: _, [] => by simp [PyData.eqvAll]
  | m :: a, n :: b => by
    simp only [List.map_cons, PyData.eqvAll, PyData.eqv, eqv_ints a b]
    by_cases h : m = n
    · subst h
      simp
    · have : ¬ ((m : Int) = (n : Int)) := fun z => h (by omega)
      simp [h, this]
theorem eqv_pl (a b : List Nat) : PyData.eqv (plD a) (plD b) = decide (a = b) := by
  unfold plD
  simp only [PyData.eqv, eqv_ints]
/-- enumerate(l) -/
theorem walk_enumL {K : PySem.W.Frag} {a : Addr} {xs : List V} : Walk (Ite K a) xs.length (fun H => SqL K H a xs) (YPair (fun i => some (.int (i : Nat))) (fun i => xs[i]?)) := by
  refine ⟨fun i _ hi q => ⟨xs, xs[i], q, by simp [hi]⟩, fun _ q => ⟨xs, q, Nat.le_refl _⟩, fun i H v H' _ q y => ?_⟩
  obtain ⟨T, x, h1, h2, h3, h4⟩ := y
  exact ⟨T, .int (i : Nat), x, h1, h2, h3, rfl, h4 xs q⟩
theorem canLay_ints : ∀ ns : List Nat, PyData.canLayAll0 (ns.map fun n : Nat => PyData.int (n : Int)) = true
  | [] => by simp [PyData.canLayAll0]
  | n :: ns => by simp [PyData.canLayAll0, PyData.canLay0, canLay_ints ns]
theorem depth_ints : ∀ ns : List Nat, PyData.depthAll (ns.map fun n : Nat => PyData.int (n : Int)) ≤ 1
  | [] => by simp [PyData.depthAll]
  | n :: ns => by
    have := depth_ints ns
    simp only [List.map_cons, PyData.depthAll, PyData.depth]
    omega
theorem shaped_pl (ns : List Nat) : SeqAt.shaped (plD ns) = true := by
  unfold SeqAt.shaped plD
  have := depth_ints ns
  rw [Bool.and_eq_true]
  refine ⟨?_, decide_eq_true ?_⟩
  · simp only [PyData.canLay0]
    exact canLay_ints ns
  · simp only [PyData.depth]
    omega
theorem cut_take (xs : List V) (n : Nat) : cutV xs none (some (n : Int)) = xs.take n := by
  unfold cutV
  rw [HT.sIx_none, HT.sIx_nat, List.drop_zero, Nat.sub_zero]
  by_cases h : n ≤ xs.length
  · rw [Nat.min_eq_left h]
  · rw [Nat.min_eq_right (by omega), List.take_of_length_le (Nat.le_refl _), List.take_of_length_le (by omega)]
theorem cut_tail (xs : List V) : cutV xs (some 1) none = xs.tail := by
  unfold cutV
  rw [show (1 : Int) = ((1 : Nat) : Int) from rfl, HT.sIx_none, HT.sIx_nat]
  cases xs with
  | nil => rfl
  | cons x xs =>
    rw [List.length_cons, Nat.min_eq_left (by omega)]
    show xs.take _ = xs
    rw [List.take_of_length_le (by omega)]
/-- a slice of a tuple -/
theorem slA {K : PySem.W.Frag} {H : Hp} {Q : VK} {a : Addr} {xs : List V} {lo hi : Option Int} (ha : H a = some (.tup xs)) (k : ∀ H' q, Same H H' → H' q = some (.tup (cutV xs lo hi)) → Q (.ref q) H') : rSlA K (.ref a) lo hi H Q := by
  refine ⟨a, xs, rfl, SqT.of ha, fun e => k H a (Same.refl H) ?_, fun _ p hp => k _ p (same_new hp) upd_same⟩
  have z : cutV xs lo hi = xs := by
    unfold cutV
    rw [e.1, e.2, List.drop_zero, Nat.sub_zero, List.take_length]
  rw [z]
  exact ha
end L3

namespace L3
open PySem L2 StX TL
/-! the wrong values that the law makes -/
structure Fine (d : PyData) : Prop where
  sh : d.showable = true
  dep : d.depth ≤ 60
  len : d.shown.length ≤ 1000
  small : ∀ i, d = .int i → i.natAbs.log2 < 1920
  see : seeOk d
  flat : flatD d = true
def seeB (d : PyData) : Bool := headOk d && (match d with
  | .tuple [_, .str x] => decide (x.length ≤ 1000)
  | .int i => decide (i.natAbs.log2 < 1920)
  | _ => true) && flatD d
theorem seeB_ok {d : PyData} (h : seeB d = true) : seeOk d ∧ (∀ i, d = .int i → i.natAbs.log2 < 1920) ∧ flatD d = true := by
  unfold seeB at h
  rw [Bool.and_eq_true, Bool.and_eq_true] at h
  refine ⟨⟨h.1.1, fun a x e => ?_⟩, fun i e => ?_, h.2⟩
  · subst e
    exact of_decide_eq_true h.1.2
  · subst e
    exact of_decide_eq_true h.1.2
theorem odds_see2 : ∀ e ∈ odds, seeB e = true := by decide +kernel
theorem odds_fine {e : PyData} (h : e ∈ odds) : Fine e := by
  obtain ⟨a, b, c⟩ := odds_shw e h
  obtain ⟨d, f, g⟩ := seeB_ok (odds_see2 e h)
  exact ⟨a, b, c, f, d, g⟩
theorem Smp.fine {s : Str} {u : V} {d : PyData} (h : Smp s u d) : Fine d := by
  obtain ⟨a, b, c⟩ := h.shw
  refine ⟨a, b, c, fun i e => ?_, smp_see h, ?_⟩
  · subst e
    cases h
  · cases h <;> simp [flatD, flatL]
/-- an odd value where one of this word is due -/
def Odd (s : Str) (e : PyData) : Prop := e ∈ odds ∨ ∃ u, Smp (othS s) u e
theorem Odd.fine {s : Str} {e : PyData} (h : Odd s e) : Fine e := by
  rcases h with h | ⟨u, h⟩
  · exact odds_fine h
  · exact h.fine
/-- of the values ds of the words ws some ahead of i are exchanged -/
def Wr (ws : List Str) (ds es : List PyData) (i : Nat) : Prop := es.length = ds.length ∧ ∀ j e, es[j]? = some e → ds[j]? = some e ∨ (j < i ∧ ∃ s, ws[j]? = some s ∧ Odd s e)
theorem Wr.start {ws : List Str} {ds : List PyData} : Wr ws ds ds 0 := ⟨rfl, fun j e h => .inl h⟩
theorem Wr.keep {ws : List Str} {ds es : List PyData} {i : Nat} (h : Wr ws ds es i) : Wr ws ds es (i + 1) := ⟨h.1, fun j e he => by
  rcases h.2 j e he with h | ⟨h1, h2⟩
  · exact .inl h
  · exact .inr ⟨by omega, h2⟩⟩
theorem Wr.put {ws : List Str} {ds es : List PyData} {i : Nat} {s : Str} {d : PyData} (h : Wr ws ds es i) (hs : ws[i]? = some s) (o : Odd s d) : Wr ws ds (es.set i d) (i + 1) := ⟨by rw [List.length_set, h.1], fun j e he => by
  by_cases c : i = j
  · subst c
    by_cases c2 : i < es.length
    · rw [List.getElem?_set_self c2] at he
      cases he
      exact .inr ⟨by omega, s, hs, o⟩
    · rw [List.getElem?_eq_none (by rw [List.length_set]; omega)] at he
      cases he
  · rw [List.getElem?_set_ne c] at he
    rcases h.2 j e he with h | ⟨h1, h2⟩
    · exact .inl h
    · exact .inr ⟨by omega, h2⟩⟩
theorem SmpsAt.fine {H : Hp} : ∀ {ws : List Str} {us cs : List V} {ds : List PyData}, SmpsAt H ws us cs ds → ∀ e ∈ ds, Fine e
  | _, _, _, _, .nil, _, h => by cases h
  | _, _, _, _, .cons _ m z, e, h => by
    rcases List.mem_cons.mp h with rfl | h
    · exact m.fine
    · exact z.fine e h
theorem Wr.fine {H : Hp} {ws : List Str} {us cs : List V} {ds es : List PyData} {i : Nat} (h : SmpsAt H ws us cs ds) (w : Wr ws ds es i) : ∀ e ∈ es, Fine e := fun e he => by
  obtain ⟨j, hj⟩ := List.getElem?_of_mem he
  rcases w.2 j e hj with h1 | ⟨_, s, _, o⟩
  · exact h.fine e (List.mem_of_getElem? h1)
  · exact o.fine
theorem range_put (p : Nat → Bool) (i : Nat) (f : Nat → V) : ((List.range (i + 1)).filter p).map f = ((List.range i).filter p).map f ++ (if p i = true then [f i] else []) := by
  rw [List.range_succ, List.filter_append, List.map_append]
  congr 1
  cases h : p i <;> simp [List.filter_cons, h]
theorem first_eq {ws : List Str} {p : Nat → Bool} : ∀ {ds : List PyData} {i : Nat}, (∀ j d, ds[j]? = some d → badAt ws (i + j) d = p (i + j)) →
    firstBad ws i ds = match (List.range' i ds.length).filter p with
      | j :: _ => some j
      | [] => if i + ds.length < ws.length then some (i + ds.length) else none
  | [], i, _ => rfl
  | d :: ds, i, h => by
    have h0 : badAt ws i d = p i := h 0 d rfl
    have ih := first_eq (ws := ws) (p := p) (ds := ds) (i := i + 1) fun j d' e' => by
      have := h (j + 1) d' e'
      rw [show i + 1 + j = i + (j + 1) by omega]
      exact this
    show (if badAt ws i d then some i else firstBad ws (i + 1) ds) = _
    rw [h0, List.length_cons, List.range'_succ, List.filter_cons]
    cases hp : p i with
    | true => rfl
    | false =>
      rw [ih]
      have : i + 1 + ds.length = i + (ds.length + 1) := by omega
      rw [this]
      rfl
/-- whether the law finds the value at j wrong -/
def wrongP (ds W : List PyData) (j : Nat) : Bool := decide (ds.length ≤ j) || !decide ((W[j]?.map PyData.shown) = (ds[j]?.map PyData.shown))
theorem wrong_eq {H : Hp} {ws : List Str} {us cs : List V} {ds es : List PyData} {r : List PyData} {n : Nat} (h : SmpsAt H ws us cs ds) (w : Wr ws ds es ws.length) : ∀ j d, ((es ++ r).take n)[j]? = some d → badAt ws (0 + j) d = wrongP ds ((es ++ r).take n) (0 + j) := by
  intro j d e
  rw [Nat.zero_add]
  obtain ⟨l1, l2, l3⟩ := h.len
  unfold wrongP
  rw [e]
  have hjn : j < n := by
    have := (List.getElem?_eq_some_iff.mp e).1
    rw [List.length_take] at this
    omega
  by_cases c : j < ws.length
  · rw [decide_eq_false (by omega : ¬ ds.length ≤ j), Bool.false_or]
    rw [List.getElem?_take_of_lt hjn, List.getElem?_append_left (by rw [w.1]; omega)] at e
    obtain ⟨a, cc, d', e1, e2, e3, _, m⟩ := h.at (List.getElem?_eq_getElem c)
    unfold badAt
    rw [List.getElem?_eq_getElem c]
    show (!plainB ws[j] d) = _
    rw [e3]
    rcases w.2 j d e with h1 | ⟨_, s, h2, o⟩
    · have z : d' = d := Option.some.inj (e3.symm.trans h1)
      subst z
      rw [m.plain, decide_eq_true rfl]
    · have z : ws[j] = s := by
        rw [List.getElem?_eq_getElem c] at h2
        exact Option.some.inj h2
      subst z
      obtain ⟨q1, q2⟩ := odd_ne m o
      rw [q2]
      show (!false) = !decide (some d.shown = some d'.shown)
      rw [decide_eq_false (fun z => q1 (Option.some.inj z))]
  · rw [decide_eq_true (by omega : ds.length ≤ j), Bool.true_or]
    unfold badAt
    rw [List.getElem?_eq_none (by omega)]
theorem first_wrong {H : Hp} {ws : List Str} {us cs : List V} {ds es : List PyData} {r W : List PyData} {n : Nat} (h : SmpsAt H ws us cs ds) (w : Wr ws ds es ws.length) (hW : W = (es ++ r).take n) :
    firstBad ws 0 W = match (List.range W.length).filter (wrongP ds W) with
      | j :: _ => some j
      | [] => if W.length < ws.length then some W.length else none := by
  subst hW
  have := first_eq (ws := ws) (i := 0) (wrong_eq (r := r) (n := n) h w)
  rw [Nat.zero_add] at this
  rw [this, List.range_eq_range']
/-- the index that the law waits for -/
theorem first_due {H : Hp} {ws : List Str} {us cs : List V} {ds es : List PyData} {r W : List PyData} {n : Nat} (h : SmpsAt H ws us cs ds) (w : Wr ws ds es ws.length) (hW : W = (es ++ r).take n) {bs : List Nat} (hb : bs = (List.range W.length).filter (wrongP ds W)) (no : ¬ (bs = [] ∧ W.length = ds.length)) :
    ∃ j, firstBad ws 0 W = some j ∧ (bs ++ [W.length])[0]? = some j ∧ j ≤ W.length := by
  obtain ⟨l1, l2, l3⟩ := h.len
  have e := first_wrong h w hW
  rw [← hb] at e
  cases bs with
  | cons b r =>
    have hm : b ∈ (List.range W.length).filter (wrongP ds W) := hb ▸ List.mem_cons_self
    have := List.mem_range.mp (List.mem_filter.mp hm).1
    exact ⟨b, e, rfl, by omega⟩
  | nil =>
    have n1 : W.length ≠ ds.length := fun z => no ⟨rfl, z⟩
    have n2 : ¬ ds.length < W.length := fun z => by
      have : ds.length ∈ (List.range W.length).filter (wrongP ds W) := List.mem_filter.mpr ⟨List.mem_range.mpr z, by unfold wrongP; rw [decide_eq_true (Nat.le_refl _), Bool.true_or]⟩
      rw [← hb] at this
      cases this
    have e : firstBad ws 0 W = if W.length < ws.length then some W.length else none := e
    rw [if_pos (by omega)] at e
    exact ⟨_, e, rfl, Nat.le_refl _⟩
theorem shw_small : ∀ j : Nat, j ≤ 4 → Shw (.int (j : Int)) := by
  intro j hj
  have : j = 0 ∨ j = 1 ∨ j = 2 ∨ j = 3 ∨ j = 4 := by omega
  rcases this with rfl | rfl | rfl | rfl | rfl <;> exact ⟨by decide +kernel, by decide +kernel, by rw [sizeLine_eq]; exact Nat.le_trans (show _ ≤ 10 by decide +kernel) (by omega), fun i e => by cases e; decide⟩
end L3

/-! defs that are called where nothing is being shown, and whose code object is known -/
namespace L3
open PySem PySem.Spec PyProof.Rows L2
section
variable {P : Program} {w : World} {K : PySem.W.Frag} {mg : Str → Option Value} {base : Heap}
theorem fnG_code {cD : Addr} {qual : Str} {st : Stmt} {f : Addr} {fd : FuncData} {N ps : List Str} {k : Nat} {sp : Sp} (F : Fun K qual qual st f fd) (hco : fd.code = .ref cD) (S : FnScope N ps (defScope st)) (len : ∀ vs H Q E, sp vs H Q E → vs.length = ps.length) (hb : Binds K fd ps [])
    (hbody : ∀ (A : Around) (outer : List Env) (s : Shared) (H : Hp) (vs : List V) (Q : VK), Room k (A.deeper (envOfC qual (defScope st) s.heap.objs.size f (.ref cD))) → A.guards = some [] → sp vs H Q E0 →
      ∃ t, PSs (cxOf CX0 P w K mg base N qual (defScope st) f (.ref cD) A outer s H E0).nox (defBody st) t ∧ t { nx := fun _ H' => Q .non H', rt := Q } (start N vs) H) : FnG P w K mg base (k + 1) f sp := by
  obtain ⟨oc, od, kV, doc, pm, an, cdv, ct, osl, rfl, lk, hcd⟩ := F.ex
  have ec : cdv = .ref cD := hco
  subst ec
  intro A outer s H us vs Q hr h0 e0 rv hsp
  have inK : K.In s.heap := e0.mod.kin.keeps fun b o z => (e0.bs b o z).1
  have noL : s.heap.NoLimit := e0.mod.nolimit.keeps fun b o z => (e0.bs b o z).1
  have hl := len _ _ _ _ hsp
  have kinds : ∀ y ∈ (ps.zip us : List (Str × Value)), (defScope st).names.lookup y.1 = some .local ∨ ((defScope st).names.lookup y.1 = some .cell ∧ ((cellsFrom (s.heap.objs.size + 1) (defScope st).names []).lookup y.1).isSome = true) := by
    rintro ⟨n, z⟩ hy
    rcases S.par n (List.of_mem_zip hy).1 with q | q
    · exact Or.inl q
    · exact Or.inr ⟨q, PySem.W.cellsFrom_some _ _ _ (Or.inl q)⟩
  have bd : BindsTo s (PySem.W.fnOf qual qual (defArgs st) (defBody st) (defScope st) .none kV doc pm an (.ref cD) ct) ⟨us, []⟩ (ps.zip (us ++ [])) := hb s us inK (by rw [List.append_nil, ← rv.length]; exact hl)
  rw [List.append_nil] at bd
  refine codeAny_call_function hr.depth (inK _ _ lk) rfl S.co S.gen rfl (PySem.W.codeRec_of inK hcd) (bd _ _ _ _ ?_)
  refine wpAny_newFunctionEnv_cells S.kind kinds fun env he s1 xx => ?_
  subst he
  refine ⟨noL.keeps xx.toInCall.keep, codeAny_func ?_⟩
  obtain ⟨t, ht, hq⟩ := hbody A outer s H vs Q (hr.deeper _) h0 hsp
  have J : Inv (cxOf CX0 P w K mg base N qual (defScope st) f (.ref cD) A outer s H E0) [] (start N vs) H s1 := inv_start S hr.hd e0 hl rv xx
  refine wpAny_mono ((PSs.nox ht).run [] s1 (start N vs) H _ J hq) (fun fl s' hs => ?_) (fun e s' hs => hs)
  cases fl with
  | next =>
    obtain ⟨σ', H', J', q⟩ := hs
    exact ⟨V.non, H', J'.os, J'.bare, J'.base, J'.hok, rfl, q⟩
  | ret z =>
    obtain ⟨v', σ', H', J', rz, q⟩ := hs
    exact ⟨v', H', J'.os, J'.bare, J'.base, J'.hok, rz, q⟩
  | brk =>
    obtain ⟨_, _, _, q⟩ := hs
    exact q.elim
  | cont =>
    obtain ⟨_, _, _, q⟩ := hs
    exact q.elim
end
end L3

namespace L3
open PySem PySem.Spec PyProof.Rows L2 LamX
/-! what stays when only tables change; tables stay when the tape moves -/
theorem dk_ne_code {c : Addr} {q : Str} (kvs : List (Key × V)) : CodeO c q ≠ .dK kvs := fun z => by
  unfold CodeO at z
  cases z
theorem tabs_ext {K : PySem.W.Frag} {t c : Addr} {b : Nat} {H H' : Hp} {T : List (Addr × Str)} (h : Tabs T H) (e : Ext t H H') (tp : Tape K H t c b) : Tabs T H' := fun p hp => by
  obtain ⟨ps, h1, h2, h3⟩ := h p hp
  obtain ⟨kvs, hd⟩ := tp.dict
  refine ⟨ps, e _ _ (fun z => by rw [z, hd] at h1; cases h1) h1, h2, fun pos cv hc => ?_⟩
  obtain ⟨c0, e1, e2⟩ := h3 pos cv hc
  exact ⟨c0, e1, e _ _ (fun z => by rw [z, hd] at e2; exact dk_ne_code _ (Option.some.inj e2).symm) e2⟩
theorem tape_extN {K : PySem.W.Frag} {t c : Addr} {b : Nat} {H H' : Hp} (h : Tape K H t c b) (e : ExtN H H') : Tape K H' t c b := by
  obtain ⟨p, l, ns, h1, h2, h3⟩ := h
  refine ⟨p, l, ns, e _ _ h1 (fun ps z => by cases z), ?_, h3⟩
  rcases h2 with (h | ⟨o, h⟩) | h
  · exact .inl (.inl (e _ _ h fun ps z => by cases z))
  · exact .inl (.inr ⟨o, e _ _ h fun ps z => by cases z⟩)
  · exact .inr h
theorem kp_extN {t : Addr} {H H' : Hp} (e : ExtN H H') : Kp t H H' := ⟨fun a xs h => e _ _ h (fun ps z => by cases z), fun a xs h => e _ _ h (fun ps z => by cases z), fun a kvs _ h => e _ _ h (fun ps z => by cases z)⟩
/-- all but the tape and the tables is kept -/
def XtN (t : Addr) (H H' : Hp) : Prop := ∀ b o, b ≠ t → H b = some o → (∀ ps, o ≠ .tbl ps) → H' b = some o
theorem XtN.ext {t : Addr} {H H' : Hp} (e : Ext t H H') : XtN t H H' := fun b o n h _ => e b o n h
theorem XtN.extN {t : Addr} {H H' : Hp} (e : ExtN H H') : XtN t H H' := fun b o _ h n => e b o h n
theorem XtN.same {t : Addr} {H H' : Hp} (e : Same H H') : XtN t H H' := fun b o _ h _ => e b o h
theorem XtN.trans {t : Addr} {H H1 H2 : Hp} (a : XtN t H H1) (b : XtN t H1 H2) : XtN t H H2 := fun c o n h m => b c o n (a c o n h m) m
theorem XtN.lst {t : Addr} {H H' : Hp} (e : XtN t H H') {a : Addr} {xs : List V} (n : a ≠ t) (h : H a = some (.lst xs)) : H' a = some (.lst xs) := e a _ n h fun ps z => by cases z
theorem XtN.kp {K : PySem.W.Frag} {t c : Addr} {b : Nat} {H H' : Hp} (e : XtN t H H') (T : Tape K H t c b) : Kp t H H' := by
  obtain ⟨kvs, h⟩ := T.dict
  exact ⟨fun a xs g => e a _ (fun z => by rw [z, h] at g; cases g) g (fun ps z => by cases z), fun a xs g => e a _ (fun z => by rw [z, h] at g; cases g) g (fun ps z => by cases z), fun a kvs n g => e a _ n g (fun ps z => by cases z)⟩
end L3

namespace L3
open PySem L2 StX LamX
theorem at_m1 {α : Type} {xs : List α} {v : α} (h : xs[xs.length - 1]? = some v) : atI xs (-1) = some v := by
  have hl := (List.getElem?_eq_some_iff.mp h).1
  unfold atI ixN
  rw [if_neg (by decide), if_pos (by omega)]
  show xs[_]? = some v
  rw [← h]
  congr 1
  omega
theorem key_len {K : PySem.W.Frag} {t c : Addr} {b : Nat} {H : Hp} {F : Hp → Int → Prop} {G : Prop} (g : (∀ H1 n, Ext t H H1 → Tape K H1 t c b → 1 ≤ n → n ≤ 4 → F H1 n) → G)
    (h : ∀ H1 n, Ext t H H1 → Tape K H1 t c b → 1 ≤ n → n ≤ 4 → F H1 n) : G := g h
theorem shown_ok : ∀ j : Nat, j ≤ 4 → PyData.strOk (PyData.int (j : Int)).shown = true := by
  intro j hj
  have : j = 0 ∨ j = 1 ∨ j = 2 ∨ j = 3 ∨ j = 4 := by omega
  rcases this with rfl | rfl | rfl | rfl | rfl <;> decide +kernel
theorem key_same {H : Hp} {N : Prop} {F : Hp → Prop} {G : Prop} (g : (∀ H1, Same H H1 → N → F H1) → G) (h : ∀ H1, Same H H1 → N → F H1) : G := g h
section
variable {P : Program} {w : World} {K : PySem.W.Frag} {mg : Str → Option Value} {base : Heap} {kA aA CN CV : Addr}
abbrev s__law_done_right : Stmt := topS 84
abbrev N__law_done_right : List Str := ["_law_tape", "_law_which", "_law_sorts_here", "_law_some", "_law_due", "_law_at", "_law_k", "_law_bad", "_law_wrong", "_law_sort"]
theorem sc__law_done_right : FnScope N__law_done_right ["_law_tape", "_law_which"] (defScope s__law_done_right) := ⟨rfl, rfl, rfl, by decide +kernel, rfl, by decide +kernel, by decide +kernel⟩
def spRight (K : PySem.W.Frag) (T : List (Addr × Str)) : Sp := fun vs H Q _ => ∃ (t c : Addr) (x : Str) (b : Nat), vs = [.ref t, .str x] ∧ x ∈ nmL ∧ Tape K H t c (b + 60) ∧ Tabs T H ∧ ∀ H', XtN t H H' → Tape K H' t c b → Tabs T H' → Q (.bl true) H'
theorem ok_right {f g cD Pt : Addr} {fd fdm : FuncData} {T : List (Addr × Str)} (F : Fun K "_law_done_right" "_law_done_right" s__law_done_right f fd) (hco : fd.code = .ref cD) (TB : TabB base mg cD Pt) (hb : Binds K fd ["_law_tape", "_law_which"] [])
    (hmT : (Pt, ("_law_done_right" : Str) ++ ".<locals>." ++ ("<lambda>" : Str)) ∈ T) (huT : ∀ p ∈ T, p.1 = Pt → p.2 = ("_law_done_right" : Str) ++ ".<locals>." ++ ("<lambda>" : Str))
    (B : Bl mg) (B9 : Bl9 mg) (hVE : mg "ValueError" = none) (hLE : mg "LookupError" = none) (hV : E1 P w K mg base "InvalidValue" "index" mroV "ValueError.__new__" CV) (hN : E1 P w K mg base "NoPrimitive" "word" mroL "LookupError.__new__" CN) (hVN : CV ≠ CN) (R : Rw P w K mg base kA aA)
    (FM : Fun K "_law_refused" "_law_refused" s__law_refused g fdm) (hmm : mg "_law_refused" = some (.ref g)) (hbm : L2.Binds K fdm ["_law_call"] [])
    (D__law_sorts : Kn P w K mg base 1 "_law_sorts" ["_law_which"] spSorts) (D__law_sample : Kn P w K mg base 3 "_law_sample" ["_law_tape", "_law_sort"] (spSample K)) (D__law_odd : Kn P w K mg base 4 "_law_odd" ["_law_tape", "_law_sort"] (spOdd K)) (D__law_draw : Kn P w K mg base 1 "_law_draw" ["_law_tape", "_law_many"] (spDraw K))
    (D__law_made : Kn P w K mg base 1 "_law_made" ["_law_which", "_law_one", "_law_other"] spLMade) (D__law_tried : KnX P w K mg base 5 "_law_tried" ["_law_which", "_law_some"] (spTried P w K mg base kA aA CN CV)) : FnG P w K mg base 9 f (spRight K T) := by
  obtain ⟨oc, od, kV, doc, pm, an, cdm, ct, osl, rfl, lkm, hcm⟩ := FM.ex
  have hkm := FM.kp
  refine fnG_code (k := 8) F hco sc__law_done_right (fun vs H Q E h => ?_) hb (fun A outer s H vs Q hr h0 h => ?_)
  · obtain ⟨t, c, x, b, rfl, _⟩ := h
    rfl
  obtain ⟨t, c, x, b, rfl, hx, T0, tb0, k⟩ := h
  have hgd : (A.deeper (PyProof.Rows.envOfC "_law_done_right" (defScope s__law_done_right) s.heap.objs.size f (.ref cD))).guards = some [] := grd_deep h0
  have hr__law_sorts : Room 1 _ := hr.mono (by decide)
  have hr__law_sample : Room 3 _ := hr.mono (by decide)
  have hr__law_odd : Room 4 _ := hr.mono (by decide)
  have hr__law_draw : Room 1 _ := hr.mono (by decide)
  have hr__law_made : Room 1 _ := hr.mono (by decide)
  have hr__law_tried : Room 5 _ := hr.mono (by decide)
  have hr_lam : Room 7 _ := hr.mono (by decide)
  have hu64 := hr.units
  have huA : ∀ env, ((A.deeper (PyProof.Rows.envOfC "_law_done_right" (defScope s__law_done_right) s.heap.objs.size f (.ref cD))).deeper env).units + 64 < cLine := fun env => (Room.deeper (hr.mono (show 7 + 1 ≤ 8 by decide)) env).units
  have hcode : (cxOf CX0 P w K mg base N__law_done_right "_law_done_right" (defScope s__law_done_right) f (.ref cD) A outer s H E0).nox.env.code = .ref cD := rfl
  refine ⟨_, (pss_cons (ps_set (i := 2) sc__law_done_right.nd rfl (Or.inl rfl) (pe_kn D__law_sorts hr__law_sorts (pa_cons (pv 1) pa_nil)))
  (pss_cons (ps_set (i := 3) sc__law_done_right.nd rfl (Or.inr rfl) (pe_lc (own := [("_law_sort", 9)]) rfl sc__law_done_right.nd (pi_list (pe_slice sl_list (pv 2) po_none (po_some (pe_un un_neg pe_int)))) (blkOk_by (N := N__law_done_right) (sc := (defScope s__law_done_right)) (own := [("_law_sort", 9)]) (by decide +kernel)) (fun _ _ _ _ _ => (pg_name (i := 9) sc__law_done_right.nd rfl (Or.inl rfl))) (fun _ _ _ _ _ => pts_nil) (fun _ _ _ _ _ => (pe_kn D__law_sample hr__law_sample (pa_cons (pv 0) (pa_cons (pv 9) pa_nil))))))
  (pss_cons (ps_set (i := 4) sc__law_done_right.nd rfl (Or.inl rfl) (pe_kn D__law_made hr__law_made (pa_cons (pv 1) (pa_cons (pe_ix ix_tup (pe_ix ix_list (pv 3) pe_int (fun _ _ => rfl)) pe_int (fun _ _ => rfl)) (pa_cons (pe_ix ix_tup (pe_ix ix_list (pv 3) (pe_un un_neg pe_int) (fun _ _ => rfl)) pe_int (fun _ _ => rfl)) pa_nil)))))
  (pss_cons (ps_if (PW.pt (pw_or (pt_cmpR op_ne (pe_callB (call_reprAny hgd hu64) (by rfl) B.repr (by decide +kernel) (pa_cons (pe_knX D__law_tried hr__law_tried (E := E0) LamX.takes0 (pa_cons (pv 1) (pa_cons (pv 3) pa_nil))) pa_nil)) (pe_callB (call_reprAny hgd hu64) (by rfl) B.repr (by decide +kernel) (pa_cons (pv 4) pa_nil)) (nomark _)) (pw_or1 (pt_cmpR op_ne (pe_callB (call_reprAny hgd hu64) (by rfl) B.repr (by decide +kernel) (pa_cons (pe_knX D__law_tried hr__law_tried (E := E0) LamX.takes0 (pa_cons (pv 1) (pa_cons (pe_callTy call_list_of (by rfl) B.list (by decide +kernel) (pa_cons (pv 3) pa_nil)) pa_nil))) pa_nil)) (pe_callB (call_reprAny hgd hu64) (by rfl) B.repr (by decide +kernel) (pa_cons (pv 4) pa_nil)) (nomark _)))))
  (pss_one (ps_ret pe_bl))
  pss_nil)
  (pss_cons (ps_asg (pe_tup (pa_cons (pe_callTy call_list_of (by rfl) B.list (by decide +kernel) (pa_cons (pv 3) pa_nil)) (pa_cons (pe_kn D__law_draw hr__law_draw (pa_cons (pv 0) (pa_cons pe_int pa_nil))) pa_nil))) (pg_tup (by rfl) (pgs_cons (pg_name (i := 8) sc__law_done_right.nd rfl (Or.inr rfl)) (pgs_cons (pg_name (i := 5) sc__law_done_right.nd rfl (Or.inl rfl)) pgs_nil))))
  (pss_cons (ps_for PassesOwn.never rfl (pi_range1 (by rfl) B.range (pa_cons (pe_callB call_len (by rfl) B.len PySem.boot_len (pa_cons (pv 3) pa_nil)) pa_nil)) (pg_name (i := 6) sc__law_done_right.nd rfl (Or.inl rfl))
  (pss_one (ps_if (pt_cmpR op_eq (pe_kn D__law_draw hr__law_draw (pa_cons (pv 0) (pa_cons pe_int pa_nil))) pe_int (nomark _))
  (pss_one (ps_asg (pe_kn D__law_odd hr__law_odd (pa_cons (pv 0) (pa_cons (pe_ix ix_list (pv 2) (pv 6) (fun _ _ => rfl)) pa_nil))) (pg_sub (pv 8) (pv 6) set_list)))
  pss_nil)))
  (pss_cons (ps_set (i := 8) sc__law_done_right.nd rfl (Or.inr rfl) (pe_slice sl_list (pe_op op_cat (pv 8) (pe_lst (pa_cons (pe_kn D__law_sample hr__law_sample (pa_cons (pv 0) (pa_cons pe_str pa_nil))) (pa_cons (pe_kn D__law_odd hr__law_odd (pa_cons (pv 0) (pa_cons pe_str pa_nil))) pa_nil)))) po_none (po_some (pe_ifExp (pt_cmpR op_eq (pe_kn D__law_draw hr__law_draw (pa_cons (pv 0) (pa_cons pe_int pa_nil))) pe_int (nomark _)) (pe_op op_add (pv 5) pe_int) (pe_callB call_len (by rfl) B.len PySem.boot_len (pa_cons (pv 3) pa_nil))))))
  (pss_cons (ps_setLc (i := 7) (own := [("_law_k", 6)]) rfl sc__law_done_right.nd rfl rfl (sw_true rfl rfl rfl (by decide +kernel)) (pi_range1 (by rfl) B.range (pa_cons (pe_callB call_len (by rfl) B.len PySem.boot_len (pa_cons (pv 8) pa_nil)) pa_nil)) (blkOk_by (N := N__law_done_right) (sc := (defScope s__law_done_right)) (own := [("_law_k", 6)]) (by decide +kernel)) (fun _ _ _ _ _ => (pg_name (i := 6) sc__law_done_right.nd rfl (Or.inl rfl))) (fun _ _ _ _ _ => (pts_one (PW.pt (pw_or (pt_cmpR op_ge (pv 6) (pe_callB (show CallR _ (.builtin "len") (fun xs H Q => ∃ x n, xs = [x] ∧ LenV K x H n ∧ Q (.int n) H) from call_len) (by rfl) B.len PySem.boot_len (pa_cons (pv 3) pa_nil)) (nomark _)) (pw_or1 (pt_cmpR op_ne (pe_callB (show CallR _ (.builtin "repr") (fun xs H Q => ∃ t, rReprV t xs H Q) from call_reprAny hgd hu64) (by rfl) B.repr (by decide +kernel) (pa_cons (pe_ix (show IxR _ (rIxL K) from ix_list) (pv 8) (pv 6) (fun _ _ => rfl)) pa_nil)) (pe_callB (show CallR _ (.builtin "repr") (fun xs H Q => ∃ t, rReprV t xs H Q) from call_reprAny hgd hu64) (by rfl) B.repr (by decide +kernel) (pa_cons (pe_ix (show IxR _ (rIxL K) from ix_list) (pv 3) (pv 6) (fun _ _ => rfl)) pa_nil)) (nomark _))))))) (fun _ _ _ _ _ => (pv 6)))
  (pss_cons (ps_if (PW.pt (pw_and (pt_cmpR (op_eqNilL hu64) (pv 7) (pe_lst pa_nil) (nomark _)) (pw_and1 (pt_cmpR op_eq (pe_callB call_len (by rfl) B.len PySem.boot_len (pa_cons (pv 8) pa_nil)) (pe_callB call_len (by rfl) B.len PySem.boot_len (pa_cons (pv 3) pa_nil)) (nomark _)))))
  (pss_one (ps_ret pe_bl))
  pss_nil)
  (pss_one (ps_ret (pe_cmpR (op_eqD hu64) (pe_lamcall (k := 5) (T := T) (TT := TTref CV CN) (t := fun E => tCall (spTried P w K mg base kA aA CN CV) [] E (tCons (tVar 1) (tCons (tVar 8) tNil))) (by rfl) hmm hkm lkm hcm hbm sc__law_refused rfl (Or.inl rfl) (ref_gives hV hN hVN B B9 hVE hLE hgd huA) TB hcode hmT huT hr_lam (lamS_by (by show lamSB (defScope s__law_done_right) _ = true; decide +kernel)) (by rfl) (fun _ _ _ _ _ => by rfl) (fun A outer s H E f c hr0 => pe_knX D__law_tried hr0 (takes_of rfl rfl rfl rfl) (pa_cons (pv 1) (pa_cons (pv 8) pa_nil)))) (pe_lst (pa_cons pe_str (pa_cons (pe_callB (call_reprAny hgd hu64) (by rfl) B.repr (by decide +kernel) (pa_cons (pe_ix ix_list (pe_op op_cat (pv 7) (pe_lst (pa_cons (pe_callB call_len (by rfl) B.len PySem.boot_len (pa_cons (pv 8) pa_nil)) pa_nil))) pe_int (fun _ _ => rfl)) pa_nil)) (pa_cons pe_bl pa_nil)))) (nomark _))))))))))))), ?_⟩
  refine ⟨_, rfl, x, rfl, hx, fun H1 ls s1 nls gls => ?_⟩
  have T1 := T0.same s1
  have tb1 := tb0.ext s1
  obtain ⟨rw1, rw2, rw3⟩ := row_words x hx
  have cutw : cutV ((rowW x ++ [rowL x]).map V.str) none (some (-1)) = (rowW x).map V.str := by
    rw [List.map_append]
    exact cut_lastS _ _
  refine ⟨_, rfl, _, rfl, _, rfl, ls, _, rfl, SqL.of gls, fun q hq => ?_⟩
  rw [cutw]
  have s2 : Same H1 (upd H1 q (.lst ((rowW x).map V.str))) := same_new hq
  have T2 := T1.same s2
  have tb2 := tb1.ext s2
  have gq : (upd H1 q (.lst ((rowW x).map V.str))) q = some (.lst ((rowW x).map V.str)) := upd_same
  have gls2 := s2 _ _ gls
  have nls2 : ls ≠ t := fun z => by
    obtain ⟨kvs, hd⟩ := T2.dict
    rw [← z, gls2] at hd
    cases hd
  have nq2 : q ≠ t := fun z => by
    obtain ⟨kvs, hd⟩ := T2.dict
    rw [← z, gq] at hd
    cases hd
  generalize upd H1 q (.lst ((rowW x).map V.str)) = H2 at s2 T2 tb2 gq gls2 ⊢
  obtain ⟨m, hm⟩ : ∃ m, m = (rowW x).length := ⟨_, rfl⟩
  have lw : ((rowW x).map V.str).length = m := by rw [List.length_map, hm]
  refine ⟨q, rfl, ⟨_, SqL.of gq⟩, fun D hD => lc_it walk_list (fun i H' => Ext t H2 H' ∧ Tape K H' t c (b + 46 + 7 * (m - i)) ∧ ∃ us cs ds, H' D = some (.lst us) ∧ SmpsAt H' ((rowW x).take i) us cs ds) ⟨Ext.new hD, (T2.less (by omega)).new hD, [], [], [], upd_same, .nil⟩ (fun i H' _ h => SqL.ext (SqL.of gq) h.1 nq2) ?_ ?_⟩
  · rintro i y H3 H4 hi ⟨e3, T3, us, cs, ds, gD, sm⟩ ⟨rfl, ey⟩
    rw [lw] at hi
    have ew : (rowW x)[i]? = some ((rowW x)[i]'(by omega)) := List.getElem?_eq_getElem (by omega)
    have ey2 : y = .str ((rowW x)[i]'(by omega)) := by
      rw [List.getElem?_map, ew] at ey
      exact (Option.some.inj ey).symm
    subst ey2
    refine ⟨rfl, ?_⟩
    refine ⟨_, rfl, _, rfl, t, c, _, b + 46 + 7 * (m - (i + 1)), rfl, rw1 _ (List.getElem_mem _), T3.less (by omega), fun H5 a u d e5 T5 na ga sm5 => ?_⟩
    have nD : D ≠ t := T2.ne hD
    have gD5 := e5 _ _ nD gD
    have kp5 := (kp_ext e5 T3).u
    have lu : us.length ≤ 2 := by
      rw [sm.len.1, List.length_take]
      omega
    refine ⟨us, gD5, szl (by omega), (e3.trans e5).upd hD, Tape.put T2 (e3.trans e5) T5 hD, us ++ [.ref a], cs ++ [u], ds ++ [d], upd_same, ?_⟩
    rw [List.take_add_one, ew]
    have tp : ∀ (a : Addr) (xs : List V), H5 a = some (.tup xs) → (upd H5 D (.lst (us ++ [.ref a]))) a = some (.tup xs) := fun b xs e => by
      rw [upd_ne (fun z => by rw [z, gD5] at e; cases e)]
      exact e
    exact (SmpsAt.snoc ga sm5 (sm.mono kp5)).mono (fun b xs e => by
      rw [upd_ne (fun z => by rw [z, gD5] at e; cases e)]
      exact e)
  rintro H3 ⟨e3, T3, us, cs, ds, gD, sm⟩
  rw [lw, List.take_of_length_le (by omega)] at sm
  have T3 := T3.less (show b + 46 ≤ _ by omega)
  have tb3 := tabs_ext tb2 e3 T2
  have gls3 := e3 _ _ nls2 gls2
  obtain ⟨c0, cl, r, hc0, hcl, hres, hsh, hdp, hln⟩ := res_of hx sm
  obtain ⟨a0, s0, ea0, ga0⟩ := sm.ofC hc0
  obtain ⟨al, sl, eal, gal⟩ := sm.ofC hcl
  obtain ⟨l1, l2, l3⟩ := sm.len
  have ecl : cs.length - 1 = us.length - 1 := by omega
  rw [ecl] at eal
  have small : ∀ i, r = .int i → i.natAbs.log2 < 1920 := fun i z => by
    subst z
    cases hres
  have hln2 : r.shown.length ≤ sizeLine := by rw [sizeLine_eq]; omega
  refine ⟨_, rfl, _, rfl, D, _, 0, _, rfl, rfl, SqL.of gD, at_of rfl ea0, a0, _, 1, _, rfl, rfl, SqT.of ga0, rfl, _, rfl, _, rfl, D, _, -1, _, rfl, rfl, SqL.of gD, at_m1 eal, al, _, 1, _, rfl, rfl, SqT.of gal, rfl, x, c0, cl, r, rfl, hres, fun H4 vd s4 dv => ?_⟩
  have sm4 := sm.mono fun a xs e => s4 a _ e
  have gD4 := s4 _ _ gD
  refine ⟨_, rfl, _, rfl, tried_right R hx (SqL.of gD4) sm4 hc0 hcl hres fun H5 v5 s5 d5 => ?_⟩
  refine ⟨0, v5, r, rfl, d5, hsh, hdp, hln2, small, ?_⟩
  refine ⟨_, rfl, 0, vd, r, rfl, dv.kp (kp_same s5), hsh, hdp, hln2, small, ?_⟩
  refine ⟨rfl, _, rfl, iF (by rw [decide_eq_true rfl]; rfl) ?_⟩
  have S5 := s4.trans s5
  have sm5 := sm.mono fun a xs e => S5 a _ e
  have gD5 := S5 _ _ gD
  refine ⟨_, rfl, _, rfl, D, us, rfl, .inl (SqL.of gD5), fun l2 hl2 => ?_⟩
  have s6 := same_new (o := .lst us) hl2
  have S6 := S5.trans s6
  have sm6 := sm.mono fun a xs e => S6 a _ e
  refine tried_right R hx (SqL.of upd_same) sm6 hc0 hcl hres fun H7 v7 s7 d7 => ?_
  refine ⟨0, v7, r, rfl, d7, hsh, hdp, hln2, small, ?_⟩
  refine ⟨_, rfl, 0, vd, r, rfl, dv.kp (kp_same (s5.trans (s6.trans s7))), hsh, hdp, hln2, small, ?_⟩
  refine ⟨rfl, _, rfl, iF (by rw [decide_eq_true rfl]; rfl) ?_⟩
  have S7 := S6.trans s7
  have T7 := T3.same S7
  have tb7 := tb3.ext S7
  have sm7 := sm.mono fun a xs e => S7 a _ e
  have gD7 := S7 _ _ gD
  have gls7 := S7 _ _ gls3
  have nD7 : D ≠ t := fun z => by
    obtain ⟨kvs, hd⟩ := T7.dict
    rw [← z, gD7] at hd
    cases hd
  refine ⟨_, rfl, D, us, rfl, .inl (SqL.of gD7), fun lw hlw => ?_⟩
  have s8 := same_new (o := .lst us) hlw
  have glw8 : (upd H7 lw (.lst us)) lw = some (.lst us) := upd_same
  have T8 := T7.same s8
  refine ⟨_, rfl, t, c, 4, b + 45, rfl, by decide, by decide, T8.less (by omega), fun H9 at_ e9 T9 a0_ a4_ => ?_⟩
  have nlw : lw ≠ t := T7.ne hlw
  have glw9 := e9 _ _ nlw glw8
  refine ⟨slz rfl, fun q2 hq2 => ?_⟩
  refine ⟨q2, _, rfl, SqT.of upd_same, rfl, _, _, rfl, _, _, rfl, rfl, ?_⟩
  have s10 := same_new (o := .tup [.ref lw, .int at_]) hq2
  have e10 : Ext t H7 (upd H9 q2 (.tup [.ref lw, .int at_])) := (same_ext s8).trans (e9.trans (same_ext s10))
  have T10 := T9.same s10
  have glw10 := s10 _ _ glw9
  have da10 : DaAll t (upd H9 q2 (.tup [.ref lw, .int at_])) us ds := (sm7.da).kp (kp_ext e10 T7)
  generalize upd H9 q2 (.tup [.ref lw, .int at_]) = H10 at e10 T10 glw10 da10 ⊢
  have lum : us.length = m := by omega
  refine ⟨_, rfl, .ref D, us.length, rfl, .inl ⟨_, SqL.of (e10 _ _ nD7 gD7), rfl⟩, us.length, rfl, by omega, by omega, for_it (walk_range (lo := 0) (n := us.length)) (fun i σ H' => Ext t H7 H' ∧ Tape K H' t c (b + 20 + 9 * (m - i)) ∧ (∃ us1 ds1, H' lw = some (.lst us1) ∧ DaAll t H' us1 ds1 ∧ us1.length = m ∧ (∀ e ∈ ds1, flatD e = true) ∧ (∀ j, i ≤ j → us1[j]? = us[j]?) ∧ Wr (rowW x) ds ds1 i) ∧ ∃ v6, σ = [some (.ref t), some (.str x), some (.ref ls), some (.ref D), some vd, some (.int at_), v6, none, some (.ref lw), none]) ⟨e10, T10.less (by omega), ⟨us, ds, glw10, da10, lum, ?_, fun _ _ => rfl, Wr.start⟩, _, rfl⟩ (fun _ _ _ _ _ => trivial) ?_ ?_⟩
  · exact fun e he => by
      obtain ⟨j, ej⟩ := List.getElem?_of_mem he
      have hj : j < (rowW x).length := by
        have := (List.getElem?_eq_some_iff.mp ej).1
        omega
      obtain ⟨a, c, d', _, _, e3, _, m⟩ := sm7.at (List.getElem?_eq_getElem hj)
      have z : d' = e := Option.some.inj (e3.symm.trans ej)
      subst z
      exact m.fine.flat
  · rintro i y σ H11 H12 hi ⟨e11, T11, ⟨us1, ds1, glw11, da11, lu1, fl1, st1, w1⟩, v6, rfl⟩ ⟨rfl, ey⟩
    have ey : y = .int (i : Int) := by
      rw [ey]
      simp
    subst ey
    refine ⟨_, rfl, t, c, 2, b + 20 + 9 * (m - (i + 1)) + 8, rfl, by decide, by decide, T11.less (by omega), fun H13 r e12 T13 r0 r2 => ?_⟩
    refine ⟨rfl, _, rfl, ?_⟩
    have e13 := e11.trans e12
    have da13 := da11.kp (kp_ext e12 T11)
    have glw13 := e12 _ _ nlw glw11
    have hiw : i < (rowW x).length := by omega
    have ew : (rowW x)[i]? = some ((rowW x)[i]'hiw) := List.getElem?_eq_getElem hiw
    by_cases c1 : r = 0
    · refine iT (decide_eq_true (by rw [c1])) ?_
      refine ⟨_, rfl, _, rfl, _, rfl, ls, _, i, .str ((rowW x)[i]'hiw), rfl, rfl, SqL.of (e13 _ _ nls2 (S7 _ _ gls3)), at_of rfl (by rw [List.map_append, List.getElem?_append_left (by rw [List.length_map]; omega), List.getElem?_map, ew]; rfl), t, c, _, b + 20 + 9 * (m - (i + 1)), rfl, rw1 _ (List.getElem_mem _), T13.less (by omega), fun H14 v d e14 T14 dv ho => ?_⟩
      have da14 := da13.kp (kp_ext e14 T13)
      have glw14 := e14 _ _ nlw glw13
      obtain ⟨ra, _, _, er, _, _, _, _⟩ := sm7.at ew
      have mem : V.ref ra ∈ us1 := List.mem_of_getElem? ((st1 i (Nat.le_refl _)).trans er)
      have od : Odd ((rowW x)[i]'hiw) d := ho
      refine ⟨_, rfl, _, rfl, lw, us1, i, i, rfl, rfl, glw14, ?_, ?_⟩
      · unfold ixN
        rw [if_pos (by omega), if_pos (by omega)]
        rfl
      have up : ∀ {d : PyData} {v : V}, Da t H14 v d → flatD d = true → Da t (upd H14 lw (.lst (us1.set i v))) v d := fun h f => Da.upL glw14 mem h f
      refine ⟨(e13.trans e14).upd hlw, Tape.put T7 (e13.trans e14) T14 hlw, ⟨us1.set i v, ds1.set i d, upd_same, DaAll.set (up dv od.fine.flat) i (DaAll.upL glw14 mem da14 (flatL_of fl1)), by rw [List.length_set, lu1], fun e he => ?_, fun j hj => ?_, w1.put ew od⟩, _, rfl⟩
      · rcases List.mem_or_eq_of_mem_set he with he | rfl
        · exact fl1 e he
        · exact od.fine.flat
      · rw [List.getElem?_set_ne (by omega)]
        exact st1 j (by omega)
    · refine iF (decide_eq_false fun z => c1 (by cases z; rfl)) ?_
      exact ⟨e13, T13.less (by omega), ⟨us1, ds1, glw13, da13, lu1, fl1, fun j hj => st1 j (by omega), w1.keep⟩, _, rfl⟩
  · rintro σ H11 ⟨e11, T11, ⟨us1, ds1, glw11, da11, lu1, fl1, st1, w1⟩, v6, rfl⟩
    have gD11 := e11 _ _ nD7 gD7
    refine ⟨_, rfl, _, rfl, t, c, "whole", b + 13, rfl, .inl rfl, T11.less (by omega), fun H12 a12 u12 d12 e12 T12 n12 g12 m12 => ?_⟩
    refine ⟨_, rfl, t, c, "text", b + 5, rfl, .inr rfl, T12, fun H13 v13 d13 e13 T13 da13 o13 => ?_⟩
    have g13 := (kp_ext e13 T12).u _ _ g12
    have glw13 := e13 _ _ nlw (e12 _ _ nlw glw11)
    have dal13 : DaAll t H13 (us1 ++ [.ref a12, v13]) (ds1 ++ [d12, d13]) := DaAll.app ((da11.kp (kp_ext e12 T11)).kp (kp_ext e13 T12)) (.cons (m12.da g13) (.cons da13 .nil))
    refine ⟨slz rfl, fun p14 hp14 => ?_⟩
    have s14 := same_new (o := .lst [.ref a12, v13]) hp14
    refine ⟨lw, p14, us1, _, rfl, rfl, s14 _ _ glw13, upd_same, (by rw [sizeLine_eq]; show us1.length + 2 ≤ _; omega), fun p15 hp15 => ?_⟩
    have s15 := same_new (o := .lst (us1 ++ [.ref a12, v13])) hp15
    have S15 := s14.trans s15
    have T15 := T13.same S15
    have dal15 := dal13.kp (kp_same (t := t) S15)
    have g15 : (upd (upd H13 p14 (.lst [.ref a12, v13])) p15 (.lst (us1 ++ [.ref a12, v13]))) p15 = some (.lst (us1 ++ [.ref a12, v13])) := upd_same
    have e15 : Ext t H7 _ := e11.trans (e12.trans (e13.trans (same_ext S15)))
    generalize upd (upd H13 p14 (.lst [.ref a12, v13])) p15 (.lst (us1 ++ [.ref a12, v13])) = H15 at S15 T15 dal15 g15 e15 ⊢
    have n15 : p15 ≠ t := fun z => by
      obtain ⟨kvs, hd⟩ := T15.dict
      rw [← z, g15] at hd
      cases hd
    refine' key_len (K := K) (t := t) (c := c) (b := b + 4) (H := H15) (fun h => ?_) (fun H16 n e16 T16 n1 n4 => ?_)
    rotate_left
    · refine ⟨_, rfl, t, c, 2, b + 4, rfl, by decide, by decide, T15.less (by omega), fun H16 r e16 T16 r0 r2 => ?_⟩
      refine ⟨rfl, _, rfl, ?_⟩
      by_cases c1 : r = 0
      · refine iT (decide_eq_true (by rw [c1])) ?_
        refine ⟨_, rfl, _, _, rfl, rfl, ?_⟩
        refine ⟨at_ + 1, rfl, ?_⟩
        generalize hn : at_ + 1 = n
        exact h H16 n e16 T16 (by omega) (by omega)
      · refine iF (decide_eq_false fun z => c1 (by cases z; rfl)) ?_
        refine ⟨_, rfl, .ref D, us.length, rfl, .inl ⟨_, SqL.of (e16 _ _ nD7 (e15 _ _ nD7 gD7)), rfl⟩, ?_⟩
        have q1 : us.length ≠ 0 := fun z => rw2 (List.length_eq_zero_iff.mp (by omega))
        generalize hn : (us.length : Int) = n
        refine ⟨n, rfl, ?_⟩
        exact h H16 n e16 T16 (by omega) (by omega)
    · obtain ⟨nn, rfl⟩ : ∃ nn : Nat, n = (nn : Int) := ⟨n.toNat, by omega⟩
      refine ⟨p15, _, rfl, SqL.of (e16 _ _ n15 g15), fun p17 hp17 => ?_⟩
      rw [cut_take]
      obtain ⟨uw, huw⟩ : ∃ uw, uw = (us1 ++ [.ref a12, v13]).take nn := ⟨_, rfl⟩
      obtain ⟨W, hW⟩ : ∃ W, W = (ds1 ++ [d12, d13]).take nn := ⟨_, rfl⟩
      have da16 : DaAll t H16 uw W := by
        rw [huw, hW]
        exact DaAll.take nn (dal15.kp (kp_ext e16 T15))
      have luw : 1 ≤ uw.length ∧ uw.length ≤ 4 := by
        rw [huw, List.length_take, List.length_append]
        show 1 ≤ min nn (us1.length + 2) ∧ min nn (us1.length + 2) ≤ 4
        omega
      have s17 := same_new (o := .lst uw) hp17
      have da17 := da16.kp (kp_same (t := t) s17)
      have e17 : Ext t H7 _ := (e15.trans e16).trans (same_ext s17)
      have T17 := T16.same s17
      have g17 : (upd H16 p17 (.lst uw)) p17 = some (.lst uw) := upd_same
      rw [← huw]
      generalize upd H16 p17 (.lst uw) = H17 at s17 da17 e17 T17 g17 ⊢
      have sm17 := sm7.mono fun a xs e => (kp_ext e17 T7).u _ _ e
      have gD17 := e17 _ _ nD7 gD7
      have tb17 := tabs_ext tb7 e17 T7
      have lW := da17.len
      have x17 : XtN t H H17 := (XtN.same (s1.trans s2)).trans ((XtN.ext e3).trans ((XtN.same S7).trans (XtN.ext e17)))
      have w1 : Wr (rowW x) ds ds1 (rowW x).length := by
        rw [← l1]
        exact w1
      have fW : ∀ e ∈ W, Fine e := fun e he => by
        rw [hW] at he
        rcases List.mem_append.mp (List.mem_of_mem_take he) with he | he
        · exact w1.fine sm17 e he
        · rcases List.mem_cons.mp he with rfl | he
          · exact m12.fine
          · rcases List.mem_cons.mp he with rfl | he
            · exact Odd.fine (s := "text") o13
            · cases he
      refine ⟨_, rfl, .ref p17, uw.length, rfl, .inl ⟨_, SqL.of g17, rfl⟩, uw.length, rfl, by omega, by omega, fun G_ hG => lc_it (walk_range (lo := 0) (n := uw.length)) (fun i H' => Same H17 H' ∧ H' G_ = some (.lst (((List.range i).filter (wrongP ds W)).map fun j : Nat => V.int (j : Int)))) ⟨same_new hG, upd_same⟩ (fun _ _ _ _ => trivial) ?_ ?_⟩
      · rintro i y H18 H19 hi ⟨s18, g18⟩ ⟨rfl, ey⟩
        have ey : y = .int (i : Int) := by
          rw [ey]
          simp
        subst ey
        refine ⟨rfl, ?_⟩
        have gD19 := s18 _ _ gD17
        have g19 := s18 _ _ g17
        have yes : wrongP ds W i = true → tVar 6 ((wipe ([some (V.ref t), some (V.str x), some (V.ref ls), some (V.ref D), some vd, some (V.int at_), v6, none, some (V.ref lw), none].set 8 (some (V.ref p17))) [6]).set 6 (some (V.int (i : Int)))) H19 fun y H4 => ∃ acc, H4 G_ = some (.lst acc) ∧ acc.length < sizeLine ∧ Same H17 (upd H4 G_ (.lst (acc ++ [y]))) ∧ upd H4 G_ (.lst (acc ++ [y])) G_ = some (.lst (((List.range (i + 1)).filter (wrongP ds W)).map fun j : Nat => V.int (j : Int))) := fun hw => by
          refine ⟨_, rfl, _, g18, szl ?_, fun b o e => ?_, ?_⟩
          · rw [List.length_map]
            have := List.length_filter_le (wrongP ds W) (List.range i)
            rw [List.length_range] at this
            omega
          · rw [upd_ne (ne_of_none e hG)]
            exact s18 _ _ e
          · rw [upd_same, range_put, if_pos hw]
        have no : wrongP ds W i = false → Same H17 H19 ∧ H19 G_ = some (.lst (((List.range (i + 1)).filter (wrongP ds W)).map fun j : Nat => V.int (j : Int))) := fun hw => by
          refine ⟨s18, ?_⟩
          rw [range_put, if_neg (by rw [hw]; decide), List.append_nil]
          exact g18
        refine ⟨_, rfl, _, rfl, .ref D, us.length, rfl, .inl ⟨_, SqL.of gD19, rfl⟩, _, _, rfl, rfl, _, rfl, ?_⟩
        by_cases c1 : us.length ≤ i
        · refine iT (decide_eq_true (by omega)) ?_
          refine iT rfl (yes ?_)
          unfold wrongP
          rw [decide_eq_true (by omega), Bool.true_or]
        · refine iF (decide_eq_false (by omega)) ?_
          obtain ⟨d, ed, dd⟩ := da_at da17 (List.getElem?_eq_getElem hi)
          have fd := fW d (List.mem_of_getElem? ed)
          have hiw : i < (rowW x).length := by omega
          obtain ⟨a, c', d', q1, q2, q3, q4, q5⟩ := sm17.at (List.getElem?_eq_getElem hiw)
          have fd' := q5.fine
          refine ⟨_, rfl, _, rfl, p17, _, i, _, rfl, rfl, SqL.of g19, at_of rfl (List.getElem?_eq_getElem hi), t, _, d, rfl, dd.kp (kp_same s18), fd.sh, fd.dep, by rw [sizeLine_eq]; have := fd.len; omega, fd.small, _, rfl, _, rfl, D, _, i, _, rfl, rfl, SqL.of gD19, at_of rfl q1, t, _, d', rfl, (q5.da q4).kp (kp_same s18), fd'.sh, fd'.dep, by rw [sizeLine_eq]; have := fd'.len; omega, fd'.small, ?_⟩
          have hq : wrongP ds W i = !decide (d.shown = d'.shown) := by
            unfold wrongP
            rw [decide_eq_false (by omega), Bool.false_or, ed, q3]
            show (!decide (some d.shown = some d'.shown)) = _
            by_cases z : d.shown = d'.shown
            · rw [decide_eq_true z, decide_eq_true (by rw [z])]
            · rw [decide_eq_false z, decide_eq_false (fun y => z (Option.some.inj y))]
          refine ⟨rfl, _, rfl, ?_⟩
          have hq2 : (!decide (V.str d.shown = V.str d'.shown)) = wrongP ds W i := by
            rw [hq]
            by_cases z : d.shown = d'.shown
            · rw [decide_eq_true z, decide_eq_true (by rw [z])]
            · rw [decide_eq_false z, decide_eq_false (fun y => z (by injection y))]
          cases hw : wrongP ds W i with
          | true => exact iT (hq2.trans hw) (yes hw)
          | false => exact iF (hq2.trans hw) (no hw)
      · rintro H18 ⟨s18, g18⟩
        obtain ⟨bs, hbs⟩ : ∃ bs, bs = (List.range W.length).filter (wrongP ds W) := ⟨_, rfl⟩
        rw [lW, ← hbs] at g18
        have g18p := s18 _ _ g17
        have gD18 := s18 _ _ gD17
        have lbs : bs.length ≤ 4 := by
          rw [hbs]
          have := List.length_filter_le (wrongP ds W) (List.range W.length)
          rw [List.length_range] at this
          omega
        refine' key_same (H := H18) (N := ¬ (bs = [] ∧ W.length = ds.length)) (fun h => ?_) (fun H20 s20 hno => ?_)
        rotate_left
        · refine ⟨_, rfl, slz rfl, fun p20 hp20 => ?_⟩
          have s20 := same_new (o := .lst []) hp20
          refine ⟨G_, p20, _, rfl, rfl, SqL.of (s20 _ _ g18), SqL.of upd_same, _, rfl, ?_⟩
          have S20 := s18.trans s20
          by_cases c1 : bs = []
          · refine iT (by rw [c1]; rfl) ?_
            refine ⟨_, rfl, .ref p17, uw.length, rfl, .inl ⟨_, SqL.of (s20 _ _ g18p), rfl⟩, _, rfl, .ref D, us.length, rfl, .inl ⟨_, SqL.of (s20 _ _ gD18), rfl⟩, rfl, _, rfl, ?_⟩
            by_cases c2 : uw.length = us.length
            · refine iT (decide_eq_true (by rw [c2])) ?_
              exact k _ (x17.trans (XtN.same S20)) ((T17.same S20).less (by omega)) (tb17.ext S20)
            · exact iF (decide_eq_false fun z => c2 (by injection z with z; omega)) (h _ s20 fun z => c2 (by omega))
          · refine iF ?_ (iF rfl (h _ s20 fun z => c1 z.1))
            cases bs with
            | nil => exact absurd rfl c1
            | cons _ _ => rfl
        · have S20 := s18.trans s20
          have tb20 := tb17.ext S20
          obtain ⟨j, hj1, hj2, hj3⟩ := first_due sm17 w1 hW hbs hno
          refine ⟨tb20, fun H21 eN tb21 => ?_⟩
          have k21 := kp_extN (t := t) eN
          have T21 := tape_extN (T17.same S20) eN
          have da21 := (da17.kp (kp_same S20)).kp k21
          have g21 := k21.l _ _ (s20 _ _ g18p)
          have gG21 := k21.l _ _ (s20 _ _ g18)
          have shj := shw_small j (by omega)
          refine ⟨_, rfl, _, rfl, tried_wrong R hx (t := t) (SqL.of g21) (fun z => by rw [z] at luw; exact absurd luw.1 (by decide)) luw.2 da21 (fun e he => (fW e he).see) hj1 fun H22 dx s22 g22 => ?_⟩
          refine .inl ⟨rfl, t, dx, .int (j : Int), .int (j : Int), rfl, g22, .int _, shj, fun l23 hl23 => ?_⟩
          have s23 := same_new (o := .lst [.str "index", .str (PyData.int (j : Int)).shown, .bl true]) hl23
          have S23 := s22.trans s23
          refine ⟨_, rfl, _, rfl, .ref p17, uw.length, rfl, .inl ⟨_, SqL.of (S23 _ _ g21), rfl⟩, slz rfl, fun p24 hp24 => ?_⟩
          have s24 := same_new (o := .lst [.int (uw.length : Int)]) hp24
          refine ⟨G_, p24, _, _, rfl, rfl, s24 _ _ (S23 _ _ gG21), upd_same, by rw [sizeLine_eq]; show (bs.map _).length + 1 ≤ _; rw [List.length_map]; omega, fun p25 hp25 => ?_⟩
          have e0 : (bs.map (fun j : Nat => V.int (j : Int)) ++ [V.int (uw.length : Int)])[0]? = some (.int (j : Int)) := by
            have z : bs.map (fun j : Nat => V.int (j : Int)) ++ [V.int (uw.length : Int)] = (bs ++ [W.length]).map (fun j : Nat => V.int (j : Int)) := by
              rw [List.map_append, lW]
              rfl
            rw [z, List.getElem?_map, hj2]
            rfl
          refine ⟨p25, _, 0, _, rfl, rfl, SqL.of upd_same, at_of rfl e0, t, .int (j : Int), .int (j : Int), rfl, .int _, shj.sh, shj.dep, shj.len, shj.small, slz rfl, fun p26 hp26 => ?_⟩
          have s25 := same_new (o := .lst (bs.map (fun j : Nat => V.int (j : Int)) ++ [V.int (uw.length : Int)])) hp25
          have s26 := same_new (o := .lst [.str "index", .str (PyData.int (j : Int)).shown, .bl true]) hp26
          have S26 := s23.trans (s24.trans (s25.trans s26))
          have sh3 : SeqAt.shaped (.list [.str "index", .str (PyData.int (j : Int)).shown, .bool true]) = true := by
            simp [SeqAt.shaped, PyData.canLay0, PyData.canLayAll0, PyData.depth, PyData.depthAll]
            exact ⟨by decide +kernel, shown_ok j (by omega)⟩
          refine ⟨.list [.str "index", .str (PyData.int (j : Int)).shown, .bool true], .list [.str "index", .str (PyData.int (j : Int)).shown, .bool true], .lst (SqL.of (s26 _ _ (s25 _ _ (s24 _ _ upd_same)))) (.cons (.str _) (.cons (.str _) (.cons (.bl _) .nil))), .lst (SqL.of upd_same) (.cons (.str _) (.cons (.str _) (.cons (.bl _) .nil))), sh3, sh3, ?_⟩
          have ee : PyData.eqv (.list [.str "index", .str (PyData.int (j : Int)).shown, .bool true]) (.list [.str "index", .str (PyData.int (j : Int)).shown, .bool true]) = true := by
            simp [PyData.eqv, PyData.eqvAll]
          rw [ee]
          have S27 := s22.trans S26
          exact k _ (x17.trans ((XtN.same S20).trans ((XtN.extN eN).trans (XtN.same S27)))) ((T21.same S27).less (by omega)) (tb21.ext S27)
end
end L3

/-! a law that shows values and whose defs make lambdas: its end, with the tables of their code objects -/
namespace L3
open PySem PySem.Spec PyProof.Rows L2 LamX
section
variable {P : Program} {w : World} {K : PySem.W.Frag} {mg mb : Str → Option Value} {fa a : Addr} {ts : List Addr} {fd : FuncData} {x : Str} {sp : List V → Hp → VK → Prop} {s1 : Shared} {vs : List Value} {ns : List Int}
/-- tracked ahead of the law: the script, frozen, and the tables -/
abbrev OnlyT (ts : List Addr) (H : Hp) : Prop := ∀ b, b ∈ ts ∨ H b = none ∨ ∃ o xs, H b = some (.frz o (.lst xs))
theorem law_coreTs (inK : K.In s1.heap) (gl : s1.heap.Ns mainGlobals mg) (bi : s1.heap.Ns builtinsNs mb) (bb : ∀ y : Str, y ≠ "__name__" → mb y = bootBuiltins y) (nl : s1.heap.NoLimit) (ng : s1.gens = #[])
    (ob : s1.heap.get? a = some { cls := .type "list", data := .seq vs.toArray }) (tb : ∀ p ∈ ts, s1.heap.get? p = some { cls := .none, data := .fields #[] }) (off2 : ∀ p ∈ ts, K.lookup p = none) (ch : ∀ p ∈ ts, ∃ cA, PySem.W.CodeHd s1.heap cA p)
    (bm : ∃ (m : Addr) (om : Obj), mg "__builtins__" = some (.ref m) ∧ m ≠ builtinsNs ∧ s1.heap.get? m = some om ∧ om.cls = .type "module" ∧ om.dict = some builtinsNs ∧ om.data = .plain)
    (run : ∀ base : Heap, K.In base → base.Ns mainGlobals mg → (∀ p ∈ ts, ∀ cA, PySem.W.CodeHd s1.heap cA p → TabB base mg cA p) → LawRun P w K mg base fa fd x sp)
    (bind : ∀ (s : Shared) (u : Value), BindsTo s fd ⟨[u], []⟩ [(x, u)]) (want : ∀ H : Hp, (∀ p ∈ ts, H p = some (.tbl #[])) → SqL K H a (ns.map V.int) → sp [.ref a] H (fun v _ => v = .bl true))
    (H : Hp) (hP : ∀ p ∈ ts, H p = some (.tbl #[])) (hO : OnlyT ts H) (hS : SqL K H a (ns.map V.int)) (ok : HOk P w H s1.heap) (alone : ∀ b, H b ≠ none → b = a ∨ b ∈ ts) (off : H a ≠ none → K.lookup a = none) :
    codeAny (model P w) callerA (.call (.ref fa) ⟨[.ref a], []⟩) (LawEnd s1) s1 := by
  have hid : ∀ {b : Addr} {o : Obj}, s1.heap.get? b = some o → H b = none → (hidT s1.heap H).get? b = some o := fun z n => hidT_get z n
  -- what is neither a list nor an empty table is not tracked
  have free : ∀ {b : Addr} {o : Obj}, s1.heap.get? b = some o → (∀ us n, o.data ≠ .seq us n) → o.data ≠ .fields #[] → H b = none := by
    intro b o z n1 n2
    cases q : H b with
    | none => rfl
    | some u =>
      rcases alone b (by rw [q]; simp) with e | e
      · subst e
        rw [ob] at z
        cases z
        exact absurd rfl (n1 _ _)
      · rw [tb b e] at z
        cases z
        exact absurd rfl n2
  have nsH : ∀ {b : Addr} {m : Str → Option Value}, s1.heap.Ns b m → (hidT s1.heap H).Ns b m := by
    rintro b m ⟨o, es, ep, z, dd, r⟩
    exact ⟨o, es, ep, hid z (free z (fun us n y => by rw [dd] at y; cases y) (fun y => by rw [dd] at y; cases y)), dd, r⟩
  have inH : K.In (hidT s1.heap H) := by
    intro b o z
    refine hid (inK b o z) ?_
    cases q : H b with
    | none => rfl
    | some u =>
      rcases alone b (by rw [q]; simp) with e | e
      · subst e
        rw [off (by rw [q]; simp)] at z
        cases z
      · rw [off2 b e] at z
        cases z
  have md : Mod K mg (hidT s1.heap H) := by
    obtain ⟨mc, z1, z2⟩ := nl
    exact ⟨inH, nsH gl, ⟨mb, nsH bi, bb⟩, ⟨mc, nsH z1, z2⟩⟩
  have tB : ∀ p ∈ ts, ∀ cA, PySem.W.CodeHd s1.heap cA p → TabB (hidT s1.heap H) mg cA p := by
    intro p hp cA ch
    have tb := tb p hp
    constructor
    · obtain ⟨o, us, f1, f2, f3, f4, f5, f6, f7, z, c1, c2, c3, c4⟩ := ch
      refine ⟨o, us, f1, f2, f3, f4, f5, f6, f7, hid z (free z (fun xs n y => by rw [c2] at y; cases y) fun y => ?_), c1, c2, c3, c4⟩
      rw [c2] at y
      injection y with y
      rw [y] at c3
      cases c3
    · obtain ⟨m, om, b1, b2, b3, b4, b5, b6⟩ := bm
      have n1 : m ≠ mainGlobals := by
        rintro rfl
        obtain ⟨o, es, ep, z, dd, _⟩ := gl
        rw [z] at b3
        cases b3
        rw [dd] at b6
        cases b6
      have n2 : m ≠ p := by
        rintro rfl
        rw [tb] at b3
        cases b3
        cases b6
      exact ⟨m, om, b1, b2, n1, n2, hid b3 (free b3 (fun us n y => by rw [b6] at y; cases y) fun y => by rw [b6] at y; cases y), b4, b5, b6⟩
    · rintro rfl
      obtain ⟨o, es, ep, z, dd, _⟩ := gl
      rw [tb] at z
      cases z
      cases dd
  have e0 : Env0 P w K mg (hidT s1.heap H) callerA [] s1 H := by
    refine ⟨rfl, md, fun b o z => of_hidT z, Nat.le_of_eq (hidT_size _ _), trivial, ?_, ok, .of_eq ng⟩
    intro b hb
    exact nomatch (show b ∈ ([] : List Addr) from hb)
  refine codeAny_mono (run _ inH (nsH gl) tB s1 H ⟨[.ref a], []⟩ (.ref a) (.ref a) _ e0 (bind s1 (.ref a)) rfl (want H hP hS)) fun r s' h => ?_
  cases r with
  | error e => exact h.elim
  | ok fl =>
    cases fl with
    | next => exact h.elim
    | brk => exact h.elim
    | cont => exact h.elim
    | ret u =>
      obtain ⟨v, H', os, bare, un, ok', r', q⟩ := h
      obtain rfl : v = .bl true := q
      obtain rfl : u = Value.bool true := r'
      have rest : ∀ b o, b ∉ ts → s1.heap.get? b = some o → s'.heap.get? b = some o := by
        intro b o nb z
        cases q : H b with
        | none => exact un.keep b o z q (fun y => nomatch (show b ∈ ([] : List Addr) from y)) (fun y => nomatch y)
        | some u =>
          rcases hO b with y | y | ⟨o2, xs, y⟩
          · exact absurd y nb
          · rw [q] at y
            cases y
          · obtain ⟨z1, _⟩ := ok b _ y
            obtain ⟨z2, _⟩ := ok' b _ (un.frzs b o2 _ y)
            rw [z] at z1
            cases z1
            exact z2
      have gm : ∀ p ∈ ts, ∃ more : Array Value, s'.heap.get? p = some { cls := .none, data := .fields more } := fun p hp => by
        obtain ⟨m, z⟩ := un.tbls p #[] (hP p hp)
        exact ⟨_, ok' p _ z⟩
      refine ⟨rfl, ⟨fun b o z => ?_, fun b o z => ?_⟩, os, bare⟩
      · by_cases e : b ∈ ts
        · obtain ⟨more, g⟩ := gm b e
          obtain ⟨cA, c⟩ := ch b e
          rw [tb b e] at z
          cases z
          refine .inr (.inl ⟨(c.tab (tb b e)).isCodeTable, rfl, #[], more, rfl, ?_⟩)
          rw [g, Array.empty_append]
        · exact .inl (rest b o e z)
      · by_cases e : b ∈ ts
        · obtain ⟨more, g⟩ := gm b e
          exact ⟨_, g⟩
        · exact ⟨o, rest b o e z⟩
/-- the heap that tracks the tables -/
def tabH (ts : List Addr) : Hp := fun b => if b ∈ ts then some (.tbl #[]) else none
theorem tabH_in {ts : List Addr} {p : Addr} (h : p ∈ ts) : tabH ts p = some (.tbl #[]) := if_pos h
theorem tabH_out {ts : List Addr} {p : Addr} (h : p ∉ ts) : tabH ts p = none := if_neg h
theorem law_callGTs (inK : K.In s1.heap) (gl : s1.heap.Ns mainGlobals mg) (bi : s1.heap.Ns builtinsNs mb) (bb : ∀ y : Str, y ≠ "__name__" → mb y = bootBuiltins y) (nl : s1.heap.NoLimit) (ng : s1.gens = #[])
    (ob : s1.heap.get? a = some { cls := .type "list", data := .seq vs.toArray }) (tb : ∀ p ∈ ts, s1.heap.get? p = some { cls := .none, data := .fields #[] }) (off2 : ∀ p ∈ ts, K.lookup p = none) (ch : ∀ p ∈ ts, ∃ cA, PySem.W.CodeHd s1.heap cA p)
    (bm : ∃ (m : Addr) (om : Obj), mg "__builtins__" = some (.ref m) ∧ m ≠ builtinsNs ∧ s1.heap.get? m = some om ∧ om.cls = .type "module" ∧ om.dict = some builtinsNs ∧ om.data = .plain)
    (hi : IntsAre vs ns) (hl : ns.length ≤ sizeLine) (run : ∀ base : Heap, K.In base → base.Ns mainGlobals mg → (∀ p ∈ ts, ∀ cA, PySem.W.CodeHd s1.heap cA p → TabB base mg cA p) → LawRun P w K mg base fa fd x sp)
    (bind : ∀ (s : Shared) (u : Value), BindsTo s fd ⟨[u], []⟩ [(x, u)]) (want : ∀ H : Hp, (∀ p ∈ ts, H p = some (.tbl #[])) → SqL K H a (ns.map V.int) → sp [.ref a] H (fun v _ => v = .bl true)) :
    codeAny (model P w) callerA (.call (.ref fa) ⟨[.ref a], []⟩) (LawEnd s1) s1 := by
  have rv := vals_ints hi
  have nap : a ∉ ts := fun h => by
    have := tb a h
    rw [ob] at this
    cases this
  cases hk : K.lookup a with
  | some o =>
    have z := inK a o hk
    rw [ob] at z
    cases z
    refine law_coreTs inK gl bi bb nl ng ob tb off2 ch bm run bind want (tabH ts) (fun p hp => tabH_in hp) (fun b => ?_) (Or.inr ⟨_, vs.toArray, _, hk, rfl, rfl, rfl, by rw [List.size_toArray, hi.length]; exact hl, by simpa using rv⟩) (fun b u z => ?_) (fun b z => ?_) (fun z => absurd (tabH_out nap) z)
    · by_cases e : b ∈ ts
      · exact .inl e
      · exact .inr (.inl (tabH_out e))
    · by_cases e : b ∈ ts
      · rw [tabH_in e] at z
        cases z
        exact tb b e
      · rw [tabH_out e] at z
        cases z
    · by_cases e : b ∈ ts
      · exact .inr e
      · exact absurd (tabH_out e) z
  | none =>
    let fz : HO := .frz { cls := .type "list", data := .seq vs.toArray } (.lst (ns.map V.int))
    have at1 : upd (tabH ts) a fz a = some fz := upd_same
    have at2 : ∀ p ∈ ts, upd (tabH ts) a fz p = some (.tbl #[]) := fun p hp => by
      have n : p ≠ a := fun z => nap (by rw [← z]; exact hp)
      rw [upd_ne n, tabH_in hp]
    have at3 : ∀ b, b ≠ a → b ∉ ts → upd (tabH ts) a fz b = none := fun b h1 h2 => by rw [upd_ne h1, tabH_out h2]
    refine law_coreTs inK gl bi bb nl ng ob tb off2 ch bm run bind want _ at2 (fun b => ?_) (.inl (.inr ⟨_, at1⟩)) (fun b u z => ?_) (fun b z => ?_) fun _ => hk
    · by_cases e : b ∈ ts
      · exact .inl e
      · by_cases e2 : b = a
        · rw [e2, at1]
          exact .inr (.inr ⟨_, _, rfl⟩)
        · exact .inr (.inl (at3 b e2 e))
    · by_cases e : b = a
      · subst e
        rw [at1] at z
        cases z
        exact ⟨ob, by rw [List.length_map]; exact hl, vs, _, rv, ob⟩
      · by_cases e2 : b ∈ ts
        · rw [at2 b e2] at z
          cases z
          exact tb b e2
        · rw [at3 b e e2] at z
          cases z
    · by_cases e : b = a
      · exact .inl e
      · by_cases e2 : b ∈ ts
        · exact .inr e2
        · exact absurd (at3 b e e2) z
end
theorem walkXTs {l : PySem.W.OpenLaw} {n : Nat} {q : Program} {loose : List Str} {XP : (Str → Option Value) → Heap → Prop} {YP : World → Heap → Prop} {d : DefRec} {sp : PySem.W.Frag → List Addr → List V → Hp → VK → Prop} {x : Str}
    (hn : l.most = some n) (hn2 : n ≤ sizeLine) (hdf : d.params.defaults = [])
    (F : ∀ (w : World) (mg : Str → Option Value) (fa : Addr) (h : Heap), YP w h → h.Ns mainGlobals mg → mg d.name = some (.ref fa) →
      ∃ (K : PySem.W.Frag) (fd : FuncData) (ts : List Addr), K.In h ∧ (∀ p ∈ ts, h.get? p = some { cls := .none, data := .fields #[] }) ∧ (∀ p ∈ ts, K.lookup p = none) ∧ (∀ p ∈ ts, ∃ c, PySem.W.CodeHd h c p) ∧ (∀ (s : Shared) (u : Value), BindsTo s fd ⟨[u], []⟩ [(x, u)]) ∧ ∀ base : Heap, K.In base → base.Ns mainGlobals mg → (∀ p ∈ ts, ∀ c, PySem.W.CodeHd h c p → TabB base mg c p) → LawRun l.prog w K mg base fa fd x (sp K ts))
    (want : ∀ (K : PySem.W.Frag) (ts : List Addr) (H : Hp) (a : Addr) (ns : List Int), ns.length ≤ n → (∀ p ∈ ts, H p = some (.tbl #[])) → SqL K H a (ns.map V.int) → sp K ts [.ref a] H (fun v _ => v = .bl true)) : PySem.W.WalkO q loose XP YP l.row.toRowW d [] (fun f vs => PySem.call f vs) := by
  refine Att.attach_call hn hdf ?_
  intro w s0 s1 mg mb fa o pm cd doc a vs ns G Y ho hd hcd hmg hobj hints hlen hg
  obtain ⟨K, fd, ts, KX, tb, off, ch, hb, run⟩ := F w mg fa _ Y G.T.g hmg
  exact law_callGTs KX G.T.g G.T.b G.T.builtins G.T.nolimit hg hobj tb off ch G.T.bmain hints (Nat.le_trans hlen hn2) run hb (fun H hP hS => want _ _ H a ns hlen hP hS)
section
variable {P : Program} {w : World} {K : PySem.W.Frag} {mg : Str → Option Value} {base : Heap}
theorem lawRun_code {st : Stmt} {f : Addr} {fd : FuncData} {N : List Str} {k : Nat} {x : Str} {sp : List V → Hp → VK → Prop} {cA : Addr} (F : Fun K "law" "law" st f fd) (S : FnScope N [x] (defScope st)) (hroom : Room (k + 1) callerA) (hco : fd.code = .ref cA)
    (hbody : ∀ (s : Shared) (H : Hp) (v : V) (Q : VK), Room k (callerA.deeper (envOfC "law" (defScope st) s.heap.objs.size f (.ref cA))) → sp [v] H Q →
      ∃ t, PSs (cxOf CX0 P w K mg base N "law" (defScope st) f (.ref cA) callerA [] s H E0).nox (defBody st) t ∧ t { nx := fun _ H' => Q .non H', rt := Q } (start N [v]) H) : LawRun P w K mg base f fd x sp := by
  obtain ⟨oc, od, kV, doc, pm, an, cdv, ct, osl, rfl, lk, hcd⟩ := F.ex
  have ec : cdv = .ref cA := hco
  subst ec
  intro s H args u v Q e0 hb rv hsp
  have inK : K.In s.heap := e0.mod.kin.keeps fun b o z => (e0.bs b o z).1
  have noL : s.heap.NoLimit := e0.mod.nolimit.keeps fun b o z => (e0.bs b o z).1
  have kinds : ∀ y ∈ ([x].zip [u] : List (Str × Value)), (defScope st).names.lookup y.1 = some .local ∨ ((defScope st).names.lookup y.1 = some .cell ∧ ((cellsFrom (s.heap.objs.size + 1) (defScope st).names []).lookup y.1).isSome = true) := by
    rintro ⟨n, z⟩ hy
    rcases S.par n (List.of_mem_zip hy).1 with q | q
    · exact Or.inl q
    · exact Or.inr ⟨q, PySem.W.cellsFrom_some _ _ _ (Or.inl q)⟩
  refine codeAny_call_function (Room.depth hroom) (inK _ _ lk) rfl S.co S.gen rfl (PySem.W.codeRec_of inK hcd) (hb _ _ _ _ ?_)
  refine wpAny_newFunctionEnv_cells S.kind kinds fun env he s1 xx => ?_
  subst he
  refine ⟨noL.keeps xx.toInCall.keep, codeAny_func ?_⟩
  obtain ⟨t, ht, hq⟩ := hbody s H v Q (Room.deeper hroom _) hsp
  have J : Inv (cxOf CX0 P w K mg base N "law" (defScope st) f (.ref cA) callerA [] s H E0) [] (start N [v]) H s1 := inv_start S rfl e0 rfl (Paired.cons rv .nil) xx
  refine wpAny_mono ((PSs.nox ht).run [] s1 (start N [v]) H _ J hq) (fun fl s' hs => ?_) (fun e s' hs => hs)
  cases fl with
  | next =>
    obtain ⟨σ', H', J', q⟩ := hs
    exact ⟨V.non, H', J'.os, J'.bare, J'.base, J'.hok, rfl, q⟩
  | ret z =>
    obtain ⟨v', σ', H', J', rz, q⟩ := hs
    exact ⟨v', H', J'.os, J'.bare, J'.base, J'.hok, rz, q⟩
  | brk =>
    obtain ⟨_, _, _, q⟩ := hs
    exact q.elim
  | cont =>
    obtain ⟨_, _, _, q⟩ := hs
    exact q.elim
end
end L3

namespace L3
open PySem L2 StX LamX RT ClX
/-- the kind that the law builds -/
theorem kt_of : ∀ x ∈ nmL, Kt (toK (rowW x) (rowL x)) := by
  have one : ∀ a b : Str, (a = "whole" ∨ a = "text") → (b = "whole" ∨ b = "text" ∨ b = "truth") → Kt (toK [a] b) := by
    rintro a b (rfl | rfl) (rfl | rfl | rfl) <;> exact ⟨⟨⟨trivial, trivial⟩, trivial⟩, by simp [toK, arrow, Kd.fit, Wok] <;> decide +kernel, by decide +kernel, by decide +kernel, by decide +kernel, by decide +kernel⟩
  have two : ∀ a b : Str, (a = "whole" ∨ a = "text") → (b = "whole" ∨ b = "text" ∨ b = "truth") → Kt (toK [a, a] b) := by
    rintro a b (rfl | rfl) (rfl | rfl | rfl) <;> exact ⟨⟨⟨trivial, trivial⟩, ⟨trivial, trivial⟩, trivial⟩, by simp [toK, arrow, Kd.fit, Wok] <;> decide +kernel, by decide +kernel, by decide +kernel, by decide +kernel, by decide +kernel⟩
  have hl : ∀ x ∈ nmL, rowL x = "whole" ∨ rowL x = "text" ∨ rowL x = "truth" := by decide +kernel
  have hw : ∀ x ∈ nmL, rowW x = [("whole" : Str)] ∨ rowW x = [("text" : Str)] ∨ rowW x = [("whole" : Str), "whole"] ∨ rowW x = [("text" : Str), "text"] := by decide +kernel
  intro x hx
  rcases hw x hx with e | e | e | e <;> rw [e]
  · exact one _ _ (.inl rfl) (hl x hx)
  · exact one _ _ (.inr rfl) (hl x hx)
  · exact two _ _ (.inl rfl) (hl x hx)
  · exact two _ _ (.inr rfl) (hl x hx)
theorem oddN_see : ∀ e ∈ oddN, (match e with
    | .int i => decide (i.natAbs.log2 < 1920)
    | _ => true) = true ∧ PyData.strOk e.shown = true := by decide +kernel
theorem oddN_shw {e : PyData} (h : e ∈ oddN) : badN e = true ∧ Shw e ∧ PyData.strOk e.shown = true := by
  obtain ⟨a, b, c, d⟩ := oddN_bad e h
  obtain ⟨p, q⟩ := oddN_see e h
  refine ⟨a, ⟨b, c, by rw [sizeLine_eq]; omega, fun i z => ?_⟩, q⟩
  subst z
  exact of_decide_eq_true p
/-- the list that the law waits for -/
def dueD (f : Str) (d : PyData) : PyData := .list [.str f, .str d.shown, .bool true]
theorem due_shape {f : Str} {d : PyData} (h1 : PyData.strOk f = true) (h2 : PyData.strOk d.shown = true) : SeqAt.shaped (dueD f d) = true := by
  simp [dueD, SeqAt.shaped, PyData.canLay0, PyData.canLayAll0, PyData.depth, PyData.depthAll]
  exact ⟨h1, h2⟩
theorem due_eqv (f : Str) (d : PyData) : PyData.eqv (dueD f d) (dueD f d) = true := by
  simp [dueD, PyData.eqv, PyData.eqvAll]
theorem kind_shw : ∀ x ∈ nmL, (PyData.tuple [(toK (rowW x) (rowL x)).dat, .tuple []]).showable = true ∧ (PyData.tuple [(toK (rowW x) (rowL x)).dat, .tuple []]).hasDict = false ∧ (PyData.tuple [(toK (rowW x) (rowL x)).dat, .tuple []]).depth ≤ 60 ∧ (PyData.tuple [(toK (rowW x) (rowL x)).dat, .tuple []]).shown.length ≤ 1000 := by decide +kernel
section
variable {P : Program} {w : World} {K : PySem.W.Frag} {mg : Str → Option Value} {base : Heap} {kA aA CN CV CP C fI fT fE nA : Addr}
abbrev s_law : Stmt := topS 85
abbrev N_law : List Str := ["_law_script", "_law_names", "_law_turn", "_law_which", "_law_kinds", "_law_kind", "_law_one", "_law_told", "_law_due", "_law_odd_here", "_law_tape", "_law_sort"]
theorem sc_law : FnScope N_law ["_law_script"] (defScope s_law) := ⟨rfl, rfl, rfl, by decide +kernel, rfl, by decide +kernel, by decide +kernel⟩
/-- what the law begins with -/
def spLaw (K : PySem.W.Frag) (ts : List Addr) : List V → Hp → VK → Prop := fun vs H Q => ∃ (a : Addr) (ns : List Int), vs = [.ref a] ∧ SqL K H a (ns.map V.int) ∧ (∀ p ∈ ts, H p = some (.tbl #[])) ∧ ∀ H', Q (.bl true) H'
theorem law_run {f g cL PL PD : Addr} {fd fdm fdE : FuncData} {T : List (Addr × Str)} {mc : Value} {u0 : Value} (F : Fun K "law" "law" s_law f fd) (hco : fd.code = .ref cL) (TBL : TabB base mg cL PL)
    (hT : T = [(PL, ("law" : Str) ++ ".<locals>." ++ ("<lambda>" : Str)), (PD, ("_law_done_right" : Str) ++ ".<locals>." ++ ("<lambda>" : Str))]) (hLD : PL ≠ PD)
    (B : Bl mg) (B9 : Bl9 mg) (hVE : mg "ValueError" = none) (hLE : mg "LookupError" = none) (hV : E1 P w K mg base "InvalidValue" "index" mroV "ValueError.__new__" CV) (hN : E1 P w K mg base "NoPrimitive" "word" mroL "LookupError.__new__" CN) (hVN : CV ≠ CN) (R : Rw P w K mg base kA aA)
    (FM : Fun K "_law_refused" "_law_refused" s__law_refused g fdm) (hmm : mg "_law_refused" = some (.ref g)) (hbm : L2.Binds K fdm ["_law_call"] [])
    (hC : mg "Primitives" = some (.ref CP)) (hCR : CRead K CP mc) (hCV : CVal K CP mc "NAMES" (.ref nA) u0) (hNA : ∀ H, SqT K H nA (nmL.map V.str))
    (SC : ScK K mg C fI) (D_Scheme : FnR P w K mg base CX0 5 fI (spStar 2 (spInit C))) (D_eq : FnOk P w K mg base CX0 9 fE fdE ["self", "other"] (spEqS K C)) (SC_ne : PySem.W.findIn K (.ref C) "__ne__" = some (some (.builtin "object.__ne__"))) (SC_eq : PySem.W.findIn K (.ref C) "__eq__" = some (some (.ref fE))) (SC_isf : PySem.W.isFn K (.ref fE) = true) (SC_bnd : Binds K fdE ["self", "other"] [])
    (SM_told : SmK K CP "told_scheme" fT) (D_told : FnR P w K mg base (L2.CX P w) 7 fT (spTold K w kA CN C))
    (D__law_begin : Kn P w K mg base 1 "_law_begin" ["_law_script"] (spBegin K)) (D__law_pick : Kn P w K mg base 2 "_law_pick" ["_law_tape", "_law_items"] (spPick2 K)) (D__law_sorts : Kn P w K mg base 1 "_law_sorts" ["_law_which"] spSorts)
    (D__law_odd : Kn P w K mg base 4 "_law_odd" ["_law_tape", "_law_sort"] (spOdd K)) (D__law_tried : KnX P w K mg base 5 "_law_tried" ["_law_which", "_law_some"] (spTried P w K mg base kA aA CN CV)) (D__law_done_right : KnG P w K mg base 9 "_law_done_right" (spRight K T)) : LawRun P w K mg base f fd "_law_script" (spLaw K [PL, PD]) := by
  obtain ⟨oc, od, kV, doc, pm, an, cdm, ct, osl, rfl, lkm, hcm⟩ := FM.ex
  have hkm := FM.kp
  refine lawRun_code (cA := cL) F sc_law (k := 20) ⟨rfl, by decide, by decide⟩ hco (fun s H v Q hr h => ?_)
  obtain ⟨a, ns, h, hS, hP, k⟩ := h
  cases h
  have hgd : (callerA.deeper (PyProof.Rows.envOfC "law" (defScope s_law) s.heap.objs.size f (.ref cL))).guards = some [] := rfl
  have hr__law_begin : Room 1 _ := hr.mono (by decide)
  have hr__law_pick : Room 2 _ := hr.mono (by decide)
  have hr__law_sorts : Room 1 _ := hr.mono (by decide)
  have hr__law_done_right : Room 9 _ := hr.mono (by decide)
  have hr_Scheme : Room 6 _ := hr.mono (by decide)
  have hr_eq : Room 10 _ := hr.mono (by decide)
  have hr_told : Room 7 _ := hr.mono (by decide)
  have hr_lam : Room 9 _ := hr.mono (by decide)
  have hr_lam2 : Room 7 _ := hr.mono (by decide)
  have hu64 := hr.units
  have huA : ∀ env, ((callerA.deeper (PyProof.Rows.envOfC "law" (defScope s_law) s.heap.objs.size f (.ref cL))).deeper env).units + 64 < cLine := fun env => (Room.deeper (hr.mono (show 19 + 1 ≤ 20 by decide)) env).units
  have hcode : (cxOf CX0 P w K mg base N_law "law" (defScope s_law) f (.ref cL) callerA [] s H E0).nox.env.code = .ref cL := rfl
  have hmTL : (PL, (cxOf CX0 P w K mg base N_law "law" (defScope s_law) f (.ref cL) callerA [] s H E0).nox.env.qual ++ ("<lambda>" : Str)) ∈ T := by
    rw [hT]
    exact List.mem_cons_self
  have huTL : ∀ p ∈ T, p.1 = PL → p.2 = (cxOf CX0 P w K mg base N_law "law" (defScope s_law) f (.ref cL) callerA [] s H E0).nox.env.qual ++ ("<lambda>" : Str) := fun p hp e => by
    rw [hT] at hp
    rcases List.mem_cons.mp hp with rfl | hp
    · rfl
    · rw [List.mem_singleton.mp hp] at e
      exact absurd e.symm hLD
  refine ⟨_, (pss_cons (ps_set (i := 10) sc_law.nd rfl (Or.inr rfl) (pe_kn D__law_begin hr__law_begin (pa_cons (pv 0) pa_nil)))
  (pss_cons (ps_set (i := 1) sc_law.nd rfl (Or.inl rfl) (pe_lst (pa_cons pe_str (pa_cons pe_str (pa_cons pe_str (pa_cons pe_str (pa_cons pe_str (pa_cons pe_str (pa_cons pe_str (pa_cons pe_str (pa_cons pe_str (pa_cons pe_str pa_nil))))))))))))
  (pss_cons (ps_if (pt_cmpR op_ne (pe_callB (call_reprD hgd hu64) (by rfl) B.repr (by decide +kernel) (pa_cons (pe_cval (pe_gc (by rfl) ⟨_, hC, relv_ref _⟩)) pa_nil)) (pe_callB (call_reprAny hgd hu64) (by rfl) B.repr (by decide +kernel) (pa_cons (pe_callTy call_tuple_of (by rfl) B.tuple (by decide +kernel) (pa_cons (pv 1) pa_nil)) pa_nil)) (nomark _))
  (pss_one (ps_ret pe_bl))
  pss_nil)
  (pss_cons (ps_for PassesOwn.never rfl (pi_range1 (by rfl) B.range (pa_cons pe_int pa_nil)) (pg_name (i := 2) sc_law.nd rfl (Or.inl rfl))
  (pss_cons (ps_set (i := 3) sc_law.nd rfl (Or.inl rfl) (pe_kn D__law_pick hr__law_pick (pa_cons (pv 10) (pa_cons (pv 1) pa_nil))))
  (pss_cons (ps_setLc (i := 4) (own := [("_law_sort", 11)]) rfl sc_law.nd rfl rfl (sw_true rfl rfl rfl (by decide +kernel)) (pi_list (pe_kn D__law_sorts hr__law_sorts (pa_cons (pv 3) pa_nil))) (blkOk_by (N := N_law) (sc := (defScope s_law)) (own := [("_law_sort", 11)]) (by decide +kernel)) (fun _ _ _ _ _ => (pg_name (i := 11) sc_law.nd rfl (Or.inl rfl))) (fun _ _ _ _ _ => pts_nil) (fun _ _ _ _ _ => (pe_tup (pa_cons pe_str (pa_cons (pv 11) pa_nil)))))
  (pss_cons (ps_set (i := 5) sc_law.nd rfl (Or.inl rfl) (pe_ix ix_list (pv 4) (pe_un un_neg pe_int) (fun _ _ => rfl)))
  (pss_cons (ps_for PassesOwn.never rfl (pi_list (pe_revL (pe_slice sl_list (pv 4) po_none (po_some (pe_un un_neg pe_int))))) (pg_name (i := 6) sc_law.nd rfl (Or.inl rfl))
  (pss_one (ps_set (i := 5) sc_law.nd rfl (Or.inl rfl) (pe_tup (pa_cons pe_str (pa_cons (pe_tup (pa_cons pe_str (pa_cons (pe_tup (pa_cons pe_str (pa_cons pe_str pa_nil))) (pa_cons (pv 6) pa_nil)))) (pa_cons (pv 5) pa_nil)))))))
  (pss_cons (ps_set (i := 7) sc_law.nd rfl (Or.inl rfl) (pe_smX (E := E0) hC SM_told D_told hr_told LamX.takes0 (pa_cons (pv 3) pa_nil)))
  (pss_cons (ps_if (PW.pt (pw_or (pt_cmpR (op_neOwn hr_eq D_eq SC.ins.hm SC_ne SC_eq SC_isf SC_bnd) (pv 7) (pe_makeR SC.mke D_Scheme hr_Scheme (by rfl) SC.hm pass0 (pa_cons (pv 5) pa_nil)) (nomark _)) (pw_or1 (pt_cmpR op_ne (pe_callB (call_reprD hgd hu64) (by rfl) B.repr (by decide +kernel) (pa_cons (pe_tup (pa_cons (L2.pe_fld (pv 7) rfl) (pa_cons (L2.pe_fld (pv 7) rfl) pa_nil))) pa_nil)) (pe_callB (call_reprD hgd hu64) (by rfl) B.repr (by decide +kernel) (pa_cons (pe_tup (pa_cons (pv 5) (pa_cons (pe_tup pa_nil) pa_nil))) pa_nil)) (nomark _)))))
  (pss_one (ps_ret pe_bl))
  pss_nil)
  (pss_cons (ps_if (pt_not (pt_val (pe_kg D__law_done_right hr__law_done_right hgd (pa_cons (pv 10) (pa_cons (pv 3) pa_nil)))))
  (pss_one (ps_ret pe_bl))
  pss_nil)
  (pss_cons (ps_set (i := 9) sc_law.nd rfl (Or.inr rfl) (pe_kn D__law_pick hr__law_pick (pa_cons (pv 10) (pa_cons (pe_lst (pa_cons pe_str (pa_cons pe_str (pa_cons pe_str (pa_cons pe_str (pa_cons pe_str (pa_cons pe_non (pa_cons pe_int (pa_cons (pe_tup (pa_cons pe_str pa_nil)) (pa_cons (pe_lstN (pa_cons pe_str pa_nil)) (pa_cons pe_dnewK (pa_cons pe_bl pa_nil)))))))))))) pa_nil))))
  (pss_cons (ps_set (i := 8) sc_law.nd rfl (Or.inl rfl) (pe_lst (pa_cons pe_str (pa_cons (pe_callB (call_reprAny hgd hu64) (by rfl) B.repr (by decide +kernel) (pa_cons (pv 9) pa_nil)) (pa_cons pe_bl pa_nil)))))
  (pss_one (ps_if (PW.pt (pw_or (pt_cmpR (op_neD hu64) (pe_lamcall (k := 7) (T := T) (TT := TTref CV CN) (t := fun E => tCallRX (spTold K w kA CN C) E (tCons (tVar 9) tNil)) (by rfl) hmm hkm lkm hcm hbm sc__law_refused rfl (Or.inl rfl) (ref_gives hV hN hVN B B9 hVE hLE hgd huA) TBL hcode hmTL huTL hr_lam (lamS_by (by show lamSB (defScope s_law) _ = true; decide +kernel)) (by rfl) (fun _ _ _ _ _ => by rfl) (fun A outer s H E f c hr0 => pe_smX hC SM_told D_told hr0 (takes_of rfl rfl rfl rfl) (pa_cons (pv 9) pa_nil))) (pv 8) (nomark _)) (pw_or1 (pt_cmpR (op_neD hu64) (pe_lamcall (k := 5) (T := T) (TT := TTref CV CN) (t := fun E => tCall (spTried P w K mg base kA aA CN CV) [] E (tCons (tVar 9) (tCons (tLst (tCons (tCall (spOdd K) [] E0 (tCons (tVar 10) (tCons (tC (.str "text")) tNil))) tNil)) tNil))) (by rfl) hmm hkm lkm hcm hbm sc__law_refused rfl (Or.inl rfl) (ref_gives hV hN hVN B B9 hVE hLE hgd huA) TBL hcode hmTL huTL hr_lam2 (lamS_by (by show lamSB (defScope s_law) _ = true; decide +kernel)) (by rfl) (fun _ _ _ _ _ => by rfl) (fun A outer s H E f c hr0 => pe_knX D__law_tried hr0 (takes_of rfl rfl rfl rfl) (pa_cons (pv 9) (pa_cons (pe_lst (pa_cons (pe_kn D__law_odd (hr0.mono (by decide)) (pa_cons (pv 10) (pa_cons pe_str pa_nil))) pa_nil)) pa_nil)))) (pv 8) (nomark _)))))
  (pss_one (ps_ret pe_bl))
  pss_nil))))))))))))
  (pss_one (ps_ret pe_bl)))))), ?_⟩
  refine ⟨_, rfl, a, ns, rfl, hS, fun H1 t c s1 nt T1 => ?_⟩
  have tb1 : Tabs T H1 := fun p hp => by
    rw [hT] at hp
    rcases List.mem_cons.mp hp with rfl | hp
    · exact TabS.nil (s1 _ _ (hP _ List.mem_cons_self))
    · rw [List.mem_singleton.mp hp]
      exact TabS.nil (s1 _ _ (hP _ (List.mem_cons_of_mem _ List.mem_cons_self)))
  refine ⟨slz rfl, fun ln hln => ?_⟩
  have s2 := same_new (o := .lst [.str "plus", .str "minus", .str "times", .str "equal", .str "upto", .str "join", .str "size", .str "eqtext", .str "uptotext", .str "spell"]) hln
  have T2 := T1.same s2
  have tb2 := tb1.ext s2
  have nln : ln ≠ t := T1.ne hln
  have g2 : (upd H1 ln (.lst [.str "plus", .str "minus", .str "times", .str "equal", .str "upto", .str "join", .str "size", .str "eqtext", .str "uptotext", .str "spell"])) ln = some (.lst (nmL.map V.str)) := upd_same
  generalize upd H1 ln (.lst [.str "plus", .str "minus", .str "times", .str "equal", .str "upto", .str "join", .str "size", .str "eqtext", .str "uptotext", .str "spell"]) = H2 at s2 T2 tb2 g2 ⊢
  have dps : ∀ (H : Hp) (l : List Str), DpAll K H (l.map V.str) (l.map PyData.str) := fun H l => by
    induction l with
    | nil => exact .nil
    | cons x r ih => exact .cons (.str _) ih
  have das : ∀ (H : Hp) (l : List Str), DaAll t H (l.map V.str) (l.map PyData.str) := fun H l => by
    induction l with
    | nil => exact .nil
    | cons x r ih => exact .cons (.str _) ih
  have shn : (PyData.tuple (nmL.map PyData.str)).showable = true ∧ (PyData.tuple (nmL.map PyData.str)).hasDict = false ∧ (PyData.tuple (nmL.map PyData.str)).depth ≤ 60 ∧ (PyData.tuple (nmL.map PyData.str)).shown.length ≤ 1000 := by decide +kernel
  have lnn : (PyData.tuple (nmL.map PyData.str)).shown.length ≤ sizeLine := by rw [sizeLine_eq]; have := shn.2.2.2; omega
  refine ⟨CP, mc, _, u0, rfl, hCR, hCV, nA, _, rfl, .tup (hNA H2) (dps H2 nmL), shn.1, shn.2.1, shn.2.2.1, lnn, ?_⟩
  refine ⟨_, rfl, ln, _, rfl, .inl ⟨SqL.of g2, fun p3 hp3 => ?_⟩⟩
  refine ⟨t, .ref p3, .tuple (nmL.map PyData.str), rfl, .tup upd_same (das _ nmL), shn.1, shn.2.2.1, lnn, nofun, ?_⟩
  refine ⟨rfl, _, rfl, iF (by rw [decide_eq_true rfl]; rfl) ?_⟩
  have s3 := same_new (o := .tup (nmL.map V.str)) hp3
  have T3 := T2.same s3
  have tb3 := tb2.ext s3
  have g3 := s3 _ _ g2
  generalize upd H2 p3 (.tup (nmL.map V.str)) = H3 at s3 T3 tb3 g3 ⊢
  refine ⟨12, rfl, by decide, by decide, for_it (walk_range (lo := 0) (n := 12)) (fun i σ H' => Tape K H' t c ((12 - i) * 100) ∧ Tabs T H' ∧ H' ln = some (.lst (nmL.map V.str)) ∧ ∃ (v2 v3 v4 v5 v6 v7 v8 v9 : Option V), σ = [some (.ref a), some (.ref ln), v2, v3, v4, v5, v6, v7, v8, v9, some (.ref t), none]) ⟨T3.less (by decide), tb3, g3, _, _, _, _, _, _, _, _, rfl⟩ (fun _ _ _ _ _ => trivial) ?_ ?_⟩
  · rintro i y σ H4 H4' hi ⟨T4, tb4, g4, v2, v3, v4, v5, v6, v7, v8, v9, rfl⟩ ⟨rfl, ey⟩
    have cost : (12 - i) * 100 = (12 - (i + 1)) * 100 + 100 := by omega
    rw [cost] at T4
    generalize (12 - (i + 1)) * 100 = b at T4 ⊢
    refine ⟨_, rfl, _, rfl, .inl ⟨t, c, ln, _, b + 90, rfl, SqL.of g4, by decide, by decide, T4.less (by omega), fun H5 v e5 T5 m5 => ?_⟩⟩
    obtain ⟨x, hx, rfl⟩ := List.mem_map.mp m5
    have g5 := e5 _ _ nln g4
    have tb5 := tabs_ext tb4 e5 T4
    refine ⟨_, rfl, x, rfl, hx, fun H6 l6 s6 n6 g6 => ?_⟩
    have lw : ((rowW x ++ [rowL x]).map V.str).length = (rowW x ++ [rowL x]).length := by rw [List.length_map]
    have l3 : (rowW x ++ [rowL x]).length ≤ 3 := by
      rw [List.length_append]
      have := (row_words x hx).2.2
      show _ + 1 ≤ 3
      omega
    refine ⟨l6, rfl, ⟨_, SqL.of g6⟩, fun D hD => lc_it walk_list (fun i H' => Same H6 H' ∧ ∃ us, H' D = some (.lst us) ∧ KdsAt H' us (((rowW x ++ [rowL x]).take i).map Kd.con)) ⟨same_new hD, [], upd_same, .nil⟩ (fun i H' _ h => SqL.of (h.1 _ _ g6)) ?_ ?_⟩
    · rintro i y H7 H8 hi ⟨s7, us, gD, gk⟩ ⟨rfl, ey⟩
      obtain ⟨wd, ew, rfl⟩ : ∃ wd, (rowW x ++ [rowL x])[i]? = some wd ∧ y = .str wd := by
        rw [List.getElem?_map] at ey
        cases e : (rowW x ++ [rowL x])[i]? with
        | none => rw [e] at ey; cases ey
        | some a => rw [e] at ey; exact ⟨a, rfl, (Option.some.inj ey).symm⟩
      refine ⟨rfl, ?_⟩
      refine ⟨_, rfl, slz rfl, fun q hq => ?_⟩
      have s8 := same_new (o := .tup [.str "con", .str wd]) hq
      have gD8 := s8 _ _ gD
      have lu : us.length ≤ 3 := by
        rw [Paired.length gk, List.length_map, List.length_take]
        omega
      refine ⟨us, gD8, szl (by omega), fun b o e => ?_, us ++ [.ref q], upd_same, ?_⟩
      · rw [upd_ne (ne_of_none e hD)]
        exact s8 _ _ (s7 _ _ e)
      · have tp : Tups (upd H8 q (.tup [.str "con", .str wd])) (upd (upd H8 q (.tup [.str "con", .str wd])) D (.lst (us ++ [.ref q]))) := Tups.put gD8 nofun
        rw [List.take_add_one, ew, List.map_append]
        have gq : (upd H8 q (.tup [.str "con", .str wd])) q = some (.tup [.str "con", .str wd]) := upd_same
        exact Paired.snoc (KdsAt.tups tp (KdsAt.tups (same_tups s8) gk)) (KdAt.tups tp (k := .con wd) ⟨q, rfl, gq⟩)
    · rintro H7 ⟨s7, us, gD, gk⟩
      rw [List.take_of_length_le (by rw [lw]; exact Nat.le_refl _), List.map_append] at gk
      obtain ⟨us0, ul, rfl, p0, pl⟩ := paired_lastS gk
      have T7 := T5.same (s6.trans s7)
      have tb7 := tb5.ext (s6.trans s7)
      have g7 := s7 _ _ (s6 _ _ g5)
      refine ⟨_, rfl, _, rfl, D, us0 ++ [ul], -1, ul, rfl, rfl, SqL.of gD, at_m1 (by rw [List.length_append]; show (us0 ++ [ul])[us0.length + 1 - 1]? = _; rw [Nat.add_sub_cancel, List.getElem?_append_right (Nat.le_refl _), Nat.sub_self]; rfl), ?_⟩
      refine ⟨_, rfl, _, rfl, _, rfl, D, us0 ++ [ul], rfl, SqL.of gD, fun q hq => ?_⟩
      rw [cut_last]
      have s8 : Same H7 (upd H7 q (.lst us0)) := same_new hq
      have g8 : (upd H7 q (.lst us0)) q = some (.lst us0) := upd_same
      generalize upd H7 q (.lst us0) = H8 at s8 g8 ⊢
      refine ⟨q, us0, rfl, SqL.of g8, fun q2 hq2 => ?_⟩
      have s9 : Same H7 (upd H8 q2 (.lst us0.reverse)) := s8.trans (same_new hq2)
      have g9 : (upd H8 q2 (.lst us0.reverse)) q2 = some (.lst us0.reverse) := upd_same
      generalize upd H8 q2 (.lst us0.reverse) = H9 at s9 g9 ⊢
      have pr := paired_rev p0
      refine ⟨q2, rfl, ⟨_, SqL.of g9⟩, for_it walk_list (fun i σ H' => Same H7 H' ∧ H' q2 = some (.lst us0.reverse) ∧ ∃ (kv : V) (v6 : Option V), σ = [some (.ref a), some (.ref ln), some y, some (.str x), some (.ref D), some kv, v6, v7, v8, v9, some (.ref t), none] ∧ KdAt H' kv ((((rowW x).map Kd.con).reverse.take i).foldl (fun acc k => arrow k acc) (.con (rowL x)))) ⟨s9, g9, ul, _, rfl, pl.tups (same_tups s9)⟩ (fun i σ H' _ h => SqL.of h.2.1) ?_ ?_⟩
      · rintro i y1 σ H10 H11 hi ⟨s10, g10, kv, v6, rfl, hv⟩ ⟨rfl, ey⟩
        obtain ⟨ky, hky, hyy⟩ := paired_get pr ey
        refine ⟨slz rfl, fun q3 hq3 => ⟨_, rfl, slz rfl, fun q4 hq4 => ⟨_, rfl, slz rfl, fun q5 hq5 => ?_⟩⟩⟩
        have t3 := same_new (o := .tup [.str "con", .str "to"]) hq3
        have t4 := same_new (o := .tup [.str "apply", .ref q3, y1]) hq4
        have t5 := same_new (o := .tup [.str "apply", .ref q4, kv]) hq5
        have t35 := t3.trans (t4.trans t5)
        have tk : ((rowW x).map Kd.con).reverse.take (i + 1) = ((rowW x).map Kd.con).reverse.take i ++ [ky] := by
          rw [List.take_add_one, hky]
          rfl
        refine ⟨s10.trans t35, t35 _ _ g10, _, _, rfl, ?_⟩
        rw [tk, List.foldl_append]
        exact ⟨q5, .ref q4, kv, rfl, upd_same, ⟨q4, .ref q3, y1, rfl, t5 _ _ upd_same, ⟨q3, rfl, t5 _ _ (t4 _ _ upd_same)⟩, hyy.tups (same_tups (s10.trans t35))⟩, hv.tups (same_tups t35)⟩
      · rintro σ H10 ⟨s10, g10, kv, v6, rfl, hv⟩
        have e : ((rowW x).map Kd.con).reverse.take us0.reverse.length = ((rowW x).map Kd.con).reverse := by rw [Paired.length pr, List.take_length]
        rw [e, List.foldl_reverse] at hv
        have hv : KdAt H10 kv (toK (rowW x) (rowL x)) := by
          rw [← toK_fold]
          exact hv
        have kt := kt_of x hx
        obtain ⟨wa, hka, hwa⟩ := R.row x hx
        refine ⟨_, rfl, t, .str x, .str x, rfl, .str x, fun hb => ?_, fun _ => ⟨x, rowL x, wa, rowW x, rfl, hka, hwa, (row_words x hx).2.2, kt, fun H11 yv s11 sch => ?_⟩⟩
        · rw [badN_not hx] at hb
          cases hb
        obtain ⟨a1, dx1, n1, fs1, v1, rfl, g11, f11, f12, hn1, hv1⟩ := sch
        have hv11 := hv.tups (same_tups s11)
        refine ⟨_, rfl, _, rfl, fun y2 dx hy hdx nd => ⟨[.ref y2, kv], [], rfl, rfl, slz rfl, fun p hp => ?_⟩⟩
        have u1 := same_new (o := .own y2) hdx
        have hy3 : (upd H11 dx (.own y2)) y2 = none := by rw [upd_ne (Ne.symm nd)]; exact hy
        have u2 := same_new (o := .ins C dx []) hy3
        have u3 := same_new (o := .tup []) hp
        have u5 := u1.trans (u2.trans u3)
        refine ⟨y2, p, dx, kv, _, rfl, u3 _ _ upd_same, hv11.tups (same_tups u5), kt, upd_same, fun H12 fs u6 gy f1 f2 => ⟨rfl, ?_⟩⟩
        have S12 : Same H11 H12 := fun b o e => u6 b o (fun z => by rw [z, hy] at e; cases e) (u5 _ _ e)
        have hp12 : SqT K H12 p [] := SqT.of (u6 p _ (fun z => by rw [z, upd_same] at hp; cases hp) upd_same)
        refine ⟨a1, y2, dx1, dx, fs1, fs, rfl, rfl, S12 _ _ g11, gy, a1, y2, dx1, dx, n1, p, fs1, fs, v1, kv, _, rfl, S12 _ _ g11, gy, f11, f12, f1, f2, SqT.same' S12 hn1, hp12, hv1.tups (same_tups S12), hv11.tups (same_tups S12), kt, fun H13 s13 => ⟨true, rfl, ?_⟩⟩
        refine ⟨_, rfl, iF rfl ?_⟩
        have S13 := S12.trans s13
        have hd13 := hv1.tups (same_tups S13)
        have hk13 := hv11.tups (same_tups S13)
        have ks := kind_shw x hx
        have lks : (PyData.tuple [(toK (rowW x) (rowL x)).dat, .tuple []]).shown.length ≤ sizeLine := by rw [sizeLine_eq]; have := ks.2.2.2; omega
        refine ⟨_, rfl, a1, C, dx1, fs1, v1, rfl, S13 _ _ g11, SC.cl, SC.nk, f11, _, rfl, a1, C, dx1, fs1, _, rfl, S13 _ _ g11, SC.cl, SC.nn, f12, slz rfl, fun q5 hq5 => ?_⟩
        have s14 := same_new (o := .tup [v1, .ref n1]) hq5
        refine ⟨q5, _, rfl, .tup (SqT.of upd_same) (.cons (hd13.tups (same_tups s14)).dp (.cons (.tup (SqT.same' (S13.trans s14) hn1) .nil) .nil)), ks.1, ks.2.1, ks.2.2.1, lks, ?_⟩
        refine ⟨_, rfl, slz rfl, fun q6 hq6 => ⟨slz rfl, fun q7 hq7 => ?_⟩⟩
        have s15 := same_new (o := .tup []) hq6
        have s16 := same_new (o := .tup [kv, .ref q6]) hq7
        have S16 := s14.trans (s15.trans s16)
        refine ⟨q7, _, rfl, .tup (SqT.of upd_same) (.cons (hk13.tups (same_tups S16)).dp (.cons (.tup (SqT.of (s16 _ _ upd_same)) .nil) .nil)), ks.1, ks.2.1, ks.2.2.1, lks, ?_⟩
        refine ⟨rfl, _, rfl, iF (by rw [decide_eq_true rfl]; rfl) ?_⟩
        have S17 := (s10.trans s11).trans (S13.trans S16)
        have T17 := T7.same S17
        have tb17 := tb7.ext S17
        have g17 := S17 _ _ g7
        generalize upd (upd (upd H13 q5 (.tup [v1, .ref n1])) q6 (.tup [])) q7 (.tup [kv, .ref q6]) = H17 at S17 T17 tb17 g17 ⊢
        refine ⟨_, rfl, _, rfl, t, c, x, b + 30, rfl, hx, T17, tb17, fun H18 x18 T18 tb18 => ?_⟩
        have g18 := x18.lst nln g17
        refine ⟨_, rfl, iF rfl ?_⟩
        have gln : ∀ {H' : Hp} {o : HO}, H' ln = some o → True := fun _ => trivial
        refine ⟨_, rfl, slz rfl, fun p1 hp1 => ⟨slz rfl, fun p2 hp2 np2 => fun p3 hp3 => ⟨slz rfl, fun l hl => ?_⟩⟩⟩
        have s1 := same_new (o := .tup [.str "plus"]) hp1
        have s2 := same_new (o := .lst [.str "plus"]) hp2
        have s3 := same_new (o := .dK []) hp3
        have s4 := same_new (o := .lst [.str "alike", .str "less", .str "", .str "Plus", .str "plus ", .non, .int 3, .ref p1, .ref p2, .ref p3, .bl true]) hl
        have S34 := s3.trans s4
        have S24 := s2.trans S34
        have S14 := s1.trans S24
        have n3 : p3 ≠ t := ((T18.same s1).same s2).ne hp3
        have dl := DaAll.cons (t := t) (.str "alike") (DaAll.cons (.str "less") (DaAll.cons (.str "") (DaAll.cons (.str "Plus") (DaAll.cons (.str "plus ") (DaAll.cons .non (DaAll.cons (.int 3) (DaAll.cons (Da.tup (S24 _ _ upd_same) (.cons (.str "plus") .nil)) (DaAll.cons (Da.lst (S34 _ _ upd_same) np2 (.cons (.str "plus") .nil)) (DaAll.cons (Da.dct (s4 _ _ upd_same) n3 .nil) (DaAll.cons (.bl true) .nil))))))))))
        have T19 := T18.same S14
        have tb19 := tb18.ext S14
        have g19 := S14 _ _ g18
        refine .inl ⟨t, c, l, _, b + 20, rfl, SqL.of upd_same, (show 0 < 11 by decide), (show 11 < 1000000 by decide), T19.less (by omega), fun H20 vo e20 T20 mo => ?_⟩
        obtain ⟨d, hd, dv0⟩ := dl.mem mo
        have hd : d ∈ oddN := hd
        have dv20 := dv0.kp (kp_ext e20 T19)
        have tb20 := tabs_ext tb19 e20 T19
        have g20 := e20 _ _ nln g19
        obtain ⟨hbad, shw, hok⟩ := oddN_shw hd
        refine ⟨_, rfl, t, vo, d, rfl, dv20, shw.sh, shw.dep, shw.len, shw.small, slz rfl, fun ld hld => ?_⟩
        have s21 := same_new (o := .lst [.str "word", .str d.shown, .bl true]) hld
        have T21 := T20.same s21
        have tb21 := tb20.ext s21
        have g21 := s21 _ _ g20
        have dv21 := dv20.kp (kp_same (t := t) s21)
        have gd21 : (upd H20 ld (.lst [.str "word", .str d.shown, .bl true])) ld = some (.lst [.str "word", .str d.shown, .bl true]) := upd_same
        have nld : ld ≠ t := T20.ne hld
        generalize upd H20 ld (.lst [.str "word", .str d.shown, .bl true]) = H21 at s21 T21 tb21 g21 dv21 gd21 ⊢
        have sh3 := due_shape (f := "word") (d := d) (by decide +kernel) hok
        refine ⟨tb21, fun H22 eN tb22 => ?_⟩
        have k22 := kp_extN (t := t) eN
        have dv22 := dv21.kp k22
        refine ⟨_, rfl, t, vo, d, rfl, dv22, fun _ H23 dx s23 g23 => ?_, fun hb => by rw [hbad] at hb; cases hb⟩
        refine .inr ⟨rfl, t, dx, vo, d, rfl, g23, dv22.kp (kp_same s23), shw, fun l24 hl24 => ?_⟩
        have s24 := same_new (o := .lst [.str "word", .str d.shown, .bl true]) hl24
        have S24 := s23.trans s24
        have T24 := (tape_extN T21 eN).same S24
        have tb24 := tb22.ext S24
        have g24 := S24 _ _ (k22.l _ _ g21)
        have gd24 := S24 _ _ (k22.l _ _ gd21)
        have dv24 := dv22.kp (kp_same (t := t) S24)
        refine ⟨_, rfl, dueD "word" d, dueD "word" d, .lst (SqL.of upd_same) (.cons (.str _) (.cons (.str _) (.cons (.bl _) .nil))), .lst (SqL.of gd24) (.cons (.str _) (.cons (.str _) (.cons (.bl _) .nil))), sh3, sh3, ?_⟩
        rw [due_eqv]
        refine ⟨_, rfl, iF rfl ?_⟩
        generalize upd H23 l24 (.lst [.str "word", .str d.shown, .bl true]) = H24 at S24 T24 tb24 g24 gd24 dv24 ⊢
        refine ⟨tb24, fun H25 eN2 tb25 => ?_⟩
        have k25 := kp_extN (t := t) eN2
        have T25 := tape_extN T24 eN2
        have dv25 := dv24.kp k25
        have g25 := k25.l _ _ g24
        have gd25 := k25.l _ _ gd24
        refine ⟨_, rfl, _, rfl, t, c, "text", b, rfl, .inr rfl, T25.less (by omega), fun H26 vt dt e26 T26 dvt ot => ⟨slz rfl, fun l27 hl27 => ?_⟩⟩
        have s27 := same_new (o := .lst [vt]) hl27
        have T27 := T26.same s27
        have tb27 := (tabs_ext tb25 e26 T25).ext s27
        have g27 := s27 _ _ (e26 _ _ nln g25)
        have gd27 := s27 _ _ (e26 _ _ nld gd25)
        have dv27 := (dv25.kp (kp_ext e26 T25)).kp (kp_same (t := t) s27)
        refine tried_name dv27 hbad (SqL.of upd_same) (by simp) (by simp) (.cons (dvt.kp (kp_same s27)) .nil) (fun e he => by rw [List.mem_singleton.mp he]; exact (Odd.fine (s := "text") ot).see) fun H28 dx s28 g28 => ?_
        refine .inr ⟨rfl, t, dx, vo, d, rfl, g28, dv27.kp (kp_same s28), shw, fun l29 hl29 => ?_⟩
        have s29 := same_new (o := .lst [.str "word", .str d.shown, .bl true]) hl29
        have S29 := s28.trans s29
        refine ⟨_, rfl, dueD "word" d, dueD "word" d, .lst (SqL.of upd_same) (.cons (.str _) (.cons (.str _) (.cons (.bl _) .nil))), .lst (SqL.of (S29 _ _ gd27)) (.cons (.str _) (.cons (.str _) (.cons (.bl _) .nil))), sh3, sh3, ?_⟩
        rw [due_eqv]
        refine ⟨_, rfl, iF rfl ?_⟩
        exact ⟨T27.same S29, tb27.ext S29, S29 _ _ g27, _, _, _, _, _, _, _, _, rfl⟩
  · rintro σ H5 ⟨T5, tb5, g5, v2, v3, v4, v5, v6, v7, v8, v9, rfl⟩
    exact k H5
end
end L3

namespace L3
open PySem L2 StX
theorem res_plus {c1 c2 : V} {r : PyData} (h : Res "plus" c1 c2 r) : ∃ i j, c1 = .int i ∧ c2 = .int j ∧ r = .tuple [.str "whole", .int (clp (i + j))] := by
  generalize hz : ("plus" : Str) = z at h
  cases h <;> first | exact ⟨_, _, rfl, rfl, rfl⟩ | exact absurd hz (by decide +kernel)
theorem res_minus {c1 c2 : V} {r : PyData} (h : Res "minus" c1 c2 r) : ∃ i j, c1 = .int i ∧ c2 = .int j ∧ r = .tuple [.str "whole", .int (clp (i - j))] := by
  generalize hz : ("minus" : Str) = z at h
  cases h <;> first | (exact absurd hz (by decide +kernel)) | exact ⟨_, _, rfl, rfl, rfl⟩
theorem res_times {c1 c2 : V} {r : PyData} (h : Res "times" c1 c2 r) : ∃ i j : Int, c1 = .int i ∧ c2 = .int j ∧ i.natAbs < 2 ^ 100 ∧ j.natAbs < 2 ^ 100 ∧ r = .tuple [.str "whole", .int (clp (i * j))] := by
  generalize hz : ("times" : Str) = z at h
  cases h <;> first | (exact absurd hz (by decide +kernel)) | exact ⟨_, _, rfl, rfl, by assumption, by assumption, rfl⟩
theorem res_equal {c1 c2 : V} {r : PyData} (h : Res "equal" c1 c2 r) : ∃ i j : Int, c1 = .int i ∧ c2 = .int j ∧ r = .tuple [.str "made", .str (if decide (i = j) then "yes" else "no"), .tuple []] := by
  generalize hz : ("equal" : Str) = z at h
  cases h <;> first | (exact absurd hz (by decide +kernel)) | exact ⟨_, _, rfl, rfl, rfl⟩
theorem res_upto {c1 c2 : V} {r : PyData} (h : Res "upto" c1 c2 r) : ∃ i j : Int, c1 = .int i ∧ c2 = .int j ∧ r = .tuple [.str "made", .str (if decide (i ≤ j) then "yes" else "no"), .tuple []] := by
  generalize hz : ("upto" : Str) = z at h
  cases h <;> first | (exact absurd hz (by decide +kernel)) | exact ⟨_, _, rfl, rfl, rfl⟩
theorem res_join {c1 c2 : V} {r : PyData} (h : Res "join" c1 c2 r) : ∃ x y : Str, c1 = .str x ∧ c2 = .str y ∧ x.length ≤ 200 ∧ y.length ≤ 200 ∧ r = .tuple [.str "text", .str (cutS (x ++ y) none (some 200))] := by
  generalize hz : ("join" : Str) = z at h
  cases h <;> first | (exact absurd hz (by decide +kernel)) | exact ⟨_, _, rfl, rfl, by assumption, by assumption, rfl⟩
theorem res_size {c1 c2 : V} {r : PyData} (h : Res "size" c1 c2 r) : ∃ x : Str, c1 = .str x ∧ x.length ≤ 200 ∧ r = .tuple [.str "whole", .int x.length] := by
  generalize hz : ("size" : Str) = z at h
  cases h <;> first | (exact absurd hz (by decide +kernel)) | exact ⟨_, rfl, by assumption, rfl⟩
theorem res_eqtext {c1 c2 : V} {r : PyData} (h : Res "eqtext" c1 c2 r) : ∃ i j : Str, c1 = .str i ∧ c2 = .str j ∧ r = .tuple [.str "made", .str (if decide (i = j) then "yes" else "no"), .tuple []] := by
  generalize hz : ("eqtext" : Str) = z at h
  cases h <;> first | (exact absurd hz (by decide +kernel)) | exact ⟨_, _, rfl, rfl, rfl⟩
theorem res_uptotext {c1 c2 : V} {r : PyData} (h : Res "uptotext" c1 c2 r) : ∃ i j : Str, c1 = .str i ∧ c2 = .str j ∧ r = .tuple [.str "made", .str (if leS i j then "yes" else "no"), .tuple []] := by
  generalize hz : ("uptotext" : Str) = z at h
  cases h <;> first | (exact absurd hz (by decide +kernel)) | exact ⟨_, _, rfl, rfl, rfl⟩
theorem res_spell {c1 c2 : V} {r : PyData} (h : Res "spell" c1 c2 r) : ∃ i : Int, c1 = .int i ∧ i.natAbs < 2 ^ 100 ∧ r = .tuple [.str "text", .str (toString i)] := by
  generalize hz : ("spell" : Str) = z at h
  cases h <;> first | (exact absurd hz (by decide +kernel)) | exact ⟨_, rfl, by assumption, rfl⟩
theorem cs_two {cs : List V} {c0 cl : V} (l : cs.length = 2) (h0 : cs[0]? = some c0) (h1 : cs[cs.length - 1]? = some cl) : cs = [c0, cl] := by
  match cs, l with
  | [a, b], _ =>
    cases h0
    cases h1
    rfl
theorem cs_one {cs : List V} {c0 : V} (l : cs.length = 1) (h0 : cs[0]? = some c0) : cs = [c0] := by
  match cs, l with
  | [a], _ =>
    cases h0
    rfl
/-- an action does what is due -/
def ActOk (x : Str) (sp : Sp) : Prop := ∀ (cs : List V) (c0 cl : V) (r : PyData), cs.length = (rowW x).length → cs[0]? = some c0 → cs[cs.length - 1]? = some cl → Res x c0 cl r → ∀ H Q, (∀ H' v, Same H H' → Da 0 H' v r → Q v H') → sp cs H Q E0
theorem rw_len : (rowW "plus").length = 2 ∧ (rowW "minus").length = 2 ∧ (rowW "times").length = 2 ∧ (rowW "equal").length = 2 ∧ (rowW "upto").length = 2 ∧ (rowW "join").length = 2 ∧ (rowW "size").length = 1 ∧ (rowW "eqtext").length = 2 ∧ (rowW "uptotext").length = 2 ∧ (rowW "spell").length = 1 := by decide +kernel
theorem act_plus : ActOk "plus" spAdd := fun cs c0 cl r l h0 h1 hr H Q k => by
  obtain ⟨i, j, rfl, rfl, rfl⟩ := res_plus hr
  obtain rfl := cs_two (l.trans rw_len.1) h0 h1
  exact ⟨i, j, rfl, fun a ha => k _ _ (same_new ha) (.tup upd_same (.cons (.str _) (.cons (.int _) .nil)))⟩
theorem act_minus : ActOk "minus" spLess := fun cs c0 cl r l h0 h1 hr H Q k => by
  obtain ⟨i, j, rfl, rfl, rfl⟩ := res_minus hr
  obtain rfl := cs_two (l.trans rw_len.2.1) h0 h1
  exact ⟨i, j, rfl, fun a ha => k _ _ (same_new ha) (.tup upd_same (.cons (.str _) (.cons (.int _) .nil)))⟩
theorem act_times : ActOk "times" spMul := fun cs c0 cl r l h0 h1 hr H Q k => by
  obtain ⟨i, j, rfl, rfl, b1, b2, rfl⟩ := res_times hr
  obtain rfl := cs_two (l.trans rw_len.2.2.1) h0 h1
  exact ⟨i, j, rfl, b1, b2, fun a ha => k _ _ (same_new ha) (.tup upd_same (.cons (.str _) (.cons (.int _) .nil)))⟩
theorem act_equal : ActOk "equal" spEqual := fun cs c0 cl r l h0 h1 hr H Q k => by
  obtain ⟨i, j, rfl, rfl, rfl⟩ := res_equal hr
  obtain rfl := cs_two (l.trans rw_len.2.2.2.1) h0 h1
  exact ⟨_, _, _, rfl, .inl ⟨i, j, rfl, rfl, rfl⟩, fun e a he ha => k _ _ ((same_new he).trans (same_new ha)) (made_da ha)⟩
theorem act_upto : ActOk "upto" spRow := fun cs c0 cl r l h0 h1 hr H Q k => by
  obtain ⟨i, j, rfl, rfl, rfl⟩ := res_upto hr
  obtain rfl := cs_two (l.trans rw_len.2.2.2.2.1) h0 h1
  exact ⟨_, _, _, rfl, .inl ⟨i, j, rfl, rfl, rfl⟩, fun e a he ha => k _ _ ((same_new he).trans (same_new ha)) (made_da ha)⟩
theorem act_join : ActOk "join" spPut := fun cs c0 cl r l h0 h1 hr H Q k => by
  obtain ⟨x, y, rfl, rfl, b1, b2, rfl⟩ := res_join hr
  obtain rfl := cs_two (l.trans rw_len.2.2.2.2.2.1) h0 h1
  exact ⟨x, y, rfl, by omega, by omega, fun a ha => k _ _ (same_new ha) (.tup upd_same (.cons (.str _) (.cons (.str _) .nil)))⟩
theorem act_size : ActOk "size" spLen := fun cs c0 cl r l h0 h1 hr H Q k => by
  obtain ⟨x, rfl, b1, rfl⟩ := res_size hr
  obtain rfl := cs_one (l.trans rw_len.2.2.2.2.2.2.1) h0
  exact ⟨x, rfl, by omega, fun a ha => k _ _ (same_new ha) (.tup upd_same (.cons (.str _) (.cons (.int _) .nil)))⟩
theorem act_eqtext : ActOk "eqtext" spEqual := fun cs c0 cl r l h0 h1 hr H Q k => by
  obtain ⟨i, j, rfl, rfl, rfl⟩ := res_eqtext hr
  obtain rfl := cs_two (l.trans rw_len.2.2.2.2.2.2.2.1) h0 h1
  exact ⟨_, _, _, rfl, .inr ⟨i, j, rfl, rfl, rfl⟩, fun e a he ha => k _ _ ((same_new he).trans (same_new ha)) (made_da ha)⟩
theorem act_uptotext : ActOk "uptotext" spRow := fun cs c0 cl r l h0 h1 hr H Q k => by
  obtain ⟨i, j, rfl, rfl, rfl⟩ := res_uptotext hr
  obtain rfl := cs_two (l.trans rw_len.2.2.2.2.2.2.2.2.1) h0 h1
  exact ⟨_, _, _, rfl, .inr ⟨i, j, rfl, rfl, rfl⟩, fun e a he ha => k _ _ ((same_new he).trans (same_new ha)) (made_da ha)⟩
theorem act_spell : ActOk "spell" spSpell := fun cs c0 cl r l h0 h1 hr H Q k => by
  obtain ⟨i, rfl, b1, rfl⟩ := res_spell hr
  obtain rfl := cs_one (l.trans rw_len.2.2.2.2.2.2.2.2.2) h0
  exact ⟨i, rfl, Nat.lt_of_lt_of_le (PySem.Flt.log2_lt_of (by decide) b1) (by decide), fun a ha => k _ _ (same_new ha) (.tup upd_same (.cons (.str _) (.cons (.str _) .nil)))⟩
end L3

namespace L3
open PySem L2 StX LamX ClX
/-- a def stands at f -/
def HasFn (K : PySem.W.Frag) (f : Addr) (x q : Str) (st : Stmt) : Prop := ∃ (oc : Value) (od : Option Addr) (kV dc pm : Value) (an : Option Addr) (cd ct : Value) (sl : Array (Option Value)), K.lookup f = some ⟨oc, od, .func (PySem.W.fnOf x q (defArgs st) (defBody st) (defScope st) .none kV dc pm an cd ct), sl⟩ ∧ PySem.W.codeIn K cd q = true ∧ PySem.W.keepIn K (.ref f) = true
theorem fn_is {K : PySem.W.Frag} {f : Addr} {x q : Str} {st : Stmt} {oc : Value} {od : Option Addr} {kV dc pm : Value} {an : Option Addr} {cd ct : Value} {sl : Array (Option Value)} (l : K.lookup f = some ⟨oc, od, .func (PySem.W.fnOf x q (defArgs st) (defBody st) (defScope st) .none kV dc pm an cd ct), sl⟩) (c : PySem.W.codeIn K cd q = true) (k : PySem.W.keepIn K (.ref f) = true) : HasFn K f x q st := ⟨oc, od, kV, dc, pm, an, cd, ct, sl, l, c, k⟩

/-- what K says of a class of errors -/
structure Kc (K : PySem.W.Frag) (x : Str) (bm : List Value) (C : Addr) : Prop where
  ns : PySem.W.nsIn K mainGlobals x = some (some (.ref C))
  kC : PySem.W.keepIn K (.ref C) = true
  dct : PySem.W.hasDictIn K C = true
  ga : PySem.W.findIn K (.ref C) "__getattribute__" = some (some (.builtin "BaseException.__getattribute__"))
  gg : PySem.W.findIn K (.ref C) "__getattr__" = some none
  sb : PySem.W.subIn K (.ref C) (.type "BaseException") = some true
  cl : PySem.W.findIn K (.ref C) "__class__" = some (some (.builtin "object.__class__"))
  gs : PySem.W.specialIn K (.builtin "object.__class__") "__get__" = some (some (.builtin "getset_descriptor.__get__"))
  tk : PySem.W.takesIn K (.builtin "object.__class__") = some true
  ob : PySem.W.mroIn K C (.type "object") = some true
  cd : ∃ cd, PySem.W.clsIn K C = some cd ∧ cd.mro = .ref C :: bm
  ty : PySem.W.typeIn K (.ref C) = some (.type "type")
theorem kc_is {K : PySem.W.Frag} {x : Str} {bm : List Value} {C : Addr} {cd : ClassData} (a1 : PySem.W.nsIn K mainGlobals x = some (some (.ref C))) (a2 : PySem.W.keepIn K (.ref C) = true) (a3 : PySem.W.hasDictIn K C = true)
    (a4 : PySem.W.findIn K (.ref C) "__getattribute__" = some (some (.builtin "BaseException.__getattribute__"))) (a5 : PySem.W.findIn K (.ref C) "__getattr__" = some none) (a6 : PySem.W.subIn K (.ref C) (.type "BaseException") = some true) (a7 : PySem.W.findIn K (.ref C) "__class__" = some (some (.builtin "object.__class__")))
    (a8 : PySem.W.specialIn K (.builtin "object.__class__") "__get__" = some (some (.builtin "getset_descriptor.__get__"))) (a9 : PySem.W.takesIn K (.builtin "object.__class__") = some true) (a10 : PySem.W.mroIn K C (.type "object") = some true) (a11 : PySem.W.clsIn K C = some cd) (a12 : cd.mro = .ref C :: bm) (a13 : PySem.W.typeIn K (.ref C) = some (.type "type")) : Kc K x bm C :=
  ⟨a1, a2, a3, a4, a5, a6, a7, a8, a9, a10, ⟨cd, a11, a12⟩, a13⟩
theorem Kc.R {K : PySem.W.Frag} {x : Str} {bm : List Value} {C : Addr} (G : Kc K x bm C) : Xr K C := ⟨G.ga, G.gg, G.sb, G.dct, G.cl, G.gs, G.tk, G.ob⟩
/-- what it says of one with an own __init__ -/
structure Ki (K : PySem.W.Frag) (C : Addr) (bm : List Value) (nw : String) (fI : Addr) : Prop where
  ini : PySem.W.excInitIn K C bm nw = true
  ov : PySem.W.excOver K C bm = true
  sa : PySem.W.findIn K (.ref C) "__setattr__" = some (some (.builtin "object.__setattr__"))
  iC : PySem.W.findIn K (.ref C) "__init__" = some (some (.ref fI))
  tI : PySem.W.typeIn K (.ref fI) = some (.type "function")
theorem tk_of {K : PySem.W.Frag} {C : Addr} {f : Str} (h : PySem.W.findIn K (.ref C) f = some none) : PySem.W.takerIn K C f = some none := by
  unfold PySem.W.takerIn
  rw [h]
  rfl
section
variable {P : Program} {w : World} {K : PySem.W.Frag} {mg : Str → Option Value} {base : Heap}
theorem e1_of {x f : Str} {bm : List Value} {nw : String} {C fI : Addr} {fd : FuncData} (G : Kc K x bm C) (N : Ki K C bm nw fI) (hm : mg x = some (.ref C)) (no : PySem.W.findIn K (.ref C) f = some none) (ok : FnOk P w K mg base CX0 1 fI fd ["self", f] (spI1 K bm nw f)) (b : Binds K fd ["self", f] []) (kb : KBinds K fd ["self", f] [f] g1 gV1) : E1 P w K mg base x f bm nw C :=
  ⟨hm, ⟨N.ini, N.ov, N.sa, G.kC, G.dct⟩, G.R, tk_of no, no, ⟨fI, fd, ok, N.iC, N.tI, b⟩, ⟨fI, fd, ok, N.iC, N.tI, kb⟩, G.cd, G.ty⟩

abbrev s_InvalidValue___init__ : Stmt := inS (topS 5) 0
abbrev N_InvalidValue___init__ : List Str := ["self", "index"]
theorem sc_InvalidValue___init__ : FnScope N_InvalidValue___init__ ["self", "index"] (defScope s_InvalidValue___init__) := ⟨rfl, rfl, rfl, by decide +kernel, rfl, by decide +kernel, by decide +kernel⟩
theorem i_InvalidValue {f : Addr} {fd : FuncData} (F : Fun K "__init__" "InvalidValue.__init__" s_InvalidValue___init__ f fd) : FnOk P w K mg base CX0 1 f fd ["self", "index"] (spI1 K mroV "ValueError.__new__" "index") := by
  refine F.ok sc_InvalidValue___init__ (fun vs H Q E h => ?_) (fun cdv A outer s H vs Q E hr h => ?_)
  · obtain ⟨a, C, v, rfl, _⟩ := h
    rfl
  · obtain ⟨a, C, v, rfl, T, ht, ha, k⟩ := h
    exact ⟨_, (pss_one (ps_setX (nw := "ValueError.__new__") PySem.F.store_ValueError (pv 0) (pv 1))), _, rfl, _, rfl, a, C, rfl, T, ht, .inl ⟨ha, k⟩⟩
abbrev s_NoPrimitive___init__ : Stmt := inS (topS 6) 0
abbrev N_NoPrimitive___init__ : List Str := ["self", "word"]
theorem sc_NoPrimitive___init__ : FnScope N_NoPrimitive___init__ ["self", "word"] (defScope s_NoPrimitive___init__) := ⟨rfl, rfl, rfl, by decide +kernel, rfl, by decide +kernel, by decide +kernel⟩
theorem i_NoPrimitive {f : Addr} {fd : FuncData} (F : Fun K "__init__" "NoPrimitive.__init__" s_NoPrimitive___init__ f fd) : FnOk P w K mg base CX0 1 f fd ["self", "word"] (spI1 K mroL "LookupError.__new__" "word") := by
  refine F.ok sc_NoPrimitive___init__ (fun vs H Q E h => ?_) (fun cdv A outer s H vs Q E hr h => ?_)
  · obtain ⟨a, C, v, rfl, _⟩ := h
    rfl
  · obtain ⟨a, C, v, rfl, T, ht, ha, k⟩ := h
    exact ⟨_, (pss_one (ps_setX (nw := "LookupError.__new__") PySem.F.store_LookupError (pv 0) (pv 1))), _, rfl, _, rfl, a, C, rfl, T, ht, .inl ⟨ha, k⟩⟩
end
theorem does_of {P : Program} {w : World} {K : PySem.W.Frag} {mg : Str → Option Value} {base : Heap} {f : Addr} {fd : FuncData} {ps : List Str} {k : Nat} {sp : Sp} (F : FnOk P w K mg base CX0 k f fd ps sp) (hb : Binds K fd ps []) (hk : k ≤ 3) (kp : PySem.W.keepIn K (.ref f) = true) : Does P w K mg base 3 f sp := by
  refine ⟨?_, kp⟩
  have R := F.raw hb .nil
  intro A outer s H us vs Q E hr e0 r hs
  exact R A outer s H us vs Q E (hr.mono hk) e0 r (show sp (vs ++ []) H Q E by rw [List.append_nil]; exact hs)
theorem fnr_of {P : Program} {w : World} {K : PySem.W.Frag} {mg : Str → Option Value} {base : Heap} {X : CXT} {f : Addr} {fd : FuncData} {ps : List Str} {k : Nat} {sp : Sp} (F : FnOk P w K mg base X k f fd ps sp) (hb : Binds K fd ps []) : FnR P w K mg base X k f sp := by
  have R := F.raw hb .nil
  intro A outer s H us vs Q E hr e0 r hs
  exact R A outer s H us vs Q E hr e0 r (show sp (vs ++ []) H Q E by rw [List.append_nil]; exact hs)
theorem tup_of {K : PySem.W.Frag} {wa : Addr} {xs : List V} {od : Option Addr} {its : Array Value} {n : Nat} {sl : Array (Option Value)} (lw : K.lookup wa = some ⟨.type "tuple", od, .seq its n, sl⟩) (v : Vals xs its.toList) (hl : xs.length ≤ 100) : ∀ H, SqT K H wa xs := fun H => by
  refine .inr ⟨_, _, _, lw, rfl, rfl, ?_, v⟩
  have e2 : its.size = its.toList.length := by simp
  rw [e2, ← v.length]
  exact Nat.le_trans hl (by decide)
theorem row_of {K : PySem.W.Frag} {w : World} {kA wa : Addr} {x last : Str} {ws : List Str} {es : Array DictEntry} {nb : Nat} {od : Option Addr} {its : Array Value} {n : Nat} {sl : Array (Option Value)} (e1 : rowW x = ws) (e2 : rowL x = last) (l : K.lookup kA = some ⟨.type "dict", none, .dict es nb, #[]⟩) (kl : PySem.W.KeysLit w.params es.toList)
    (e : PySem.W.nsIn K kA x = some (some (.ref wa))) (lw : K.lookup wa = some ⟨.type "tuple", od, .seq its n, sl⟩) (v : Vals (ws.map V.str ++ [.str last]) its.toList) (hl : ws.length ≤ 10) : ∃ wa, KDct K w kA x (.ref wa) ∧ ∀ H', SqT K H' wa ((rowW x).map V.str ++ [.str (rowL x)]) := by
  rw [e1, e2]
  exact ⟨wa, ⟨_, _, _, l, kl, e, rfl⟩, tup_of lw v (by rw [List.length_append, List.length_map]; show _ + 1 ≤ 100; omega)⟩
theorem all_mk {l : PySem.W.OpenLaw} {w : World} {K : PySem.W.Frag} {h : Heap} {mg : Str → Option Value} {fa bA kA aA nA CV CN CP CS gV gN fI fE fT fD smD smT f1 f2 f3 f4 f5 f6 f7 f8 f9 f10 f11 f12 f13 f14 f15 f16 f17 f18 f19 f20 f21 f22 f23 f24 f25 f26 f27 f28 f29 f30 f31 f32 f33 f34 f35 f36 f37 f38 f39 f40 f41 f42 f43 f44 f45 w0 w1 w2 w3 w4 w5 w6 w7 w8 w9 : Addr} {esB es es2 : Array DictEntry} {nB nb nb2 : Nat} {smR smS : List Value} (X : K.In h) (G : h.Ns mainGlobals mg) (hfa : mg "law" = some (.ref fa))
    (a1 : PySem.W.nsIn K mainGlobals "is_word" = some (some (.ref f1))) (u1 : HasFn K f1 "is_word" "is_word" s_is_word)
    (a2 : PySem.W.nsIn K mainGlobals "is_name" = some (some (.ref f2))) (u2 : HasFn K f2 "is_name" "is_name" s_is_name)
    (a3 : PySem.W.nsIn K mainGlobals "is_integer" = some (some (.ref f3))) (u3 : HasFn K f3 "is_integer" "is_integer" s_is_integer)
    (a4 : PySem.W.nsIn K mainGlobals "con" = some (some (.ref f4))) (u4 : HasFn K f4 "con" "con" s_con)
    (a5 : PySem.W.nsIn K mainGlobals "applied" = some (some (.ref f5))) (u5 : HasFn K f5 "applied" "applied" s_applied)
    (a6 : PySem.W.nsIn K mainGlobals "to" = some (some (.ref f6))) (u6 : HasFn K f6 "to" "to" s_to)
    (a7 : PySem.W.nsIn K mainGlobals "is_kind" = some (some (.ref f7))) (u7 : HasFn K f7 "is_kind" "is_kind" s_is_kind)
    (a8 : PySem.W.nsIn K mainGlobals "is_leaf" = some (some (.ref f8))) (u8 : HasFn K f8 "is_leaf" "is_leaf" s_is_leaf)
    (a9 : PySem.W.nsIn K mainGlobals "leaves_of" = some (some (.ref f9))) (u9 : HasFn K f9 "leaves_of" "leaves_of" s_leaves_of)
    (a10 : PySem.W.nsIn K mainGlobals "size_of" = some (some (.ref f10))) (u10 : HasFn K f10 "size_of" "size_of" s_size_of)
    (a11 : PySem.W.nsIn K mainGlobals "variables_of" = some (some (.ref f11))) (u11 : HasFn K f11 "variables_of" "variables_of" s_variables_of)
    (a12 : PySem.W.nsIn K mainGlobals "put" = some (some (.ref f12))) (u12 : HasFn K f12 "put" "put" s_put)
    (a13 : PySem.W.nsIn K mainGlobals "kinds_of" = some (some (.ref f13))) (u13 : HasFn K f13 "kinds_of" "kinds_of" s_kinds_of)
    (a14 : PySem.W.nsIn K mainGlobals "variables_in" = some (some (.ref f14))) (u14 : HasFn K f14 "variables_in" "variables_in" s_variables_in)
    (a15 : PySem.W.nsIn K mainGlobals "same_scheme" = some (some (.ref f15))) (u15 : HasFn K f15 "same_scheme" "same_scheme" s_same_scheme)
    (a16 : PySem.W.nsIn K mainGlobals "told_once" = some (some (.ref f16))) (u16 : HasFn K f16 "told_once" "told_once" s_told_once)
    (a17 : PySem.W.nsIn K mainGlobals "same_by_names" = some (some (.ref f17))) (u17 : HasFn K f17 "same_by_names" "same_by_names" s_same_by_names)
    (a18 : PySem.W.nsIn K mainGlobals "renamed" = some (some (.ref f18))) (u18 : HasFn K f18 "renamed" "renamed" s_renamed)
    (a19 : PySem.W.nsIn K mainGlobals "bare" = some (some (.ref f19))) (u19 : HasFn K f19 "bare" "bare" s_bare)
    (a20 : PySem.W.nsIn K mainGlobals "variable_leaves" = some (some (.ref f20))) (u20 : HasFn K f20 "variable_leaves" "variable_leaves" s_variable_leaves)
    (a21 : PySem.W.nsIn K mainGlobals "is_whole" = some (some (.ref f21))) (u21 : HasFn K f21 "is_whole" "is_whole" s_is_whole)
    (a22 : PySem.W.nsIn K mainGlobals "is_text" = some (some (.ref f22))) (u22 : HasFn K f22 "is_text" "is_text" s_is_text)
    (a23 : PySem.W.nsIn K mainGlobals "check_primitive" = some (some (.ref f23))) (u23 : HasFn K f23 "check_primitive" "check_primitive" s_check_primitive)
    (a24 : PySem.W.nsIn K mainGlobals "is_plain" = some (some (.ref f24))) (u24 : HasFn K f24 "is_plain" "is_plain" s_is_plain)
    (a25 : PySem.W.nsIn K mainGlobals "bounded" = some (some (.ref f25))) (u25 : HasFn K f25 "bounded" "bounded" s_bounded)
    (a26 : PySem.W.nsIn K mainGlobals "truth" = some (some (.ref f26))) (u26 : HasFn K f26 "truth" "truth" s_truth)
    (a27 : PySem.W.nsIn K mainGlobals "added" = some (some (.ref f27))) (u27 : HasFn K f27 "added" "added" s_added)
    (a28 : PySem.W.nsIn K mainGlobals "lessened" = some (some (.ref f28))) (u28 : HasFn K f28 "lessened" "lessened" s_lessened)
    (a29 : PySem.W.nsIn K mainGlobals "multiplied" = some (some (.ref f29))) (u29 : HasFn K f29 "multiplied" "multiplied" s_multiplied)
    (a30 : PySem.W.nsIn K mainGlobals "are_equal" = some (some (.ref f30))) (u30 : HasFn K f30 "are_equal" "are_equal" s_are_equal)
    (a31 : PySem.W.nsIn K mainGlobals "are_in_row" = some (some (.ref f31))) (u31 : HasFn K f31 "are_in_row" "are_in_row" s_are_in_row)
    (a32 : PySem.W.nsIn K mainGlobals "put_together" = some (some (.ref f32))) (u32 : HasFn K f32 "put_together" "put_together" s_put_together)
    (a33 : PySem.W.nsIn K mainGlobals "length_of" = some (some (.ref f33))) (u33 : HasFn K f33 "length_of" "length_of" s_length_of)
    (a34 : PySem.W.nsIn K mainGlobals "spelled" = some (some (.ref f34))) (u34 : HasFn K f34 "spelled" "spelled" s_spelled)
    (a35 : PySem.W.nsIn K mainGlobals "_law_begin" = some (some (.ref f35))) (u35 : HasFn K f35 "_law_begin" "_law_begin" s__law_begin)
    (a36 : PySem.W.nsIn K mainGlobals "_law_draw" = some (some (.ref f36))) (u36 : HasFn K f36 "_law_draw" "_law_draw" s__law_draw)
    (a37 : PySem.W.nsIn K mainGlobals "_law_pick" = some (some (.ref f37))) (u37 : HasFn K f37 "_law_pick" "_law_pick" s__law_pick)
    (a38 : PySem.W.nsIn K mainGlobals "_law_made" = some (some (.ref f38))) (u38 : HasFn K f38 "_law_made" "_law_made" s__law_made)
    (a39 : PySem.W.nsIn K mainGlobals "_law_sorts" = some (some (.ref f39))) (u39 : HasFn K f39 "_law_sorts" "_law_sorts" s__law_sorts)
    (a40 : PySem.W.nsIn K mainGlobals "_law_sample" = some (some (.ref f40))) (u40 : HasFn K f40 "_law_sample" "_law_sample" s__law_sample)
    (a41 : PySem.W.nsIn K mainGlobals "_law_odd" = some (some (.ref f41))) (u41 : HasFn K f41 "_law_odd" "_law_odd" s__law_odd)
    (a42 : PySem.W.nsIn K mainGlobals "_law_tried" = some (some (.ref f42))) (u42 : HasFn K f42 "_law_tried" "_law_tried" s__law_tried)
    (a43 : PySem.W.nsIn K mainGlobals "_law_refused" = some (some (.ref f43))) (u43 : HasFn K f43 "_law_refused" "_law_refused" s__law_refused)
    {ocPD kVPD dcPD pmPD ctPD : Value} {odPD anPD : Option Addr} {slPD : Array (Option Value)} {cD PD : Addr} (a44 : PySem.W.nsIn K mainGlobals "_law_done_right" = some (some (.ref f44))) (lPD : K.lookup f44 = some ⟨ocPD, odPD, .func (PySem.W.fnOf "_law_done_right" "_law_done_right" (defArgs s__law_done_right) (defBody s__law_done_right) (defScope s__law_done_right) .none kVPD dcPD pmPD anPD (.ref cD) ctPD), slPD⟩) (cPD : PySem.W.codeIn K (.ref cD) "_law_done_right" = true) (kPD : PySem.W.keepIn K (.ref f44) = true) (hPD : PySem.W.codeHdIn K cD PD = true)
    {ocPL kVPL dcPL pmPL ctPL : Value} {odPL anPL : Option Addr} {slPL : Array (Option Value)} {cL PL : Addr} (a45 : PySem.W.nsIn K mainGlobals "law" = some (some (.ref f45))) (lPL : K.lookup f45 = some ⟨ocPL, odPL, .func (PySem.W.fnOf "law" "law" (defArgs s_law) (defBody s_law) (defScope s_law) .none kVPL dcPL pmPL anPL (.ref cL) ctPL), slPL⟩) (cPL : PySem.W.codeIn K (.ref cL) "law" = true) (kPL : PySem.W.keepIn K (.ref f45) = true) (hPL : PySem.W.codeHdIn K cL PL = true)
    (z0 : PySem.W.nsIn K mainGlobals "len" = some none) (z1 : PySem.W.nsIn K mainGlobals "int" = some none) (z2 : PySem.W.nsIn K mainGlobals "list" = some none) (z3 : PySem.W.nsIn K mainGlobals "tuple" = some none) (z4 : PySem.W.nsIn K mainGlobals "dict" = some none) (z5 : PySem.W.nsIn K mainGlobals "repr" = some none) (z6 : PySem.W.nsIn K mainGlobals "range" = some none) (z7 : PySem.W.nsIn K mainGlobals "zip" = some none) (z8 : PySem.W.nsIn K mainGlobals "sorted" = some none) (z9 : PySem.W.nsIn K mainGlobals "isinstance" = some none) (z10 : PySem.W.nsIn K mainGlobals "all" = some none) (z11 : PySem.W.nsIn K mainGlobals "str" = some none) (z12 : PySem.W.nsIn K mainGlobals "tuple" = some none) (z13 : PySem.W.nsIn K mainGlobals "bool" = some none) (z14 : PySem.W.nsIn K mainGlobals "int" = some none) (z15 : PySem.W.nsIn K mainGlobals "ord" = some none) (z16 : PySem.W.nsIn K mainGlobals "abs" = some none) (z17 : PySem.W.nsIn K mainGlobals "max" = some none) (z18 : PySem.W.nsIn K mainGlobals "set" = some none) (z19 : PySem.W.nsIn K mainGlobals "min" = some none) (z20 : PySem.W.nsIn K mainGlobals "enumerate" = some none) (z21 : PySem.W.nsIn K mainGlobals "reversed" = some none) (z22 : PySem.W.nsIn K mainGlobals "sum" = some none) (z23 : PySem.W.nsIn K mainGlobals "ValueError" = some none) (z24 : PySem.W.nsIn K mainGlobals "LookupError" = some none)
    {uL uO uX : Value} (aL : PySem.W.nsIn K mainGlobals "LONGEST" = some (some uL)) (rL : RelV (.int 8) uL) (aO : PySem.W.nsIn K mainGlobals "BOUND" = some (some uO)) (rO : RelV (.int (10 ^ 30)) uO) (aX : PySem.W.nsIn K mainGlobals "LONGEST_TEXT" = some (some uX)) (rX : RelV (.int 200) uX)
    (xB : PySem.W.nsIn K mainGlobals "BARRED" = some (some (.ref bA))) (lkB : K.lookup bA = some ⟨.type "dict", none, .dict esB nB, #[]⟩) (kkB : PySem.W.KeysLit w.params esB.toList) (wkB : (bA == sysModules) = false) (vkB : esB.toList.map keyNm = barL.map some)
    (xK : PySem.W.nsIn K mainGlobals "KINDS" = some (some (.ref kA))) (lkK : K.lookup kA = some ⟨.type "dict", none, .dict es nb, #[]⟩) (kkK : PySem.W.KeysLit w.params es.toList) (wkK : (kA == sysModules) = false) (vkK : es.toList.map keyNm = nmL.map some)
    (xA : PySem.W.nsIn K mainGlobals "ACTIONS" = some (some (.ref aA))) (lkA : K.lookup aA = some ⟨.type "dict", none, .dict es2 nb2, #[]⟩) (kkA : PySem.W.KeysLit w.params es2.toList) (wkA : (aA == sysModules) = false) (vkA : es2.toList.map keyNm = nmL.map some)
    {oe0 : Option Addr} {it0 : Array Value} {nn0 : Nat} {sm0 : Array (Option Value)} (e0 : PySem.W.nsIn K kA "plus" = some (some (.ref w0))) (t0 : K.lookup w0 = some ⟨.type "tuple", oe0, .seq it0 nn0, sm0⟩) (v0 : Vals ([("whole" : Str), ("whole" : Str)].map V.str ++ [.str "whole"]) it0.toList) (y0 : PySem.W.nsIn K aA "plus" = some (some (.ref f27)))
    {oe1 : Option Addr} {it1 : Array Value} {nn1 : Nat} {sm1 : Array (Option Value)} (e1 : PySem.W.nsIn K kA "minus" = some (some (.ref w1))) (t1 : K.lookup w1 = some ⟨.type "tuple", oe1, .seq it1 nn1, sm1⟩) (v1 : Vals ([("whole" : Str), ("whole" : Str)].map V.str ++ [.str "whole"]) it1.toList) (y1 : PySem.W.nsIn K aA "minus" = some (some (.ref f28)))
    {oe2 : Option Addr} {it2 : Array Value} {nn2 : Nat} {sm2 : Array (Option Value)} (e2 : PySem.W.nsIn K kA "times" = some (some (.ref w2))) (t2 : K.lookup w2 = some ⟨.type "tuple", oe2, .seq it2 nn2, sm2⟩) (v2 : Vals ([("whole" : Str), ("whole" : Str)].map V.str ++ [.str "whole"]) it2.toList) (y2 : PySem.W.nsIn K aA "times" = some (some (.ref f29)))
    {oe3 : Option Addr} {it3 : Array Value} {nn3 : Nat} {sm3 : Array (Option Value)} (e3 : PySem.W.nsIn K kA "equal" = some (some (.ref w3))) (t3 : K.lookup w3 = some ⟨.type "tuple", oe3, .seq it3 nn3, sm3⟩) (v3 : Vals ([("whole" : Str), ("whole" : Str)].map V.str ++ [.str "truth"]) it3.toList) (y3 : PySem.W.nsIn K aA "equal" = some (some (.ref f30)))
    {oe4 : Option Addr} {it4 : Array Value} {nn4 : Nat} {sm4 : Array (Option Value)} (e4 : PySem.W.nsIn K kA "upto" = some (some (.ref w4))) (t4 : K.lookup w4 = some ⟨.type "tuple", oe4, .seq it4 nn4, sm4⟩) (v4 : Vals ([("whole" : Str), ("whole" : Str)].map V.str ++ [.str "truth"]) it4.toList) (y4 : PySem.W.nsIn K aA "upto" = some (some (.ref f31)))
    {oe5 : Option Addr} {it5 : Array Value} {nn5 : Nat} {sm5 : Array (Option Value)} (e5 : PySem.W.nsIn K kA "join" = some (some (.ref w5))) (t5 : K.lookup w5 = some ⟨.type "tuple", oe5, .seq it5 nn5, sm5⟩) (v5 : Vals ([("text" : Str), ("text" : Str)].map V.str ++ [.str "text"]) it5.toList) (y5 : PySem.W.nsIn K aA "join" = some (some (.ref f32)))
    {oe6 : Option Addr} {it6 : Array Value} {nn6 : Nat} {sm6 : Array (Option Value)} (e6 : PySem.W.nsIn K kA "size" = some (some (.ref w6))) (t6 : K.lookup w6 = some ⟨.type "tuple", oe6, .seq it6 nn6, sm6⟩) (v6 : Vals ([("text" : Str)].map V.str ++ [.str "whole"]) it6.toList) (y6 : PySem.W.nsIn K aA "size" = some (some (.ref f33)))
    {oe7 : Option Addr} {it7 : Array Value} {nn7 : Nat} {sm7 : Array (Option Value)} (e7 : PySem.W.nsIn K kA "eqtext" = some (some (.ref w7))) (t7 : K.lookup w7 = some ⟨.type "tuple", oe7, .seq it7 nn7, sm7⟩) (v7 : Vals ([("text" : Str), ("text" : Str)].map V.str ++ [.str "truth"]) it7.toList) (y7 : PySem.W.nsIn K aA "eqtext" = some (some (.ref f30)))
    {oe8 : Option Addr} {it8 : Array Value} {nn8 : Nat} {sm8 : Array (Option Value)} (e8 : PySem.W.nsIn K kA "uptotext" = some (some (.ref w8))) (t8 : K.lookup w8 = some ⟨.type "tuple", oe8, .seq it8 nn8, sm8⟩) (v8 : Vals ([("text" : Str), ("text" : Str)].map V.str ++ [.str "truth"]) it8.toList) (y8 : PySem.W.nsIn K aA "uptotext" = some (some (.ref f31)))
    {oe9 : Option Addr} {it9 : Array Value} {nn9 : Nat} {sm9 : Array (Option Value)} (e9 : PySem.W.nsIn K kA "spell" = some (some (.ref w9))) (t9 : K.lookup w9 = some ⟨.type "tuple", oe9, .seq it9 nn9, sm9⟩) (v9 : Vals ([("whole" : Str)].map V.str ++ [.str "text"]) it9.toList) (y9 : PySem.W.nsIn K aA "spell" = some (some (.ref f34)))
    (qV : Kc K "InvalidValue" mroV CV) (pV : Ki K CV mroV "ValueError.__new__" gV) (iV : HasFn K gV "__init__" "InvalidValue.__init__" s_InvalidValue___init__) (nV : PySem.W.findIn K (.ref CV) "index" = some none)
    (qN : Kc K "NoPrimitive" mroL CN) (pN : Ki K CN mroL "LookupError.__new__" gN) (iN : HasFn K gN "__init__" "NoPrimitive.__init__" s_NoPrimitive___init__) (nN : PySem.W.findIn K (.ref CN) "word" = some none) (neq : (CV == CN) = false)
    (aS : PySem.W.nsIn K mainGlobals "Scheme" = some (some (.ref CS))) (cS : Cls K CS) (mS : L2.Mk K CS fI) (ha : PySem.W.findIn K (.ref CS) "__class__" = some (some (.builtin "object.__class__"))) (hn : PySem.W.specialIn K (.builtin "object.__class__") "__get__" = some (some (.builtin "getset_descriptor.__get__"))) (htk : PySem.W.takesIn K (.builtin "object.__class__") = some true) (hmo : PySem.W.mroIn K CS (.type "object") = some true) (hme : PySem.W.kitOne K (.ref CS) (.ref CS) = some true)
    (n1 : PySem.W.findIn K (.ref CS) "kind" = some none) (n2 : PySem.W.findIn K (.ref CS) "needs" = some none) (n3 : PySem.W.findIn K (.ref CS) "variables" = some none) (n4 : PySem.W.findIn K (.ref CS) "size" = some none) (uI : HasFn K fI "__init__" "Scheme.__init__" s_Scheme___init__)
    (sne : PySem.W.findIn K (.ref CS) "__ne__" = some (some (.builtin "object.__ne__"))) (seq : PySem.W.findIn K (.ref CS) "__eq__" = some (some (.ref fE))) (sfn : PySem.W.isFn K (.ref fE) = true) (uE : HasFn K fE "__eq__" "Scheme.__eq__" s_Scheme___eq__)
    (aP : PySem.W.nsIn K mainGlobals "Primitives" = some (some (.ref CP))) (sg : PySem.W.specialIn K (.ref CP) "__getattribute__" = some (some (.builtin "type.__getattribute__"))) (sr : PySem.W.readsIn K CP (.type "type") = true)
    (sN : PySem.W.findCls K (.ref CP) (.type "type") "NAMES" = some (.val (.ref nA))) {oN : Option Addr} {itN : Array Value} {nnN : Nat} {smN : Array (Option Value)} (tN : K.lookup nA = some ⟨.type "tuple", oN, .seq itN nnN, smN⟩) (vN : Vals (nmL.map V.str) itN.toList)
    (sfD : PySem.W.findCls K (.ref CP) (.type "type") "done" = some (.get (.builtin "staticmethod.__get__") (.ref smD) .none (.ref CP))) (scD : PySem.W.recIn K smD "staticmethod" = some (.ref fD :: smR)) (shD : PySem.W.handedIn (.ref fD) = true) (uD : HasFn K fD "done" "Primitives.done" s_Primitives_done)
    (sfT : PySem.W.findCls K (.ref CP) (.type "type") "told_scheme" = some (.get (.builtin "staticmethod.__get__") (.ref smT) .none (.ref CP))) (scT : PySem.W.recIn K smT "staticmethod" = some (.ref fT :: smS)) (shT : PySem.W.handedIn (.ref fT) = true) (uT : HasFn K fT "told_scheme" "Primitives.told_scheme" s_Primitives_told_scheme)
    (hLD : (PL == PD) = false) :
    ∃ fd : FuncData, (∀ p ∈ [PL, PD], ∃ c, PySem.W.CodeHd h c p) ∧ (∀ (s : Shared) (v : Value), BindsTo s fd ⟨[v], []⟩ [("_law_script", v)]) ∧ ∀ base : Heap, K.In base → base.Ns mainGlobals mg → (∀ p ∈ [PL, PD], ∀ c, PySem.W.CodeHd h c p → TabB base mg c p) → LawRun l.prog w K mg base fa fd "_law_script" (spLaw K [PL, PD]) := by
  have e := hfa.symm.trans (PySem.W.mg_of X G a45)
  cases e
  have B : Bl mg := ⟨PySem.W.mg_none_of X G z0, PySem.W.mg_none_of X G z1, PySem.W.mg_none_of X G z2, PySem.W.mg_none_of X G z3, PySem.W.mg_none_of X G z4, PySem.W.mg_none_of X G z5, PySem.W.mg_none_of X G z6, PySem.W.mg_none_of X G z7, PySem.W.mg_none_of X G z8⟩
  have B9 : Bl9 mg := ⟨PySem.W.mg_none_of X G z9, PySem.W.mg_none_of X G z10, PySem.W.mg_none_of X G z11, PySem.W.mg_none_of X G z12, PySem.W.mg_none_of X G z13, PySem.W.mg_none_of X G z14, PySem.W.mg_none_of X G z15, PySem.W.mg_none_of X G z16, PySem.W.mg_none_of X G z17⟩
  have M : Mn K w mg bA esB nB := ⟨⟨_, PySem.W.mg_of X G aL, rL⟩, ⟨_, PySem.W.mg_of X G xB, rfl⟩, ⟨lkB, kkB, wkB⟩, has_of lkB vkB, ⟨_, PySem.W.mg_of X G aO, rO⟩, ⟨_, PySem.W.mg_of X G aX, rX⟩, PySem.W.mg_none_of X G z18⟩
  have MP : Mp mg := ⟨⟨_, PySem.W.mg_of X G aO, rO⟩, PySem.W.mg_none_of X G z19, ⟨_, PySem.W.mg_of X G aX, rX⟩⟩
  have MK : L3.Mk K w mg kA es nb aA es2 nb2 := ⟨⟨_, PySem.W.mg_of X G xK, rfl⟩, PySem.W.mg_none_of X G z20, ⟨lkK, kkK, wkK⟩, has_of lkK vkK, ⟨_, PySem.W.mg_of X G xA, rfl⟩, ⟨lkA, kkA, wkA⟩⟩
  have MS : Ms mg := ⟨PySem.W.mg_none_of X G z8⟩
  have B5 : Bl5 mg := ⟨PySem.W.mg_none_of X G z21, PySem.W.mg_none_of X G z22⟩
  obtain ⟨oc1, od1, kV1, dc1, pm1, an1, cd1, ct1, sl1, l1, c1, k1⟩ := u1
  obtain ⟨oc2, od2, kV2, dc2, pm2, an2, cd2, ct2, sl2, l2, c2, k2⟩ := u2
  obtain ⟨oc3, od3, kV3, dc3, pm3, an3, cd3, ct3, sl3, l3, c3, k3⟩ := u3
  obtain ⟨oc4, od4, kV4, dc4, pm4, an4, cd4, ct4, sl4, l4, c4, k4⟩ := u4
  obtain ⟨oc5, od5, kV5, dc5, pm5, an5, cd5, ct5, sl5, l5, c5, k5⟩ := u5
  obtain ⟨oc6, od6, kV6, dc6, pm6, an6, cd6, ct6, sl6, l6, c6, k6⟩ := u6
  obtain ⟨oc7, od7, kV7, dc7, pm7, an7, cd7, ct7, sl7, l7, c7, k7⟩ := u7
  obtain ⟨oc8, od8, kV8, dc8, pm8, an8, cd8, ct8, sl8, l8, c8, k8⟩ := u8
  obtain ⟨oc9, od9, kV9, dc9, pm9, an9, cd9, ct9, sl9, l9, c9, k9⟩ := u9
  obtain ⟨oc10, od10, kV10, dc10, pm10, an10, cd10, ct10, sl10, l10, c10, k10⟩ := u10
  obtain ⟨oc11, od11, kV11, dc11, pm11, an11, cd11, ct11, sl11, l11, c11, k11⟩ := u11
  obtain ⟨oc12, od12, kV12, dc12, pm12, an12, cd12, ct12, sl12, l12, c12, k12⟩ := u12
  obtain ⟨oc13, od13, kV13, dc13, pm13, an13, cd13, ct13, sl13, l13, c13, k13⟩ := u13
  obtain ⟨oc14, od14, kV14, dc14, pm14, an14, cd14, ct14, sl14, l14, c14, k14⟩ := u14
  obtain ⟨oc15, od15, kV15, dc15, pm15, an15, cd15, ct15, sl15, l15, c15, k15⟩ := u15
  obtain ⟨oc16, od16, kV16, dc16, pm16, an16, cd16, ct16, sl16, l16, c16, k16⟩ := u16
  obtain ⟨oc17, od17, kV17, dc17, pm17, an17, cd17, ct17, sl17, l17, c17, k17⟩ := u17
  obtain ⟨oc18, od18, kV18, dc18, pm18, an18, cd18, ct18, sl18, l18, c18, k18⟩ := u18
  obtain ⟨oc19, od19, kV19, dc19, pm19, an19, cd19, ct19, sl19, l19, c19, k19⟩ := u19
  obtain ⟨oc20, od20, kV20, dc20, pm20, an20, cd20, ct20, sl20, l20, c20, k20⟩ := u20
  obtain ⟨oc21, od21, kV21, dc21, pm21, an21, cd21, ct21, sl21, l21, c21, k21⟩ := u21
  obtain ⟨oc22, od22, kV22, dc22, pm22, an22, cd22, ct22, sl22, l22, c22, k22⟩ := u22
  obtain ⟨oc23, od23, kV23, dc23, pm23, an23, cd23, ct23, sl23, l23, c23, k23⟩ := u23
  obtain ⟨oc24, od24, kV24, dc24, pm24, an24, cd24, ct24, sl24, l24, c24, k24⟩ := u24
  obtain ⟨oc25, od25, kV25, dc25, pm25, an25, cd25, ct25, sl25, l25, c25, k25⟩ := u25
  obtain ⟨oc26, od26, kV26, dc26, pm26, an26, cd26, ct26, sl26, l26, c26, k26⟩ := u26
  obtain ⟨oc27, od27, kV27, dc27, pm27, an27, cd27, ct27, sl27, l27, c27, k27⟩ := u27
  obtain ⟨oc28, od28, kV28, dc28, pm28, an28, cd28, ct28, sl28, l28, c28, k28⟩ := u28
  obtain ⟨oc29, od29, kV29, dc29, pm29, an29, cd29, ct29, sl29, l29, c29, k29⟩ := u29
  obtain ⟨oc30, od30, kV30, dc30, pm30, an30, cd30, ct30, sl30, l30, c30, k30⟩ := u30
  obtain ⟨oc31, od31, kV31, dc31, pm31, an31, cd31, ct31, sl31, l31, c31, k31⟩ := u31
  obtain ⟨oc32, od32, kV32, dc32, pm32, an32, cd32, ct32, sl32, l32, c32, k32⟩ := u32
  obtain ⟨oc33, od33, kV33, dc33, pm33, an33, cd33, ct33, sl33, l33, c33, k33⟩ := u33
  obtain ⟨oc34, od34, kV34, dc34, pm34, an34, cd34, ct34, sl34, l34, c34, k34⟩ := u34
  obtain ⟨oc35, od35, kV35, dc35, pm35, an35, cd35, ct35, sl35, l35, c35, k35⟩ := u35
  obtain ⟨oc36, od36, kV36, dc36, pm36, an36, cd36, ct36, sl36, l36, c36, k36⟩ := u36
  obtain ⟨oc37, od37, kV37, dc37, pm37, an37, cd37, ct37, sl37, l37, c37, k37⟩ := u37
  obtain ⟨oc38, od38, kV38, dc38, pm38, an38, cd38, ct38, sl38, l38, c38, k38⟩ := u38
  obtain ⟨oc39, od39, kV39, dc39, pm39, an39, cd39, ct39, sl39, l39, c39, k39⟩ := u39
  obtain ⟨oc40, od40, kV40, dc40, pm40, an40, cd40, ct40, sl40, l40, c40, k40⟩ := u40
  obtain ⟨oc41, od41, kV41, dc41, pm41, an41, cd41, ct41, sl41, l41, c41, k41⟩ := u41
  obtain ⟨oc42, od42, kV42, dc42, pm42, an42, cd42, ct42, sl42, l42, c42, k42⟩ := u42
  obtain ⟨oc43, od43, kV43, dc43, pm43, an43, cd43, ct43, sl43, l43, c43, k43⟩ := u43
  have F1 := fun_mk (st := s_is_word) l1 c1 k1
  have m1 := PySem.W.mg_of X G a1
  have F2 := fun_mk (st := s_is_name) l2 c2 k2
  have m2 := PySem.W.mg_of X G a2
  have F3 := fun_mk (st := s_is_integer) l3 c3 k3
  have m3 := PySem.W.mg_of X G a3
  have F4 := fun_mk (st := s_con) l4 c4 k4
  have m4 := PySem.W.mg_of X G a4
  have F5 := fun_mk (st := s_applied) l5 c5 k5
  have m5 := PySem.W.mg_of X G a5
  have F6 := fun_mk (st := s_to) l6 c6 k6
  have m6 := PySem.W.mg_of X G a6
  have F7 := fun_mk (st := s_is_kind) l7 c7 k7
  have m7 := PySem.W.mg_of X G a7
  have F8 := fun_mk (st := s_is_leaf) l8 c8 k8
  have m8 := PySem.W.mg_of X G a8
  have F9 := fun_mk (st := s_leaves_of) l9 c9 k9
  have m9 := PySem.W.mg_of X G a9
  have F10 := fun_mk (st := s_size_of) l10 c10 k10
  have m10 := PySem.W.mg_of X G a10
  have F11 := fun_mk (st := s_variables_of) l11 c11 k11
  have m11 := PySem.W.mg_of X G a11
  have F12 := fun_mk (st := s_put) l12 c12 k12
  have m12 := PySem.W.mg_of X G a12
  have F13 := fun_mk (st := s_kinds_of) l13 c13 k13
  have m13 := PySem.W.mg_of X G a13
  have F14 := fun_mk (st := s_variables_in) l14 c14 k14
  have m14 := PySem.W.mg_of X G a14
  have F15 := fun_mk (st := s_same_scheme) l15 c15 k15
  have m15 := PySem.W.mg_of X G a15
  have F16 := fun_mk (st := s_told_once) l16 c16 k16
  have m16 := PySem.W.mg_of X G a16
  have F17 := fun_mk (st := s_same_by_names) l17 c17 k17
  have m17 := PySem.W.mg_of X G a17
  have F18 := fun_mk (st := s_renamed) l18 c18 k18
  have m18 := PySem.W.mg_of X G a18
  have F19 := fun_mk (st := s_bare) l19 c19 k19
  have m19 := PySem.W.mg_of X G a19
  have F20 := fun_mk (st := s_variable_leaves) l20 c20 k20
  have m20 := PySem.W.mg_of X G a20
  have F21 := fun_mk (st := s_is_whole) l21 c21 k21
  have m21 := PySem.W.mg_of X G a21
  have F22 := fun_mk (st := s_is_text) l22 c22 k22
  have m22 := PySem.W.mg_of X G a22
  have F23 := fun_mk (st := s_check_primitive) l23 c23 k23
  have m23 := PySem.W.mg_of X G a23
  have F24 := fun_mk (st := s_is_plain) l24 c24 k24
  have m24 := PySem.W.mg_of X G a24
  have F25 := fun_mk (st := s_bounded) l25 c25 k25
  have m25 := PySem.W.mg_of X G a25
  have F26 := fun_mk (st := s_truth) l26 c26 k26
  have m26 := PySem.W.mg_of X G a26
  have F27 := fun_mk (st := s_added) l27 c27 k27
  have m27 := PySem.W.mg_of X G a27
  have F28 := fun_mk (st := s_lessened) l28 c28 k28
  have m28 := PySem.W.mg_of X G a28
  have F29 := fun_mk (st := s_multiplied) l29 c29 k29
  have m29 := PySem.W.mg_of X G a29
  have F30 := fun_mk (st := s_are_equal) l30 c30 k30
  have m30 := PySem.W.mg_of X G a30
  have F31 := fun_mk (st := s_are_in_row) l31 c31 k31
  have m31 := PySem.W.mg_of X G a31
  have F32 := fun_mk (st := s_put_together) l32 c32 k32
  have m32 := PySem.W.mg_of X G a32
  have F33 := fun_mk (st := s_length_of) l33 c33 k33
  have m33 := PySem.W.mg_of X G a33
  have F34 := fun_mk (st := s_spelled) l34 c34 k34
  have m34 := PySem.W.mg_of X G a34
  have F35 := fun_mk (st := s__law_begin) l35 c35 k35
  have m35 := PySem.W.mg_of X G a35
  have F36 := fun_mk (st := s__law_draw) l36 c36 k36
  have m36 := PySem.W.mg_of X G a36
  have F37 := fun_mk (st := s__law_pick) l37 c37 k37
  have m37 := PySem.W.mg_of X G a37
  have F38 := fun_mk (st := s__law_made) l38 c38 k38
  have m38 := PySem.W.mg_of X G a38
  have F39 := fun_mk (st := s__law_sorts) l39 c39 k39
  have m39 := PySem.W.mg_of X G a39
  have F40 := fun_mk (st := s__law_sample) l40 c40 k40
  have m40 := PySem.W.mg_of X G a40
  have F41 := fun_mk (st := s__law_odd) l41 c41 k41
  have m41 := PySem.W.mg_of X G a41
  have F42 := fun_mk (st := s__law_tried) l42 c42 k42
  have m42 := PySem.W.mg_of X G a42
  have F43 := fun_mk (st := s__law_refused) l43 c43 k43
  have m43 := PySem.W.mg_of X G a43
  have F44 := fun_mk (st := s__law_done_right) lPD cPD kPD
  have m44 := PySem.W.mg_of X G a44
  have F45 := fun_mk (st := s_law) lPL cPL kPL
  have hCD : PySem.W.CodeHd h cD PD := PySem.W.codeHd_of_K X hPD
  have hCL : PySem.W.CodeHd h cL PL := PySem.W.codeHd_of_K X hPL
  refine ⟨PySem.W.fnOf "law" "law" (defArgs s_law) (defBody s_law) (defScope s_law) .none kVPL dcPL pmPL anPL (.ref cL) ctPL, fun p hp => ?_, fun s v => .of_eq rfl, fun base _ _ TBs => ?_⟩
  · rcases List.mem_cons.mp hp with rfl | hp
    · exact ⟨_, hCL⟩
    · rw [List.mem_singleton.mp hp]
      exact ⟨_, hCD⟩
  have TBL := TBs PL List.mem_cons_self cL hCL
  have TBD := TBs PD (List.mem_cons_of_mem _ List.mem_cons_self) cD hCD
  have nLD : PL ≠ PD := fun z => by rw [z] at hLD; simp at hLD
  have nVN : CV ≠ CN := fun z => by rw [z] at neq; simp at neq
  have E_InvalidValue : E1 l.prog w K mg base "InvalidValue" "index" mroV "ValueError.__new__" CV := by
    obtain ⟨_, _, kV, dc, pm, an, cd, ct, _, lk, ck, kk⟩ := iV
    have F := fun_mk (st := s_InvalidValue___init__) lk ck kk
    exact e1_of qV pV (PySem.W.mg_of X G qV.ns) nV (i_InvalidValue F) (F.binds (fun _ _ _ _ _ _ us hl => match us, hl with | [_, _], _ => rfl)) (kb1 (fun s a b => .of_eq rfl))
  have E_NoPrimitive : E1 l.prog w K mg base "NoPrimitive" "word" mroL "LookupError.__new__" CN := by
    obtain ⟨_, _, kV, dc, pm, an, cd, ct, _, lk, ck, kk⟩ := iN
    have F := fun_mk (st := s_NoPrimitive___init__) lk ck kk
    exact e1_of qN pN (PySem.W.mg_of X G qN.ns) nN (i_NoPrimitive F) (F.binds (fun _ _ _ _ _ _ us hl => match us, hl with | [_, _], _ => rfl)) (kb1 (fun s a b => .of_eq rfl))
  have Dword := Fun.kn (P := l.prog) (w := w) (base := base) (k := 1) F1 m1 (ok_word F1 B B9 M) (fun _ _ _ _ _ _ us hl => match us, hl with | [_], _ => rfl)
  have Dname := Fun.kn (P := l.prog) (w := w) (base := base) (k := 2) F2 m2 (ok_name F2 M Dword) (fun _ _ _ _ _ _ us hl => match us, hl with | [_], _ => rfl)
  have Dint := Fun.kn (P := l.prog) (w := w) (base := base) (k := 1) F3 m3 (ok_int F3 B9) (fun _ _ _ _ _ _ us hl => match us, hl with | [_], _ => rfl)
  have Dwhole := Fun.kn (P := l.prog) (w := w) (base := base) (k := 2) F21 m21 (ok_whole F21 M Dint) (fun _ _ _ _ _ _ us hl => match us, hl with | [_], _ => rfl)
  have Dtext := Fun.kn (P := l.prog) (w := w) (base := base) (k := 1) F22 m22 (ok_text F22 B B9 M) (fun _ _ _ _ _ _ us hl => match us, hl with | [_], _ => rfl)
  have Dapplied := Fun.kn (P := l.prog) (w := w) (base := base) (k := 1) F5 m5 (ok_applied F5) (fun _ _ _ _ _ _ us hl => match us, hl with | [_, _], _ => rfl)
  have Dcon : KnR l.prog w K mg base 2 "con" (spStar 1 (spConT K)) := ⟨f4, ok_conP F4 Dapplied, m4, k4⟩
  have Dto : KnR l.prog w K mg base 3 "to" (spStar 0 (spTo K)) := ⟨f6, ok_to F6 B B5 Dcon, m6, k6⟩
  have Dleaf := Fun.kn (P := l.prog) (w := w) (base := base) (k := 3) F8 m8 (ok_leaf F8 B Dname) (fun _ _ _ _ _ _ us hl => match us, hl with | [_], _ => rfl)
  have Dkind := Fun.kn (P := l.prog) (w := w) (base := base) (k := 4) F7 m7 (ok_kind F7 B B9 Dleaf) (fun _ _ _ _ _ _ us hl => match us, hl with | [_], _ => rfl)
  have Dleaves : KnR l.prog w K mg base 1 "leaves_of" (spStar 0 (spLeaves K)) := ⟨f9, ok_leaves F9 B B5, m9, k9⟩
  have Dsize : KnR l.prog w K mg base 2 "size_of" (spStar 0 (spSize K)) := ⟨f10, ok_size F10 B Dleaves, m10, k10⟩
  have Dvars : KnR l.prog w K mg base 2 "variables_of" (spStar 0 (spVarsT K)) := ⟨f11, ok_variables F11 B Dleaves, m11, k11⟩
  have Dput := Fun.kn (P := l.prog) (w := w) (base := base) (k := 5) F12 m12 (ok_putP F12 m12 4) (fun _ _ _ _ _ _ us hl => match us, hl with | [_, _], _ => rfl)
  have Dkinds := Fun.kn (P := l.prog) (w := w) (base := base) (k := 1) F13 m13 (ok_kinds F13) (fun _ _ _ _ _ _ us hl => match us, hl with | [_], _ => rfl)
  have Dvarsin := Fun.kn (P := l.prog) (w := w) (base := base) (k := 3) F14 m14 (ok_varsin F14 Dkinds Dvars) (fun _ _ _ _ _ _ us hl => match us, hl with | [_], _ => rfl)
  have Donce := Fun.kn (P := l.prog) (w := w) (base := base) (k := 1) F16 m16 (ok_once F16 B) (fun _ _ _ _ _ _ us hl => match us, hl with | [_], _ => rfl)
  have Dbyn := Fun.kn (P := l.prog) (w := w) (base := base) (k := 1) F17 m17 (ok_bynames F17 B MS) (fun _ _ _ _ _ _ us hl => match us, hl with | [_, _, _], _ => rfl)
  have Dbare := Fun.kn (P := l.prog) (w := w) (base := base) (k := 6) F19 m19 (ok_bare (n := 4) (by decide) F19 Dput Dvars) (fun _ _ _ _ _ _ us hl => match us, hl with | [_], _ => rfl)
  have Dvl := Fun.kn (P := l.prog) (w := w) (base := base) (k := 2) F20 m20 (ok_varleaves F20 Dleaves) (fun _ _ _ _ _ _ us hl => match us, hl with | [_], _ => rfl)
  have Dren := Fun.kn (P := l.prog) (w := w) (base := base) (k := 7) F18 m18 (ok_ren (n := 4) (by decide) (by decide) F18 B B9 Dbare Dvl) (fun _ _ _ _ _ _ us hl => match us, hl with | [_, _, _], _ => rfl)
  have Dsame := Fun.kn (P := l.prog) (w := w) (base := base) (k := 8) F15 m15 (ok_same (n := 4) (by decide) F15 B B9 Dren Donce Dvarsin Dbyn) (fun _ _ _ _ _ _ us hl => match us, hl with | [_, _, _, _], _ => rfl)
  have SC : ScK K mg CS fI := ⟨PySem.W.mg_of X G aS, cS, mS, ⟨cS, ha, hn, htk, hmo, hme⟩, n1, n2, n3, n4⟩
  obtain ⟨ocI, odI, kVI, dcI, pmI, anI, cdI, ctI, slI, lI, cI, kI⟩ := uI
  have FI := fun_mk (st := s_Scheme___init__) lI cI kI
  obtain ⟨ocE, odE, kVE, dcE, pmE, anE, cdE, ctE, slE, lE, cE, kE⟩ := uE
  have FE := fun_mk (st := s_Scheme___eq__) lE cE kE
  obtain ⟨ocD, odD, kVD, dcD, pmD, anD, cdD, ctD, slD, lD, cD2, kD⟩ := uD
  have FD := fun_mk (st := s_Primitives_done) lD cD2 kD
  obtain ⟨ocT, odT, kVT, dcT, pmT, anT, cdT, ctT, slT, lT, cT, kT⟩ := uT
  have FT := fun_mk (st := s_Primitives_told_scheme) lT cT kT
  have HI := ok_init (P := l.prog) (w := w) (base := base) FI SC Dkind Dkinds Dvars Dsize
  have HE := ok_eq (P := l.prog) (w := w) (base := base) FE SC B9 Dsame
  have Dcheck := Fun.knX (P := l.prog) (w := w) (base := base) (k := 3) F23 m23 (ok_check F23 B9 MK E_NoPrimitive) (fun _ _ _ _ _ _ us hl => match us, hl with | [_], _ => rfl)
  have HT := fnr_of (ok_told (P := l.prog) (w := w) (base := base) FT B MK SC Dcheck Dcon Dto HI) (FT.binds (fun _ _ _ _ _ _ us hl => match us, hl with | [_], _ => rfl))
  have Dplain := Fun.kn (P := l.prog) (w := w) (base := base) (k := 3) F24 m24 (ok_plain (bA := bA) (es := esB) (nb := nB) F24 B B9 Dwhole Dtext) (fun _ _ _ _ _ _ us hl => match us, hl with | [_, _], _ => rfl)
  have HD := ok_done (P := l.prog) (w := w) (base := base) FD B MK E_InvalidValue Dcheck Dplain
  have Dbounded := Fun.kn (P := l.prog) (w := w) (base := base) (k := 1) F25 m25 (ok_bounded F25 B9 MP) (fun _ _ _ _ _ _ us hl => match us, hl with | [_], _ => rfl)
  have Dtruth := Fun.kn (P := l.prog) (w := w) (base := base) (k := 1) F26 m26 (ok_truth F26) (fun _ _ _ _ _ _ us hl => match us, hl with | [_], _ => rfl)
  have H_added := does_of (P := l.prog) (w := w) (mg := mg) (base := base) (ok_add F27 Dbounded) (F27.binds (fun _ _ _ _ _ _ us hl => match us, hl with | [_, _], _ => rfl)) (by decide) k27
  have H_lessened := does_of (P := l.prog) (w := w) (mg := mg) (base := base) (ok_less F28 Dbounded) (F28.binds (fun _ _ _ _ _ _ us hl => match us, hl with | [_, _], _ => rfl)) (by decide) k28
  have H_multiplied := does_of (P := l.prog) (w := w) (mg := mg) (base := base) (ok_mul F29 Dbounded) (F29.binds (fun _ _ _ _ _ _ us hl => match us, hl with | [_, _], _ => rfl)) (by decide) k29
  have H_are_equal := does_of (P := l.prog) (w := w) (mg := mg) (base := base) (ok_equal F30 Dtruth) (F30.binds (fun _ _ _ _ _ _ us hl => match us, hl with | [_, _], _ => rfl)) (by decide) k30
  have H_are_in_row := does_of (P := l.prog) (w := w) (mg := mg) (base := base) (ok_row F31 Dtruth) (F31.binds (fun _ _ _ _ _ _ us hl => match us, hl with | [_, _], _ => rfl)) (by decide) k31
  have H_put_together := does_of (P := l.prog) (w := w) (mg := mg) (base := base) (ok_put F32 MP) (F32.binds (fun _ _ _ _ _ _ us hl => match us, hl with | [_, _], _ => rfl)) (by decide) k32
  have H_length_of := does_of (P := l.prog) (w := w) (mg := mg) (base := base) (ok_length F33 B) (F33.binds (fun _ _ _ _ _ _ us hl => match us, hl with | [_], _ => rfl)) (by decide) k33
  have H_spelled := does_of (P := l.prog) (w := w) (mg := mg) (base := base) (ok_spelled F34 B9) (F34.binds (fun _ _ _ _ _ _ us hl => match us, hl with | [_], _ => rfl)) (by decide) k34
  have R : Rw l.prog w K mg base kA aA := by
    refine ⟨fun x hx => ?_, fun x hx => ?_⟩
    · rcases nm_cases hx with rfl | rfl | rfl | rfl | rfl | rfl | rfl | rfl | rfl | rfl
      · exact row_of (by decide +kernel) (by decide +kernel) lkK kkK e0 t0 v0 (by decide)
      · exact row_of (by decide +kernel) (by decide +kernel) lkK kkK e1 t1 v1 (by decide)
      · exact row_of (by decide +kernel) (by decide +kernel) lkK kkK e2 t2 v2 (by decide)
      · exact row_of (by decide +kernel) (by decide +kernel) lkK kkK e3 t3 v3 (by decide)
      · exact row_of (by decide +kernel) (by decide +kernel) lkK kkK e4 t4 v4 (by decide)
      · exact row_of (by decide +kernel) (by decide +kernel) lkK kkK e5 t5 v5 (by decide)
      · exact row_of (by decide +kernel) (by decide +kernel) lkK kkK e6 t6 v6 (by decide)
      · exact row_of (by decide +kernel) (by decide +kernel) lkK kkK e7 t7 v7 (by decide)
      · exact row_of (by decide +kernel) (by decide +kernel) lkK kkK e8 t8 v8 (by decide)
      · exact row_of (by decide +kernel) (by decide +kernel) lkK kkK e9 t9 v9 (by decide)
    · rcases nm_cases hx with rfl | rfl | rfl | rfl | rfl | rfl | rfl | rfl | rfl | rfl
      · exact ⟨_, _, ⟨_, _, _, lkA, kkA, y0, rfl⟩, H_added, act_plus⟩
      · exact ⟨_, _, ⟨_, _, _, lkA, kkA, y1, rfl⟩, H_lessened, act_minus⟩
      · exact ⟨_, _, ⟨_, _, _, lkA, kkA, y2, rfl⟩, H_multiplied, act_times⟩
      · exact ⟨_, _, ⟨_, _, _, lkA, kkA, y3, rfl⟩, H_are_equal, act_equal⟩
      · exact ⟨_, _, ⟨_, _, _, lkA, kkA, y4, rfl⟩, H_are_in_row, act_upto⟩
      · exact ⟨_, _, ⟨_, _, _, lkA, kkA, y5, rfl⟩, H_put_together, act_join⟩
      · exact ⟨_, _, ⟨_, _, _, lkA, kkA, y6, rfl⟩, H_length_of, act_size⟩
      · exact ⟨_, _, ⟨_, _, _, lkA, kkA, y7, rfl⟩, H_are_equal, act_eqtext⟩
      · exact ⟨_, _, ⟨_, _, _, lkA, kkA, y8, rfl⟩, H_are_in_row, act_uptotext⟩
      · exact ⟨_, _, ⟨_, _, _, lkA, kkA, y9, rfl⟩, H_spelled, act_spell⟩
  have hC := PySem.W.mg_of X G aP
  have SMD : SmK K CP "done" fD := ⟨sg, ⟨_, sr, _, sfD, _, scD⟩, shD, kD⟩
  have SMT : SmK K CP "told_scheme" fT := ⟨sg, ⟨_, sr, _, sfT, _, scT⟩, shT, kT⟩
  have Dbegin := Fun.kn (P := l.prog) (w := w) (base := base) (k := 1) F35 m35 (ok_begin F35) (fun _ _ _ _ _ _ us hl => match us, hl with | [_], _ => rfl)
  have Ddraw := Fun.kn (P := l.prog) (w := w) (base := base) (k := 1) F36 m36 (ok_draw F36 B) (fun _ _ _ _ _ _ us hl => match us, hl with | [_, _], _ => rfl)
  have Dpick := Fun.kn (P := l.prog) (w := w) (base := base) (k := 2) F37 m37 (ok_pick2 F37 B Ddraw) (fun _ _ _ _ _ _ us hl => match us, hl with | [_, _], _ => rfl)
  have Dmade := Fun.kn (P := l.prog) (w := w) (base := base) (k := 1) F38 m38 (ok_lmade F38 B B9 MP) (fun _ _ _ _ _ _ us hl => match us, hl with | [_, _, _], _ => rfl)
  have Dsorts := Fun.kn (P := l.prog) (w := w) (base := base) (k := 1) F39 m39 (ok_sorts F39) (fun _ _ _ _ _ _ us hl => match us, hl with | [_], _ => rfl)
  have Dsample := Fun.kn (P := l.prog) (w := w) (base := base) (k := 3) F40 m40 (ok_sample F40 B B9 Ddraw Dpick) (fun _ _ _ _ _ _ us hl => match us, hl with | [_, _], _ => rfl)
  have Dodd := Fun.kn (P := l.prog) (w := w) (base := base) (k := 4) F41 m41 (ok_odd F41 Dpick Dsample) (fun _ _ _ _ _ _ us hl => match us, hl with | [_, _], _ => rfl)
  have Dtried := Fun.knX (P := l.prog) (w := w) (base := base) (k := 5) F42 m42 (ok_tried F42 B hC SMD HD) (fun _ _ _ _ _ _ us hl => match us, hl with | [_, _], _ => rfl)
  obtain ⟨TT, hTT⟩ : ∃ TT : List (Addr × Str), TT = [(PL, ("law" : Str) ++ ".<locals>." ++ ("<lambda>" : Str)), (PD, ("_law_done_right" : Str) ++ ".<locals>." ++ ("<lambda>" : Str))] := ⟨_, rfl⟩
  have hmD : (PD, ("_law_done_right" : Str) ++ ".<locals>." ++ ("<lambda>" : Str)) ∈ TT := by rw [hTT]; exact List.mem_cons_of_mem _ List.mem_cons_self
  have huD : ∀ p ∈ TT, p.1 = PD → p.2 = ("_law_done_right" : Str) ++ ".<locals>." ++ ("<lambda>" : Str) := fun p hp e => by
    rw [hTT] at hp
    rcases List.mem_cons.mp hp with rfl | hp
    · exact absurd e nLD
    · rw [List.mem_singleton.mp hp]
  have Dright : KnG l.prog w K mg base 9 "_law_done_right" (spRight K TT) := ⟨f44, ok_right (P := l.prog) (w := w) (base := base) (CN := CN) (CV := CV) F44 rfl TBD (F44.binds (fun _ _ _ _ _ _ us hl => match us, hl with | [_, _], _ => rfl)) hmD huD B B9 (PySem.W.mg_none_of X G z23) (PySem.W.mg_none_of X G z24) E_InvalidValue E_NoPrimitive nVN R F43 m43 (F43.binds (fun _ _ _ _ _ _ us hl => match us, hl with | [_], _ => rfl)) Dsorts Dsample Dodd Ddraw Dmade Dtried, m44, kPD⟩
  exact law_run (P := l.prog) (w := w) (base := base) (CN := CN) (CV := CV) F45 rfl TBL hTT nLD B B9 (PySem.W.mg_none_of X G z23) (PySem.W.mg_none_of X G z24) E_InvalidValue E_NoPrimitive nVN R F43 m43 (F43.binds (fun _ _ _ _ _ _ us hl => match us, hl with | [_], _ => rfl)) hC ⟨sr, sg⟩ ⟨sN, rfl⟩ (tup_of tN vN (by decide)) SC HI HE sne seq sfn (FE.binds (fun _ _ _ _ _ _ us hl => match us, hl with | [_, _], _ => rfl)) SMT HT Dbegin Dpick Dsorts Dodd Dtried Dright
theorem ex_of {l : PySem.W.OpenLaw} {w : World} {K : PySem.W.Frag} {h : Heap} {mg : Str → Option Value} {fa PL PD : Addr} (KX : K.In h) (T1 : h.get? PL = some { cls := .none, data := .fields #[] }) (T2 : h.get? PD = some { cls := .none, data := .fields #[] }) (o1 : K.lookup PL = none) (o2 : K.lookup PD = none)
    (r : ∃ fd : FuncData, (∀ p ∈ [PL, PD], ∃ c, PySem.W.CodeHd h c p) ∧ (∀ (s : Shared) (v : Value), BindsTo s fd ⟨[v], []⟩ [("_law_script", v)]) ∧ ∀ base : Heap, K.In base → base.Ns mainGlobals mg → (∀ p ∈ [PL, PD], ∀ c, PySem.W.CodeHd h c p → TabB base mg c p) → LawRun l.prog w K mg base fa fd "_law_script" (spLaw K [PL, PD])) :
    ∃ (K : PySem.W.Frag) (fd : FuncData) (ts : List Addr), K.In h ∧ (∀ p ∈ ts, h.get? p = some { cls := .none, data := .fields #[] }) ∧ (∀ p ∈ ts, K.lookup p = none) ∧ (∀ p ∈ ts, ∃ c, PySem.W.CodeHd h c p) ∧ (∀ (s : Shared) (u : Value), BindsTo s fd ⟨[u], []⟩ [("_law_script", u)]) ∧ ∀ base : Heap, K.In base → base.Ns mainGlobals mg → (∀ p ∈ ts, ∀ c, PySem.W.CodeHd h c p → TabB base mg c p) → LawRun l.prog w K mg base fa fd "_law_script" (spLaw K ts) := by
  obtain ⟨fd, h1, h2, h3⟩ := r
  refine ⟨K, fd, [PL, PD], KX, fun p hp => ?_, fun p hp => ?_, h1, h2, h3⟩
  · rcases List.mem_cons.mp hp with rfl | hp
    · exact T1
    · rw [List.mem_singleton.mp hp]
      exact T2
  · rcases List.mem_cons.mp hp with rfl | hp
    · exact o1
    · rw [List.mem_singleton.mp hp]
      exact o2
end L3

set_option maxHeartbeats 4000000
open PySem PySem.W PySem.Calls PyProof.Rows in
set_option maxRecDepth 100000 in
set_option maxHeartbeats 0 in
theorem PySem.Challenge.cw_leastneeds_k56_primitives_holds : PySem.Challenge.rw_leastneeds_k56_primitives.Holds := by
  w_on; o_law; k_head; (case hw => w_witness2)
  k_fill
  refine L3.walkXTs (l := PySem.Challenge.rw_leastneeds_k56_primitives) (n := 63) (x := "_law_script") (sp := fun K ts => L3.spLaw K ts) rfl (by decide) rfl ?F (fun K ts H a ns _ hP hS => ⟨a, ns, rfl, hS, hP, fun _ => rfl⟩)
  case F =>
    intro w mg fa h Y G hmg
    have KX := km_in_of Y
    have T1 := km_tabs_of Y _ (List.mem_cons_of_mem _ List.mem_cons_self)
    have T2 := km_tabs_of Y _ List.mem_cons_self
    refine' L3.ex_of (l := PySem.Challenge.rw_leastneeds_k56_primitives) KX T1 T2 ?off1 ?off2 (L3.all_mk (l := PySem.Challenge.rw_leastneeds_k56_primitives) KX G hmg ?a1 ?u1 ?a2 ?u2 ?a3 ?u3 ?a4 ?u4 ?a5 ?u5 ?a6 ?u6 ?a7 ?u7 ?a8 ?u8 ?a9 ?u9 ?a10 ?u10 ?a11 ?u11 ?a12 ?u12 ?a13 ?u13 ?a14 ?u14 ?a15 ?u15 ?a16 ?u16 ?a17 ?u17 ?a18 ?u18 ?a19 ?u19 ?a20 ?u20 ?a21 ?u21 ?a22 ?u22 ?a23 ?u23 ?a24 ?u24 ?a25 ?u25 ?a26 ?u26 ?a27 ?u27 ?a28 ?u28 ?a29 ?u29 ?a30 ?u30 ?a31 ?u31 ?a32 ?u32 ?a33 ?u33 ?a34 ?u34 ?a35 ?u35 ?a36 ?u36 ?a37 ?u37 ?a38 ?u38 ?a39 ?u39 ?a40 ?u40 ?a41 ?u41 ?a42 ?u42 ?a43 ?u43 ?a44 ?lPD ?cPD ?kPD ?hPD ?a45 ?lPL ?cPL ?kPL ?hPL ?z0 ?z1 ?z2 ?z3 ?z4 ?z5 ?z6 ?z7 ?z8 ?z9 ?z10 ?z11 ?z12 ?z13 ?z14 ?z15 ?z16 ?z17 ?z18 ?z19 ?z20 ?z21 ?z22 ?z23 ?z24 ?aL ?rL ?aO ?rO ?aX ?rX ?xB ?lkB ?kkB ?wkB ?vkB ?xK ?lkK ?kkK ?wkK ?vkK ?xA ?lkA ?kkA ?wkA ?vkA ?e0 ?t0 ?v0 ?y0 ?e1 ?t1 ?v1 ?y1 ?e2 ?t2 ?v2 ?y2 ?e3 ?t3 ?v3 ?y3 ?e4 ?t4 ?v4 ?y4 ?e5 ?t5 ?v5 ?y5 ?e6 ?t6 ?v6 ?y6 ?e7 ?t7 ?v7 ?y7 ?e8 ?t8 ?v8 ?y8 ?e9 ?t9 ?v9 ?y9 ?qV ?pV ?iV ?nV ?qN ?pN ?iN ?nN ?neq ?aS ?cS ?mS ?ha ?hn ?htk ?hmo ?hme ?n1 ?n2 ?n3 ?n4 ?uI ?sne ?seq ?sfn ?uE ?aP ?sg ?sr ?sN ?tN ?vN ?sfD ?scD ?shD ?uD ?sfT ?scT ?shT ?uT ?hLD)
    (case off1 => rfl)
    (case off2 => rfl)
    (case a1 => k_is)
    (case u1 => refine' L3.fn_is ?l ?c ?k; (case l => k_is); (case c => k_is); (case k => k_is))
    (case a2 => k_is)
    (case u2 => refine' L3.fn_is ?l ?c ?k; (case l => k_is); (case c => k_is); (case k => k_is))
    (case a3 => k_is)
    (case u3 => refine' L3.fn_is ?l ?c ?k; (case l => k_is); (case c => k_is); (case k => k_is))
    (case a4 => k_is)
    (case u4 => refine' L3.fn_is ?l ?c ?k; (case l => k_is); (case c => k_is); (case k => k_is))
    (case a5 => k_is)
    (case u5 => refine' L3.fn_is ?l ?c ?k; (case l => k_is); (case c => k_is); (case k => k_is))
    (case a6 => k_is)
    (case u6 => refine' L3.fn_is ?l ?c ?k; (case l => k_is); (case c => k_is); (case k => k_is))
    (case a7 => k_is)
    (case u7 => refine' L3.fn_is ?l ?c ?k; (case l => k_is); (case c => k_is); (case k => k_is))
    (case a8 => k_is)
    (case u8 => refine' L3.fn_is ?l ?c ?k; (case l => k_is); (case c => k_is); (case k => k_is))
    (case a9 => k_is)
    (case u9 => refine' L3.fn_is ?l ?c ?k; (case l => k_is); (case c => k_is); (case k => k_is))
    (case a10 => k_is)
    (case u10 => refine' L3.fn_is ?l ?c ?k; (case l => k_is); (case c => k_is); (case k => k_is))
    (case a11 => k_is)
    (case u11 => refine' L3.fn_is ?l ?c ?k; (case l => k_is); (case c => k_is); (case k => k_is))
    (case a12 => k_is)
    (case u12 => refine' L3.fn_is ?l ?c ?k; (case l => k_is); (case c => k_is); (case k => k_is))
    (case a13 => k_is)
    (case u13 => refine' L3.fn_is ?l ?c ?k; (case l => k_is); (case c => k_is); (case k => k_is))
    (case a14 => k_is)
    (case u14 => refine' L3.fn_is ?l ?c ?k; (case l => k_is); (case c => k_is); (case k => k_is))
    (case a15 => k_is)
    (case u15 => refine' L3.fn_is ?l ?c ?k; (case l => k_is); (case c => k_is); (case k => k_is))
    (case a16 => k_is)
    (case u16 => refine' L3.fn_is ?l ?c ?k; (case l => k_is); (case c => k_is); (case k => k_is))
    (case a17 => k_is)
    (case u17 => refine' L3.fn_is ?l ?c ?k; (case l => k_is); (case c => k_is); (case k => k_is))
    (case a18 => k_is)
    (case u18 => refine' L3.fn_is ?l ?c ?k; (case l => k_is); (case c => k_is); (case k => k_is))
    (case a19 => k_is)
    (case u19 => refine' L3.fn_is ?l ?c ?k; (case l => k_is); (case c => k_is); (case k => k_is))
    (case a20 => k_is)
    (case u20 => refine' L3.fn_is ?l ?c ?k; (case l => k_is); (case c => k_is); (case k => k_is))
    (case a21 => k_is)
    (case u21 => refine' L3.fn_is ?l ?c ?k; (case l => k_is); (case c => k_is); (case k => k_is))
    (case a22 => k_is)
    (case u22 => refine' L3.fn_is ?l ?c ?k; (case l => k_is); (case c => k_is); (case k => k_is))
    (case a23 => k_is)
    (case u23 => refine' L3.fn_is ?l ?c ?k; (case l => k_is); (case c => k_is); (case k => k_is))
    (case a24 => k_is)
    (case u24 => refine' L3.fn_is ?l ?c ?k; (case l => k_is); (case c => k_is); (case k => k_is))
    (case a25 => k_is)
    (case u25 => refine' L3.fn_is ?l ?c ?k; (case l => k_is); (case c => k_is); (case k => k_is))
    (case a26 => k_is)
    (case u26 => refine' L3.fn_is ?l ?c ?k; (case l => k_is); (case c => k_is); (case k => k_is))
    (case a27 => k_is)
    (case u27 => refine' L3.fn_is ?l ?c ?k; (case l => k_is); (case c => k_is); (case k => k_is))
    (case a28 => k_is)
    (case u28 => refine' L3.fn_is ?l ?c ?k; (case l => k_is); (case c => k_is); (case k => k_is))
    (case a29 => k_is)
    (case u29 => refine' L3.fn_is ?l ?c ?k; (case l => k_is); (case c => k_is); (case k => k_is))
    (case a30 => k_is)
    (case u30 => refine' L3.fn_is ?l ?c ?k; (case l => k_is); (case c => k_is); (case k => k_is))
    (case a31 => k_is)
    (case u31 => refine' L3.fn_is ?l ?c ?k; (case l => k_is); (case c => k_is); (case k => k_is))
    (case a32 => k_is)
    (case u32 => refine' L3.fn_is ?l ?c ?k; (case l => k_is); (case c => k_is); (case k => k_is))
    (case a33 => k_is)
    (case u33 => refine' L3.fn_is ?l ?c ?k; (case l => k_is); (case c => k_is); (case k => k_is))
    (case a34 => k_is)
    (case u34 => refine' L3.fn_is ?l ?c ?k; (case l => k_is); (case c => k_is); (case k => k_is))
    (case a35 => k_is)
    (case u35 => refine' L3.fn_is ?l ?c ?k; (case l => k_is); (case c => k_is); (case k => k_is))
    (case a36 => k_is)
    (case u36 => refine' L3.fn_is ?l ?c ?k; (case l => k_is); (case c => k_is); (case k => k_is))
    (case a37 => k_is)
    (case u37 => refine' L3.fn_is ?l ?c ?k; (case l => k_is); (case c => k_is); (case k => k_is))
    (case a38 => k_is)
    (case u38 => refine' L3.fn_is ?l ?c ?k; (case l => k_is); (case c => k_is); (case k => k_is))
    (case a39 => k_is)
    (case u39 => refine' L3.fn_is ?l ?c ?k; (case l => k_is); (case c => k_is); (case k => k_is))
    (case a40 => k_is)
    (case u40 => refine' L3.fn_is ?l ?c ?k; (case l => k_is); (case c => k_is); (case k => k_is))
    (case a41 => k_is)
    (case u41 => refine' L3.fn_is ?l ?c ?k; (case l => k_is); (case c => k_is); (case k => k_is))
    (case a42 => k_is)
    (case u42 => refine' L3.fn_is ?l ?c ?k; (case l => k_is); (case c => k_is); (case k => k_is))
    (case a43 => k_is)
    (case u43 => refine' L3.fn_is ?l ?c ?k; (case l => k_is); (case c => k_is); (case k => k_is))
    (case a44 => k_is)
    (case lPD => k_is)
    (case cPD => k_is)
    (case kPD => k_is)
    (case hPD => kernel_rfl)
    (case a45 => k_is)
    (case lPL => k_is)
    (case cPL => k_is)
    (case kPL => k_is)
    (case hPL => kernel_rfl)
    (case z0 => k_is)
    (case z1 => k_is)
    (case z2 => k_is)
    (case z3 => k_is)
    (case z4 => k_is)
    (case z5 => k_is)
    (case z6 => k_is)
    (case z7 => k_is)
    (case z8 => k_is)
    (case z9 => k_is)
    (case z10 => k_is)
    (case z11 => k_is)
    (case z12 => k_is)
    (case z13 => k_is)
    (case z14 => k_is)
    (case z15 => k_is)
    (case z16 => k_is)
    (case z17 => k_is)
    (case z18 => k_is)
    (case z19 => k_is)
    (case z20 => k_is)
    (case z21 => k_is)
    (case z22 => k_is)
    (case z23 => k_is)
    (case z24 => k_is)
    (case aL => k_is)
    (case rL => exact ⟨_, rfl⟩)
    (case aO => k_is)
    (case rO => exact ⟨_, rfl⟩)
    (case aX => k_is)
    (case rX => exact ⟨_, rfl⟩)
    (case xB => k_is)
    (case lkB => k_is)
    (case kkB => exact ⟨⟨_, _, rfl, rfl⟩, ⟨⟨_, _, rfl, rfl⟩, ⟨⟨_, _, rfl, rfl⟩, ⟨⟨_, _, rfl, rfl⟩, ⟨⟨_, _, rfl, rfl⟩, ⟨⟨_, _, rfl, rfl⟩, ⟨⟨_, _, rfl, rfl⟩, ⟨⟨_, _, rfl, rfl⟩, ⟨⟨_, _, rfl, rfl⟩, ⟨⟨_, _, rfl, rfl⟩, ⟨⟨_, _, rfl, rfl⟩, ⟨⟨_, _, rfl, rfl⟩, ⟨⟨_, _, rfl, rfl⟩, ⟨⟨_, _, rfl, rfl⟩, ⟨⟨_, _, rfl, rfl⟩, ⟨⟨_, _, rfl, rfl⟩, ⟨⟨_, _, rfl, rfl⟩, trivial⟩⟩⟩⟩⟩⟩⟩⟩⟩⟩⟩⟩⟩⟩⟩⟩⟩)
    (case wkB => rfl)
    (case vkB => rfl)
    (case xK => k_is)
    (case lkK => k_is)
    (case kkK => exact ⟨⟨_, _, rfl, rfl⟩, ⟨⟨_, _, rfl, rfl⟩, ⟨⟨_, _, rfl, rfl⟩, ⟨⟨_, _, rfl, rfl⟩, ⟨⟨_, _, rfl, rfl⟩, ⟨⟨_, _, rfl, rfl⟩, ⟨⟨_, _, rfl, rfl⟩, ⟨⟨_, _, rfl, rfl⟩, ⟨⟨_, _, rfl, rfl⟩, ⟨⟨_, _, rfl, rfl⟩, trivial⟩⟩⟩⟩⟩⟩⟩⟩⟩⟩)
    (case wkK => rfl)
    (case vkK => rfl)
    (case xA => k_is)
    (case lkA => k_is)
    (case kkA => exact ⟨⟨_, _, rfl, rfl⟩, ⟨⟨_, _, rfl, rfl⟩, ⟨⟨_, _, rfl, rfl⟩, ⟨⟨_, _, rfl, rfl⟩, ⟨⟨_, _, rfl, rfl⟩, ⟨⟨_, _, rfl, rfl⟩, ⟨⟨_, _, rfl, rfl⟩, ⟨⟨_, _, rfl, rfl⟩, ⟨⟨_, _, rfl, rfl⟩, ⟨⟨_, _, rfl, rfl⟩, trivial⟩⟩⟩⟩⟩⟩⟩⟩⟩⟩)
    (case wkA => rfl)
    (case vkA => rfl)
    (case e0 => k_is)
    (case t0 => k_is)
    (case v0 => exact (.cons ⟨_, rfl⟩ (.cons ⟨_, rfl⟩ (.cons ⟨_, rfl⟩ .nil))))
    (case y0 => k_is)
    (case e1 => k_is)
    (case t1 => k_is)
    (case v1 => exact (.cons ⟨_, rfl⟩ (.cons ⟨_, rfl⟩ (.cons ⟨_, rfl⟩ .nil))))
    (case y1 => k_is)
    (case e2 => k_is)
    (case t2 => k_is)
    (case v2 => exact (.cons ⟨_, rfl⟩ (.cons ⟨_, rfl⟩ (.cons ⟨_, rfl⟩ .nil))))
    (case y2 => k_is)
    (case e3 => k_is)
    (case t3 => k_is)
    (case v3 => exact (.cons ⟨_, rfl⟩ (.cons ⟨_, rfl⟩ (.cons ⟨_, rfl⟩ .nil))))
    (case y3 => k_is)
    (case e4 => k_is)
    (case t4 => k_is)
    (case v4 => exact (.cons ⟨_, rfl⟩ (.cons ⟨_, rfl⟩ (.cons ⟨_, rfl⟩ .nil))))
    (case y4 => k_is)
    (case e5 => k_is)
    (case t5 => k_is)
    (case v5 => exact (.cons ⟨_, rfl⟩ (.cons ⟨_, rfl⟩ (.cons ⟨_, rfl⟩ .nil))))
    (case y5 => k_is)
    (case e6 => k_is)
    (case t6 => k_is)
    (case v6 => exact (.cons ⟨_, rfl⟩ (.cons ⟨_, rfl⟩ .nil)))
    (case y6 => k_is)
    (case e7 => k_is)
    (case t7 => k_is)
    (case v7 => exact (.cons ⟨_, rfl⟩ (.cons ⟨_, rfl⟩ (.cons ⟨_, rfl⟩ .nil))))
    (case y7 => k_is)
    (case e8 => k_is)
    (case t8 => k_is)
    (case v8 => exact (.cons ⟨_, rfl⟩ (.cons ⟨_, rfl⟩ (.cons ⟨_, rfl⟩ .nil))))
    (case y8 => k_is)
    (case e9 => k_is)
    (case t9 => k_is)
    (case v9 => exact (.cons ⟨_, rfl⟩ (.cons ⟨_, rfl⟩ .nil)))
    (case y9 => k_is)
    (case qV => refine' L3.kc_is ?a1 ?a2 ?a3 ?a4 ?a5 ?a6 ?a7 ?a8 ?a9 ?a10 ?a11 ?a12 ?a13; (case a1 => k_is); (case a2 => k_is); (case a3 => k_is); (case a4 => k_is); (case a5 => k_is); (case a6 => k_is); (case a7 => k_is); (case a8 => k_is); (case a9 => k_is); (case a10 => k_is); (case a11 => k_is); (case a12 => rfl); (case a13 => k_is))
    (case pV => refine' L3.Ki.mk ?b1 ?b2 ?b3 ?b4 ?b5; (case b1 => kx_is); (case b2 => kx_is); (case b3 => k_is); (case b4 => k_is); (case b5 => k_is))
    (case iV => refine' L3.fn_is ?l ?c ?k; (case l => k_is); (case c => k_is); (case k => k_is))
    (case nV => k_is)
    (case qN => refine' L3.kc_is ?a1 ?a2 ?a3 ?a4 ?a5 ?a6 ?a7 ?a8 ?a9 ?a10 ?a11 ?a12 ?a13; (case a1 => k_is); (case a2 => k_is); (case a3 => k_is); (case a4 => k_is); (case a5 => k_is); (case a6 => k_is); (case a7 => k_is); (case a8 => k_is); (case a9 => k_is); (case a10 => k_is); (case a11 => k_is); (case a12 => rfl); (case a13 => k_is))
    (case pN => refine' L3.Ki.mk ?b1 ?b2 ?b3 ?b4 ?b5; (case b1 => kx_is); (case b2 => kx_is); (case b3 => k_is); (case b4 => k_is); (case b5 => k_is))
    (case iN => refine' L3.fn_is ?l ?c ?k; (case l => k_is); (case c => k_is); (case k => k_is))
    (case nN => k_is)
    (case neq => rfl)
    (case aS => k_is)
    (case cS => refine' L2.Cls.mk ?d1 ?d2 ?d3 ?d4; (case d1 => k_is); (case d2 => k_is); (case d3 => k_is); (case d4 => k_is))
    (case mS => refine' L2.Mk.mk ?d1 ?d2 ?d3 ?d4; (case d1 => k_is); (case d2 => k_is); (case d3 => k_is); (case d4 => k_is))
    (case ha => k_is)
    (case hn => k_is)
    (case htk => k_is)
    (case hmo => k_is)
    (case hme => first | kernel_rfl | rfl | kx_is)
    (case n1 => k_is)
    (case n2 => k_is)
    (case n3 => k_is)
    (case n4 => k_is)
    (case uI => refine' L3.fn_is ?l ?c ?k; (case l => k_is); (case c => k_is); (case k => k_is))
    (case sne => k_is)
    (case seq => k_is)
    (case sfn => k_is)
    (case uE => refine' L3.fn_is ?l ?c ?k; (case l => k_is); (case c => k_is); (case k => k_is))
    (case aP => k_is)
    (case sg => k_is)
    (case sr => k_is)
    (case sN => k_is)
    (case tN => k_is)
    (case vN => exact (.cons ⟨_, rfl⟩ (.cons ⟨_, rfl⟩ (.cons ⟨_, rfl⟩ (.cons ⟨_, rfl⟩ (.cons ⟨_, rfl⟩ (.cons ⟨_, rfl⟩ (.cons ⟨_, rfl⟩ (.cons ⟨_, rfl⟩ (.cons ⟨_, rfl⟩ (.cons ⟨_, rfl⟩ .nil)))))))))))
    (case sfD => k_is)
    (case scD => k_is)
    (case shD => first | k_is | rfl)
    (case uD => refine' L3.fn_is ?l ?c ?k; (case l => k_is); (case c => k_is); (case k => k_is))
    (case sfT => k_is)
    (case scT => k_is)
    (case shT => first | k_is | rfl)
    (case uT => refine' L3.fn_is ?l ?c ?k; (case l => k_is); (case c => k_is); (case k => k_is))
    (case hLD => rfl)
