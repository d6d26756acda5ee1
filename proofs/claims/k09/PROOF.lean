import PyProof.Rows.All
import Wide.All
import OpenK.AllK
import Wide.FinOn
import HandS.ForMost
import HandS.Flow
import HandS.Small
import HandS.SetKeys
import HandS.Zip
import HandS.Style
import HandS.More
import HandS.Deep
import PySem.Challenge.RW_leastneeds_k09_schemes_made
import KE.KDictZip
import HandS.ListItems
import HandS.DictComp
import PyProof.ReprLen
import PyProof.StrLawsRepr
import HandS.Dict
import PyProof.EqKinds
import HandS.IsInst
import HandS.StrMore
import HandS.HeadHook3
import HandS.TupAny
import HandS.Walk
import PyProof.Rows.InDataRows
import HandS.Steps
import HandS.Rev
import HandS.Star
import HandS.Conv
import KE.KDictList
import KE.GoesEnum
import KE.GoesMore
import HandS.Iter
import PyProof.Rows.StrMeet
import HandS.Lambda
import HandS.ExcInit
import HandS.ExcField
import KE.KExcInit
import KE.KExcIs
import HandS.ExcValue
import HandS.Exc
import HandS.WordsExc
import KE.GoesZip
import HandS.ClsMeth
import HandS.TryMany
import PyProof.CallFns
import HandS.ExcIs
import HandS.EndTab
import PyProof.SumWalkG
import PyProof.WalkInts
import HandS.List
import KE.KExcLine
import HandS.HeadHook4
set_option Elab.async false
set_option linter.all false
set_option maxRecDepth 100000
set_option maxHeartbeats 4000000
namespace L3
open PySem L2
/-! ### a def that is known by its name -/
section
variable {P : Program} {w : World} {K : PySem.W.Frag} {mg : Str → Option Value} {base : Heap}
structure Kn (P : Program) (w : World) (K : PySem.W.Frag) (mg : Str → Option Value) (base : Heap) (k : Nat) (x : Str) (ps : List Str) (sp : Sp) : Prop where
  ex : ∃ (f : Addr) (fd : FuncData), FnOk P w K mg base CX0 k f fd ps sp ∧ mg x = some (.ref f) ∧ PySem.W.keepIn K (.ref f) = true ∧ Binds K fd ps []
end
section
variable {X : Cx} {x : Str} {k : Nat} {ps : List Str} {sp : Sp} {e : Expr} {es : List Expr} {t : TA} {p pos : Pos}
theorem pe_kn (D : Kn X.prog X.w X.K X.mg X.base k x ps sp) (hr : Room k X.A) (ha : PA X (e :: es) t) (hg : Gl X x := by rfl) (hdb : (x == ("__debug__" : Str)) = false := by decide)
    (he : starEach (e :: es) X.env = (false, eval e X.env) :: starEach es X.env := by rfl) (hpl : (backTo pos (starEach es X.env)).any (·.1) = false := by rfl) :
    PE X (.Call (.Name x p) (e :: es) [] pos) (tCall sp [] E0 t) := by
  obtain ⟨f, fd, F, hm, hk, hb⟩ := D.ex
  exact pe_call F hr hg hm hk hb .nil pass0 ha hdb he hpl
theorem pe_kn0 (D : Kn X.prog X.w X.K X.mg X.base k x ps sp) (hr : Room k X.A) (hg : Gl X x := by rfl) (hdb : (x == ("__debug__" : Str)) = false := by decide) :
    PE X (.Call (.Name x p) [] [] pos) (tCall sp [] E0 tNil) := by
  obtain ⟨f, fd, F, hm, hk, hb⟩ := D.ex
  exact pe_call0 F hr hg hm hk hb .nil pass0 hdb
end
/-- built-in names that the text leaves alone -/
structure Bl (mg : Str → Option Value) : Prop where
  len : mg "len" = none
  int : mg "int" = none
  list : mg "list" = none
  tuple : mg "tuple" = none
  dict : mg "dict" = none
  repr : mg "repr" = none
  range : mg "range" = none
  zip : mg "zip" = none
  sorted : mg "sorted" = none

/-! ### the tape -/
/-- all but the object at t is kept -/
def Ext (t : Addr) (H H' : Hp) : Prop := ∀ b o, b ≠ t → H b = some o → H' b = some o
theorem Ext.refl (t : Addr) (H : Hp) : Ext t H H := fun _ _ _ h => h
theorem Ext.trans {t : Addr} {H H1 H2 : Hp} (a : Ext t H H1) (b : Ext t H1 H2) : Ext t H H2 := fun c o n h => b c o n (a c o n h)
theorem Ext.new {t p : Addr} {H : Hp} {o : HO} (h : H p = none) : Ext t H (upd H p o) := fun b u _ e => by
  rw [upd_ne (ne_of_none e h)]
  exact e
theorem Ext.put {t : Addr} {H : Hp} {o : HO} : Ext t H (upd H t o) := fun b u n e => by
  rw [upd_ne n]
  exact e
theorem same_ext {t : Addr} {H H' : Hp} (h : Same H H') : Ext t H H' := fun b o _ e => h b o e
theorem same_new {p : Addr} {H : Hp} {o : HO} (h : H p = none) : Same H (upd H p o) := fun b u e => by
  rw [upd_ne (ne_of_none e h)]
  exact e
def tp (c : Addr) (p l : Int) : List (Key × V) := [(.inr "cells", .ref c), (.inr "place", .int p), (.inr "left", .int l)]
theorem tp_cells (c : Addr) (p l : Int) : valV (tp c p l) (.inr "cells") = some (.ref c) := by rfl
theorem tp_place (c : Addr) (p l : Int) : valV (tp c p l) (.inr "place") = some (.int p) := by rfl
theorem tp_left (c : Addr) (p l : Int) : valV (tp c p l) (.inr "left") = some (.int l) := by rfl
theorem tp_putP (c : Addr) (p l q : Int) : putK (tp c p l) (.inr "place") (.int q) = tp c q l := by rfl
theorem tp_putL (c : Addr) (p l q : Int) : putK (tp c p l) (.inr "left") (.int q) = tp c p q := by rfl
/-- at t a tape stands, its cells at c, from which b more cells may be taken -/
def Tape (K : PySem.W.Frag) (H : Hp) (t c : Addr) (b : Nat) : Prop :=
  ∃ (p l : Int) (ns : List Int), H t = some (.dK (tp c p l)) ∧ SqL K H c (ns.map V.int) ∧ c ≠ t ∧ 0 < ns.length ∧ ns.length ≤ 63 ∧ 0 ≤ p ∧ p + b ≤ 1000000 ∧ 0 ≤ l
theorem Tape.less {K : PySem.W.Frag} {H : Hp} {t c : Addr} {b b' : Nat} (h : Tape K H t c b) (hb : b' ≤ b) : Tape K H t c b' := by
  obtain ⟨p, l, ns, h1, h2, h3, h4, h5, h6, h7, h8⟩ := h
  exact ⟨p, l, ns, h1, h2, h3, h4, h5, h6, by omega, h8⟩
theorem SqL.same {K : PySem.W.Frag} {H H' : Hp} {a : Addr} {xs : List V} (h : SqL K H a xs) (k : ∀ o, H a = some o → H' a = some o) : SqL K H' a xs := by
  rcases h with (h | ⟨o, h⟩) | h
  · exact .inl (.inl (k _ h))
  · exact .inl (.inr ⟨o, k _ h⟩)
  · exact .inr h
theorem SqL.ext {K : PySem.W.Frag} {t : Addr} {H H' : Hp} {a : Addr} {xs : List V} (h : SqL K H a xs) (e : Ext t H H') (n : a ≠ t) : SqL K H' a xs := SqL.same h fun o q => e a o n q
/-- the tape is untouched -/
theorem Tape.same {K : PySem.W.Frag} {H H' : Hp} {t c : Addr} {b : Nat} (h : Tape K H t c b) (k : Same H H') : Tape K H' t c b := by
  obtain ⟨p, l, ns, h1, h2, h3, h4, h5, h6, h7, h8⟩ := h
  exact ⟨p, l, ns, k _ _ h1, k.seq h2, h3, h4, h5, h6, h7, h8⟩
theorem Tape.new {K : PySem.W.Frag} {H : Hp} {t c : Addr} {b : Nat} {q : Addr} {o : HO} (h : Tape K H t c b) (n : H q = none) : Tape K (upd H q o) t c b := h.same (same_new n)
theorem Tape.dict {K : PySem.W.Frag} {H : Hp} {t c : Addr} {b : Nat} (h : Tape K H t c b) : ∃ kvs, H t = some (.dK kvs) := by
  obtain ⟨p, l, ns, h1, _⟩ := h
  exact ⟨_, h1⟩
theorem Tape.ne {K : PySem.W.Frag} {H : Hp} {t c : Addr} {b : Nat} (h : Tape K H t c b) {l : Addr} (n : H l = none) : l ≠ t := fun e => by
  obtain ⟨kvs, q⟩ := h.dict
  rw [e, q] at n
  cases n
theorem Ext.free {t : Addr} {H H' : Hp} (e : Ext t H H') {l : Addr} (n : l ≠ t) (h : H' l = none) : H l = none := by
  cases q : H l with
  | none => rfl
  | some o =>
    rw [e l o n q] at h
    cases h
/-- an object D that was not there at H0 is stored into -/
theorem Tape.put {K : PySem.W.Frag} {H0 H : Hp} {t c : Addr} {b0 b : Nat} {D : Addr} {o : HO} (h0 : Tape K H0 t c b0) (e : Ext t H0 H) (h : Tape K H t c b) (n : H0 D = none) : Tape K (upd H D o) t c b := by
  have nt : t ≠ D := (h0.ne n).symm
  obtain ⟨_, _, ns, _, g2, g3, g4, g5, _⟩ := h0
  obtain ⟨p, l, _, h1, _, _, _, _, h6, h7, h8⟩ := h
  refine ⟨p, l, ns, by rw [upd_ne nt]; exact h1, SqL.same g2 fun u q => ?_, g3, g4, g5, h6, h7, h8⟩
  rw [upd_ne (ne_of_none q n)]
  exact e _ _ g3 q
theorem Ext.upd {t : Addr} {H0 H : Hp} {D : Addr} {o : HO} (e : Ext t H0 H) (n : H0 D = none) : Ext t H0 (upd H D o) := fun q u h1 h2 => by
  rw [upd_ne (ne_of_none h2 n)]
  exact e q u h1 h2
end L3

namespace L3
open PySem L2
theorem slz {n : Nat} (h : Nat.ble n 1000 = true) : n ≤ sizeLine := Nat.le_of_lt (small1000 (Nat.le_of_ble_eq_true h))
theorem iT {c : Bool} {A B : Prop} (h : c = true) (a : A) : if c = true then A else B := by
  rw [if_pos h]
  exact a
theorem iF {c : Bool} {A B : Prop} (h : c = false) (b : B) : if c = true then A else B := by
  rw [h]
  exact iteF b
theorem tg_aa : decide (V.str ("apply" : Str) = V.str ("apply" : Str)) = true := decide_eq_true rfl
theorem tg_va : decide (V.str ("var" : Str) = V.str ("apply" : Str)) = false := by decide +kernel
theorem tg_ca : decide (V.str ("con" : Str) = V.str ("apply" : Str)) = false := by decide +kernel
theorem tg_vv : decide (V.str ("var" : Str) = V.str ("var" : Str)) = true := decide_eq_true rfl
theorem tg_cv : decide (V.str ("con" : Str) = V.str ("var" : Str)) = false := by decide +kernel
theorem tg_av : decide (V.str ("apply" : Str) = V.str ("var" : Str)) = false := by decide +kernel
theorem tg_ac : decide (V.str ("apply" : Str) = V.str ("con" : Str)) = false := by decide +kernel
theorem tg_vc : decide (V.str ("var" : Str) = V.str ("con" : Str)) = false := by decide +kernel
theorem tg_cc : decide (V.str ("con" : Str) = V.str ("con" : Str)) = true := decide_eq_true rfl
/-! ### kinds -/
inductive Kd where
  | var (x : Str) | con (x : Str) | app (a b : Kd)
  deriving DecidableEq
def Kd.tag : Kd → Str
  | .var _ => "var" | .con _ => "con" | .app _ _ => "apply"
/-- a word of 1 to 8 letters from a to z -/
def Wok (x : Str) : Prop := 1 ≤ x.length ∧ x.length ≤ 8 ∧ ∀ c ∈ x.cps.toList, 97 ≤ c ∧ c ≤ 122
/-- at most n deep, of words -/
def Kd.fit : Nat → Kd → Prop
  | _, .var x => Wok x
  | _, .con x => Wok x
  | 0, .app _ _ => False
  | n + 1, .app a b => Kd.fit n a ∧ Kd.fit n b
theorem Kd.fit_mono : ∀ {k : Kd} {n m : Nat}, n ≤ m → Kd.fit n k → Kd.fit m k
  | .var _, n, m, _, h => by cases n <;> cases m <;> exact h
  | .con _, n, m, _, h => by cases n <;> cases m <;> exact h
  | .app a b, 0, _, _, h => h.elim
  | .app a b, n + 1, 0, e, _ => absurd e (by omega)
  | .app a b, n + 1, m + 1, e, h => ⟨Kd.fit_mono (by omega) h.1, Kd.fit_mono (by omega) h.2⟩
theorem Kd.fit_app {n : Nat} {a b : Kd} (h : Kd.fit n (.app a b)) : ∃ m, n = m + 1 ∧ Kd.fit m a ∧ Kd.fit m b := by
  cases n with
  | zero => exact h.elim
  | succ m => exact ⟨m, rfl, h.1, h.2⟩
def KdAt (H : Hp) : V → Kd → Prop
  | v, .var x => ∃ a, v = .ref a ∧ H a = some (.tup [.str "var", .str x])
  | v, .con x => ∃ a, v = .ref a ∧ H a = some (.tup [.str "con", .str x])
  | v, .app k l => ∃ a u z, v = .ref a ∧ H a = some (.tup [.str "apply", u, z]) ∧ KdAt H u k ∧ KdAt H z l
/-- tuples stay -/
def Tups (H H' : Hp) : Prop := ∀ b xs, H b = some (.tup xs) → H' b = some (.tup xs)
theorem same_tups {H H' : Hp} (h : Same H H') : Tups H H' := fun b xs e => h b _ e
theorem Tups.trans {H H1 H2 : Hp} (a : Tups H H1) (b : Tups H1 H2) : Tups H H2 := fun c xs e => b c xs (a c xs e)
theorem Tups.put {H : Hp} {d : Addr} {o u : HO} (h : H d = some o) (n : ∀ xs, o ≠ .tup xs) : Tups H (upd H d u) := fun b xs e => by
  rw [upd_ne (fun q => by rw [q, h] at e; exact n xs (Option.some.inj e))]
  exact e
theorem Tups.new {H : Hp} {d : Addr} {u : HO} (h : H d = none) : Tups H (upd H d u) := same_tups (same_new h)
theorem Ext.tups {K : PySem.W.Frag} {t c : Addr} {b : Nat} {H H' : Hp} (e : Ext t H H') (h : Tape K H t c b) : Tups H H' := fun q xs z => by
  obtain ⟨kvs, hk⟩ := h.dict
  exact e q _ (ne_of z hk (by intro r; cases r)) z
theorem KdAt.tups {H H' : Hp} (h : Tups H H') : ∀ {k : Kd} {v : V}, KdAt H v k → KdAt H' v k
  | .var _, _, ⟨a, e, q⟩ => ⟨a, e, h _ _ q⟩
  | .con _, _, ⟨a, e, q⟩ => ⟨a, e, h _ _ q⟩
  | .app _ _, _, ⟨a, u, z, e, q, h1, h2⟩ => ⟨a, u, z, e, h _ _ q, KdAt.tups h h1, KdAt.tups h h2⟩
/-- the tuple of a kind, and its first item -/
theorem KdAt.top {H : Hp} : ∀ {k : Kd} {v : V}, KdAt H v k → ∃ a xs, v = .ref a ∧ H a = some (.tup xs) ∧ xs[0]? = some (.str k.tag)
  | .var _, _, ⟨a, e, q⟩ => ⟨a, _, e, q, rfl⟩
  | .con _, _, ⟨a, e, q⟩ => ⟨a, _, e, q, rfl⟩
  | .app _ _, _, ⟨a, u, z, e, q, _⟩ => ⟨a, _, e, q, rfl⟩
def Kd.dat : Kd → PyData
  | .var x => .tuple [.str "var", .str x]
  | .con x => .tuple [.str "con", .str x]
  | .app a b => .tuple [.str "apply", a.dat, b.dat]
theorem KdAt.dp {K : PySem.W.Frag} {H : Hp} : ∀ {k : Kd} {v : V}, KdAt H v k → Dp K H v k.dat
  | .var x, _, ⟨a, e, q⟩ => by subst e; exact .tup (SqT.of q) (.cons (.str _) (.cons (.str _) .nil))
  | .con x, _, ⟨a, e, q⟩ => by subst e; exact .tup (SqT.of q) (.cons (.str _) (.cons (.str _) .nil))
  | .app _ _, _, ⟨a, u, z, e, q, h1, h2⟩ => by subst e; exact .tup (SqT.of q) (.cons (.str _) (.cons h1.dp (.cons h2.dp .nil)))
theorem ne_vc : ¬ (("var" : Str) = "con") := by decide +kernel
theorem ne_cv : ¬ (("con" : Str) = "var") := by decide +kernel
theorem ne_va : ¬ (("var" : Str) = "apply") := by decide +kernel
theorem ne_av : ¬ (("apply" : Str) = "var") := by decide +kernel
theorem ne_ca : ¬ (("con" : Str) = "apply") := by decide +kernel
theorem ne_ac : ¬ (("apply" : Str) = "con") := by decide +kernel
theorem str_beq (x y : Str) : (x == y) = decide (x = y) := by
  rw [Bool.eq_iff_iff]
  simp
theorem eqv_tt (xs ys : List PyData) : PyData.eqv (.tuple xs) (.tuple ys) = PyData.eqvAll xs ys := by rw [PyData.eqv]
theorem eqv_cc (x y : PyData) (xs ys : List PyData) : PyData.eqvAll (x :: xs) (y :: ys) = (PyData.eqv x y && PyData.eqvAll xs ys) := by rw [PyData.eqvAll]
theorem eqv_nn : PyData.eqvAll [] [] = true := by rw [PyData.eqvAll]
theorem eqv_nc (y : PyData) (ys : List PyData) : PyData.eqvAll [] (y :: ys) = false := by rw [PyData.eqvAll]
theorem eqv_cn (y : PyData) (ys : List PyData) : PyData.eqvAll (y :: ys) [] = false := by rw [PyData.eqvAll]
theorem eqv_ss (x y : Str) : PyData.eqv (.str x) (.str y) = decide (x = y) := by rw [PyData.eqv]; exact str_beq x y
theorem Kd.eqv (a b : Kd) : PyData.eqv a.dat b.dat = decide (a = b) := by
  induction a generalizing b with
  | var x =>
    cases b with
    | var y => simp only [Kd.dat, eqv_tt, eqv_cc, eqv_ss, eqv_nn, decide_true, Bool.true_and, Bool.and_true, Kd.var.injEq]
    | con y => simp only [Kd.dat, eqv_tt, eqv_cc, eqv_ss, decide_eq_false ne_vc, Bool.false_and, reduceCtorEq, decide_false]
    | app c d => simp only [Kd.dat, eqv_tt, eqv_cc, eqv_ss, decide_eq_false ne_va, Bool.false_and, reduceCtorEq, decide_false]
  | con x =>
    cases b with
    | con y => simp only [Kd.dat, eqv_tt, eqv_cc, eqv_ss, eqv_nn, decide_true, Bool.true_and, Bool.and_true, Kd.con.injEq]
    | var y => simp only [Kd.dat, eqv_tt, eqv_cc, eqv_ss, decide_eq_false ne_cv, Bool.false_and, reduceCtorEq, decide_false]
    | app c d => simp only [Kd.dat, eqv_tt, eqv_cc, eqv_ss, decide_eq_false ne_ca, Bool.false_and, reduceCtorEq, decide_false]
  | app a1 a2 h1 h2 =>
    cases b with
    | var y => simp only [Kd.dat, eqv_tt, eqv_cc, eqv_ss, decide_eq_false ne_av, Bool.false_and, reduceCtorEq, decide_false]
    | con y => simp only [Kd.dat, eqv_tt, eqv_cc, eqv_ss, decide_eq_false ne_ac, Bool.false_and, reduceCtorEq, decide_false]
    | app c d =>
      simp only [Kd.dat, eqv_tt, eqv_cc, eqv_ss, eqv_nn, h1, h2, decide_true, Bool.true_and, Bool.and_true, Kd.app.injEq, Bool.decide_and]
theorem SqL.extT {K : PySem.W.Frag} {t c : Addr} {b : Nat} {H H' : Hp} {a : Addr} {xs : List V} (h : SqL K H a xs) (hT : Tape K H t c b) (e : Ext t H H') : SqL K H' a xs := by
  obtain ⟨kvs, hk⟩ := hT.dict
  rcases h with (h | ⟨o, h⟩) | h
  · exact .inl (.inl (e _ _ (ne_of h hk (by intro r; cases r)) h))
  · exact .inl (.inr ⟨o, e _ _ (ne_of h hk (by intro r; cases r)) h⟩)
  · exact .inr h
theorem Wok.str {x : Str} (h : Wok x) : PyData.strOk x = true := by
  unfold PyData.strOk
  rw [Array.all_eq_true']
  intro c hc
  have := h.2.2 c (by simpa using hc)
  exact decide_eq_true (by omega)
theorem Kd.lay : ∀ {k : Kd} {n : Nat}, Kd.fit n k → k.dat.canLay0 = true ∧ k.dat.depth ≤ n + 1
  | .var x, n, h => by
    have w : Wok x := by cases n <;> exact h
    refine ⟨?_, ?_⟩
    · simp only [Kd.dat, PyData.canLay0, PyData.canLayAll0, w.str, Bool.and_true]
      decide +kernel
    · simp [Kd.dat, PyData.depth, PyData.depthAll]
  | .con x, n, h => by
    have w : Wok x := by cases n <;> exact h
    refine ⟨?_, ?_⟩
    · simp only [Kd.dat, PyData.canLay0, PyData.canLayAll0, w.str, Bool.and_true]
      decide +kernel
    · simp [Kd.dat, PyData.depth, PyData.depthAll]
  | .app a b, n, h => by
    obtain ⟨m, rfl, h1, h2⟩ := Kd.fit_app h
    obtain ⟨a1, a2⟩ := Kd.lay h1
    obtain ⟨b1, b2⟩ := Kd.lay h2
    refine ⟨?_, ?_⟩
    · simp only [Kd.dat, PyData.canLay0, PyData.canLayAll0, a1, b1, Bool.and_true]
      decide +kernel
    · simp only [Kd.dat, PyData.depth, PyData.depthAll]
      omega
theorem Kd.shaped {k : Kd} {n : Nat} (h : Kd.fit n k) (hn : n ≤ 60) : SeqAt.shaped k.dat = true := by
  obtain ⟨h1, h2⟩ := Kd.lay h
  unfold SeqAt.shaped
  rw [h1, Bool.true_and]
  exact decide_eq_true (by omega)
/-- a list of words -/
theorem dp_words {K : PySem.W.Frag} {H : Hp} : ∀ ws : List Str, DpAll K H (ws.map V.str) (ws.map PyData.str)
  | [] => .nil
  | _ :: r => .cons (.str _) (dp_words r)
theorem lay_words : ∀ {ws : List Str}, (∀ x ∈ ws, Wok x) → PyData.canLayAll0 (ws.map PyData.str) = true ∧ PyData.depthAll (ws.map PyData.str) = 0
  | [], _ => ⟨by simp [PyData.canLayAll0], by simp [PyData.depthAll]⟩
  | x :: r, h => by
    obtain ⟨h1, h2⟩ := lay_words (ws := r) fun y hy => h y (List.mem_cons_of_mem _ hy)
    refine ⟨?_, ?_⟩
    · simp only [List.map_cons, PyData.canLayAll0, PyData.canLay0, (h x List.mem_cons_self).str, h1, Bool.true_and]
    · simp only [List.map_cons, PyData.depthAll, PyData.depth, h2]; rfl
theorem shaped_words {ws : List Str} (h : ∀ x ∈ ws, Wok x) : SeqAt.shaped (.list (ws.map PyData.str)) = true := by
  obtain ⟨h1, h2⟩ := lay_words h
  unfold SeqAt.shaped
  simp only [PyData.canLay0, h1, PyData.depth, h2]
  decide
theorem shaped_nil : SeqAt.shaped (.list []) = true := by decide
/-! ### rows of kinds, dicts of kinds -/
abbrev KdsAt (H : Hp) : List V → List Kd → Prop := Paired (KdAt H)
theorem paired_get {α β : Type} {F : α → β → Prop} : ∀ {xs : List α} {ys : List β} {i : Nat} {x : α}, Paired F xs ys → xs[i]? = some x → ∃ y, ys[i]? = some y ∧ F x y
  | _, _, _, _, .nil, e => by simp at e
  | _, _, 0, _, .cons r _, e => by simp at e; subst e; exact ⟨_, rfl, r⟩
  | _, _, i + 1, x, .cons _ t, e => by
    obtain ⟨y, h1, h2⟩ := paired_get (i := i) (x := x) t (by simpa using e)
    exact ⟨y, by simpa using h1, h2⟩
theorem paired_map {α β : Type} {F G : α → β → Prop} (h : ∀ a b, F a b → G a b) : ∀ {xs : List α} {ys : List β}, Paired F xs ys → Paired G xs ys
  | _, _, .nil => .nil
  | _, _, .cons r t => .cons (h _ _ r) (paired_map h t)
theorem KdsAt.tups {H H' : Hp} (h : Tups H H') {xs : List V} {ks : List Kd} (r : KdsAt H xs ks) : KdsAt H' xs ks := paired_map (fun _ _ q => KdAt.tups h q) r
theorem KdsAt.dp {K : PySem.W.Frag} {H : Hp} : ∀ {xs : List V} {ks : List Kd}, KdsAt H xs ks → DpAll K H xs (ks.map Kd.dat)
  | _, _, .nil => .nil
  | _, _, .cons r t => .cons r.dp (KdsAt.dp t)
abbrev By := List (Str × Kd)
def lk (by' : By) (x : Str) : Option Kd := (by'.find? fun p => decide (p.1 = x)).map (·.2)
theorem lk_nil (x : Str) : lk [] x = none := rfl
theorem lk_pos {p : Str × Kd} {r : By} {x : Str} (e : p.1 = x) : lk (p :: r) x = some p.2 := by simp [lk, List.find?_cons, e]
theorem lk_neg {p : Str × Kd} {r : By} {x : Str} (e : ¬ p.1 = x) : lk (p :: r) x = lk r x := by simp [lk, List.find?_cons, e]
abbrev ByAt (H : Hp) : List (Key × V) → By → Prop := Paired fun p q => p.1 = .inr q.1 ∧ KdAt H p.2 q.2
theorem ByAt.tups {H H' : Hp} (h : Tups H H') {kvs : List (Key × V)} {by' : By} (r : ByAt H kvs by') : ByAt H' kvs by' := paired_map (fun _ _ q => ⟨q.1, KdAt.tups h q.2⟩) r
theorem ByAt.get {H : Hp} (x : Str) : ∀ {kvs : List (Key × V)} {by' : By}, ByAt H kvs by' → (valV kvs (.inr x) = none ∧ lk by' x = none) ∨ ∃ v k, valV kvs (.inr x) = some v ∧ lk by' x = some k ∧ KdAt H v k
  | _, _, .nil => .inl ⟨rfl, rfl⟩
  | p :: kvs, q :: by', .cons r t => by
    by_cases e : q.1 = x
    · exact .inr ⟨p.2, q.2, valV_pos (by rw [r.1, e]), lk_pos e, r.2⟩
    · have e' : ¬ p.1 = (.inr x : Key) := by
        rw [r.1]
        intro z
        exact e (Sum.inr.inj z)
      rw [valV_neg e', lk_neg e]
      exact ByAt.get x t
def Kd.put (by' : By) : Kd → Kd
  | .var x => (lk by' x).getD (.var x)
  | .con x => .con x
  | .app a b => .app (a.put by') (b.put by')
def conK (x : Str) (ks : List Kd) : Kd := ks.foldl Kd.app (.con x)
theorem conK_snoc (x : Str) (ks : List Kd) (k : Kd) : conK x (ks ++ [k]) = .app (conK x ks) k := by
  unfold conK
  rw [List.foldl_append]
  rfl
theorem Kd.fit_put {by' : By} {m : Nat} (hb : ∀ x k, lk by' x = some k → Kd.fit m k) : ∀ {k : Kd} {n : Nat}, Kd.fit n k → Kd.fit (n + m) (k.put by')
  | .var x, n, h => by
    have w : Wok x := by cases n <;> exact h
    show Kd.fit (n + m) ((lk by' x).getD (.var x))
    cases e : lk by' x with
    | none =>
      show Kd.fit (n + m) (.var x)
      generalize n + m = j
      cases j <;> exact w
    | some k => exact Kd.fit_mono (by omega) (hb x k e)
  | .con x, n, h => by
    have w : Wok x := by cases n <;> exact h
    show Kd.fit (n + m) (.con x)
    generalize n + m = j
    cases j <;> exact w
  | .app a b, n, h => by
    obtain ⟨j, rfl, h1, h2⟩ := Kd.fit_app h
    show Kd.fit (j + 1 + m) (.app (a.put by') (b.put by'))
    rw [show j + 1 + m = j + m + 1 by omega]
    exact ⟨Kd.fit_put hb h1, Kd.fit_put hb h2⟩
theorem fitV {n : Nat} {x : Str} (w : Wok x) : Kd.fit n (.var x) := by cases n <;> exact w
theorem fitC {n : Nat} {x : Str} (w : Wok x) : Kd.fit n (.con x) := by cases n <;> exact w
theorem wok_of_var {n : Nat} {x : Str} (h : Kd.fit n (.var x)) : Wok x := by cases n <;> exact h
theorem wok_of_con {n : Nat} {x : Str} (h : Kd.fit n (.con x)) : Wok x := by cases n <;> exact h
theorem fit_fold {j : Nat} : ∀ {ks : List Kd} {h : Kd} {i : Nat}, Kd.fit i h → (∀ k ∈ ks, Kd.fit j k) → j ≤ i → Kd.fit (i + ks.length) (ks.foldl Kd.app h)
  | [], h, i, h1, _, _ => h1
  | k :: r, h, i, h1, h2, h3 => by
    have q : Kd.fit (i + 1) (.app h k) := ⟨h1, Kd.fit_mono h3 (h2 k List.mem_cons_self)⟩
    have z := fit_fold (ks := r) q (fun y hy => h2 y (List.mem_cons_of_mem _ hy)) (by omega)
    rw [List.length_cons, show i + (r.length + 1) = i + 1 + r.length by omega]
    exact z
theorem fit_conK {j : Nat} {x : Str} {ks : List Kd} (w : Wok x) (h : ∀ k ∈ ks, Kd.fit j k) : Kd.fit (j + ks.length) (conK x ks) := fit_fold (fitC w) h (Nat.le_refl _)
theorem eqv_ll (xs ys : List PyData) : PyData.eqv (.list xs) (.list ys) = PyData.eqvAll xs ys := by rw [PyData.eqv]
theorem words_ne {ws : List Str} : (!PyData.eqv (.list (ws.map PyData.str)) (.list [])) = !ws.isEmpty := by
  rw [eqv_ll]
  cases ws with
  | nil => rw [List.map_nil, eqv_nn]; rfl
  | cons x r => rw [List.map_cons, eqv_cn]; rfl
/-- rows (word, how many parts) -/
def ConsAt (K : PySem.W.Frag) (H : Hp) (l : Addr) : Prop := ∃ xs, SqL K H l xs ∧ 0 < xs.length ∧ xs.length < 1000 ∧ ∀ v ∈ xs, ∃ (a : Addr) (x : Str) (m : Nat), v = .ref a ∧ H a = some (.tup [.str x, .int (m : Int)]) ∧ m ≤ 2 ∧ Wok x
theorem ConsAt.ext {K : PySem.W.Frag} {t c : Addr} {b : Nat} {H H' : Hp} {l : Addr} (h : ConsAt K H l) (hT : Tape K H t c b) (e : Ext t H H') : ConsAt K H' l := by
  obtain ⟨xs, h1, h2, h3, h4⟩ := h
  refine ⟨xs, SqL.extT h1 hT e, h2, h3, fun v hv => ?_⟩
  obtain ⟨a, x, m, e1, e2, e3, e4⟩ := h4 v hv
  exact ⟨a, x, m, e1, Ext.tups e hT _ _ e2, e3, e4⟩
/-- the variables of kinds are among some words -/
def Kd.of (ws : List Str) : Kd → Prop
  | .var x => x ∈ ws
  | .con _ => True
  | .app a b => Kd.of ws a ∧ Kd.of ws b
theorem of_fold {ws : List Str} : ∀ {ks : List Kd} {h : Kd}, Kd.of ws h → (∀ k ∈ ks, Kd.of ws k) → Kd.of ws (ks.foldl Kd.app h)
  | [], _, h1, _ => h1
  | k :: r, h, h1, h2 => of_fold (ks := r) (h := .app h k) ⟨h1, h2 k List.mem_cons_self⟩ fun y hy => h2 y (List.mem_cons_of_mem _ hy)
theorem of_conK {ws : List Str} {x : Str} {ks : List Kd} (h : ∀ k ∈ ks, Kd.of ws k) : Kd.of ws (conK x ks) := of_fold (h := .con x) trivial h
/-! ### recursion -/
theorem fn_false {P : Program} {w : World} {K : PySem.W.Frag} {mg : Str → Option Value} {base : Heap} {f : Addr} {fd : FuncData} {ps : List Str} : FnOk P w K mg base CX0 0 f fd ps (fun _ _ _ _ => False) :=
  ⟨fun _ _ _ _ h => h.elim, fun _ _ _ _ _ _ _ _ _ _ _ _ _ h => h.elim⟩
end L3

namespace L3
open PySem L2
def topS (i : Nat) : Stmt := PySem.Challenge.pw_leastneeds_k09_schemes_made.main.body.getD i (.Pass ⟨0, 0, 0, 0⟩)
section
variable {P : Program} {w : World} {K : PySem.W.Frag} {mg : Str → Option Value} {base : Heap}

abbrev s__law_begin : Stmt := topS 51
abbrev N__law_begin : List Str := ["_law_script"]
theorem sc__law_begin : FnScope N__law_begin ["_law_script"] (defScope s__law_begin) := ⟨rfl, rfl, rfl, by decide +kernel, rfl, by decide +kernel, by decide +kernel⟩
def spBegin (K : PySem.W.Frag) : Sp := fun vs H Q _ => ∃ (a : Addr) (ns : List Int), vs = [.ref a] ∧ SqL K H a (ns.map V.int) ∧ ∀ (H' : Hp) (t c : Addr), Same H H' → H t = none → Tape K H' t c 1000000 → Q (.ref t) H'
theorem cut63 (ns : List Int) : cutV (ns.map V.int) none (some 63) = (ns.take 63).map V.int := by
  unfold cutV
  rw [HT.sIx_none, show (63 : Int) = ((63 : Nat) : Int) from rfl, HT.sIx_nat, List.drop_zero, List.length_map, Nat.sub_zero, List.map_take]
  by_cases h : 63 ≤ ns.length
  · rw [Nat.min_eq_left h]
  · rw [Nat.min_eq_right (by omega), List.take_of_length_le (by simp), List.take_of_length_le (by simp; omega)]
theorem ok_begin {f : Addr} {fd : FuncData} (F : Fun K "_law_begin" "_law_begin" s__law_begin f fd) : FnOk P w K mg base CX0 1 f fd ["_law_script"] (spBegin K) := by
  refine F.ok sc__law_begin (fun vs H Q E h => ?_) (fun cdv A outer s H vs Q E hr h => ?_)
  · obtain ⟨a, ns, rfl, _⟩ := h
    rfl
  · obtain ⟨a, ns, rfl, hS, k⟩ := h
    refine ⟨_, (pss_one (ps_ret (pe_disp (pps_cons pe_str (pe_orT (pe_slice sl_list (pv 0) po_none (po_some pe_int)) (pe_one (pe_lst (pa_cons pe_int pa_nil)))) (pps_cons pe_str pe_int (pps_cons pe_str pe_int pps_nil))) (by rfl) (by rfl) (fun z => by cases z) (by decide)))), ?_⟩
    intro t ht
    have s0 : Same H (upd H t (.dK [])) := same_new ht
    refine ⟨_, rfl, _, rfl, a, _, rfl, s0.seq hS, fun q hq => ?_⟩
    rw [cut63]
    have nq : t ≠ q := fun e => by
      rw [← e, upd_same] at hq
      cases hq
    have s1 : Same (upd H t (.dK [])) (upd (upd H t (.dK [])) q (.lst ((ns.take 63).map V.int))) := same_new hq
    -- what stands at the end
    have fin : ∀ (H2 : Hp) (c : Addr) (ms : List Int), Same (upd H t (.dK [])) H2 → H2 c = some (.lst (ms.map V.int)) → c ≠ t → 0 < ms.length → ms.length ≤ 63 →
        H2 t = some (.dK []) ∧ ∃ kvs : List (Key × V), [(V.str "cells", V.ref c), (V.str "place", V.int 0), (V.str "left", V.int 0)] = kvs.map (fun kv => (kV kv.1, kv.2)) ∧ kvs.length ≤ 15 ∧ Q (.ref t) (upd H2 t (.dK (mergeK [] kvs))) := by
      intro H2 c ms h2 hc nc h0 h63
      refine ⟨h2 _ _ upd_same, tp c 0 0, rfl, by show 3 ≤ 15; decide, ?_⟩
      refine k _ t c (fun b o e => ?_) ht ⟨0, 0, ms, ?_, SqL.of ?_, nc, h0, h63, by omega, by omega, by omega⟩
      · have n : b ≠ t := ne_of_none e ht
        rw [upd_ne n]
        exact h2 _ _ (s0 _ _ e)
      · rw [upd_same]
        rfl
      · rw [upd_ne nc]
        exact hc
    refine ⟨_, .inl ⟨_, SqL.of upd_same, rfl⟩, ?_⟩
    cases hns : ns.take 63 with
    | nil =>
      rw [hns] at s1
      refine iteF ?_
      refine ⟨by decide, fun r hr2 => ?_⟩
      refine fin _ r [0] (s1.trans (same_new hr2)) upd_same (fun e => ?_) (by decide) (by decide)
      rw [e, upd_ne nq, upd_same] at hr2
      cases hr2
    | cons z zs =>
      refine iteT ?_
      refine fin _ q (z :: zs) (by rw [← hns]; exact s1) (by rw [upd_same]) nq.symm (Nat.zero_lt_succ _) ?_
      rw [← hns, List.length_take]
      omega

/-! ### a number from the tape -/
abbrev s__law_draw : Stmt := topS 52
abbrev N__law_draw : List Str := ["_law_tape", "_law_many", "_law_spot", "_law_size", "_law_cell", "_law_got"]
theorem sc__law_draw : FnScope N__law_draw ["_law_tape", "_law_many"] (defScope s__law_draw) := ⟨rfl, rfl, rfl, by decide +kernel, rfl, by decide +kernel, by decide +kernel⟩
theorem get_left {H : Hp} {t c : Addr} {p l : Int} (h : H t = some (.dK (tp c p l))) : DGet H t (.str "left") (some (.int l)) := DGet.k (k := .inr "left") h
theorem get_place {H : Hp} {t c : Addr} {p l : Int} (h : H t = some (.dK (tp c p l))) : DGet H t (.str "place") (some (.int p)) := DGet.k (k := .inr "place") h
theorem get_cells {H : Hp} {t c : Addr} {p l : Int} (h : H t = some (.dK (tp c p l))) : DGet H t (.str "cells") (some (.ref c)) := DGet.k (k := .inr "cells") h
theorem put_left {H : Hp} {t c : Addr} {p l q : Int} (h : H t = some (.dK (tp c p l))) : DPut H t (.str "left") (.int q) (upd H t (.dK (tp c p q))) := DPut.k (k := .inr "left") (v := .int q) h (by show 3 < sizeLine; decide)
theorem put_place {H : Hp} {t c : Addr} {p l q : Int} (h : H t = some (.dK (tp c p l))) : DPut H t (.str "place") (.int q) (upd H t (.dK (tp c q l))) := DPut.k (k := .inr "place") (v := .int q) h (by show 3 < sizeLine; decide)
def spDraw (K : PySem.W.Frag) : Sp := fun vs H Q _ => ∃ (t c : Addr) (n : Int) (b : Nat), vs = [.ref t, .int n] ∧ 1 ≤ n ∧ n < 1000000 ∧ Tape K H t c (b + 1) ∧
  ∀ (H' : Hp) (r : Int), Ext t H H' → Tape K H' t c b → 0 ≤ r → r < n → Q (.int r) H'
theorem ok_draw {f : Addr} {fd : FuncData} (F : Fun K "_law_draw" "_law_draw" s__law_draw f fd) (B : Bl mg) : FnOk P w K mg base CX0 1 f fd ["_law_tape", "_law_many"] (spDraw K) := by
  refine F.ok sc__law_draw (fun vs H Q E h => ?_) (fun cdv A outer s H vs Q E hr h => ?_)
  · obtain ⟨t, c, n, b, rfl, _⟩ := h
    rfl
  · obtain ⟨t, c, n, b, rfl, hn1, hn2, ⟨p, l, ns, h1, h2, h3, h4, h5, h6, h7, h8⟩, k⟩ := h
    have hu := hu_of hr
    refine ⟨_, (pss_cons (ps_if (pt_cmpR op_lt (pe_dget hu (pv 0) pe_str (fun _ _ => rfl)) (pv 1) (nomark _))
  (pss_cons (ps_par (i := 2) (j := 3) (by rfl) sc__law_draw.nd rfl rfl (by decide) rfl rfl (pa_cons (pe_dget hu (pv 0) pe_str (fun _ _ => rfl)) (pa_cons (pe_callB call_len (by rfl) B.len PySem.boot_len (pa_cons (pe_dget hu (pv 0) pe_str (fun _ _ => rfl)) pa_nil)) pa_nil)) (by rfl))
  (pss_cons (ps_asg (pe_tup (pa_cons (pe_ix ix_list (pe_dget hu (pv 0) pe_str (fun _ _ => rfl)) (pe_op op_mod (pe_callTy call_int1 (by rfl) B.int (by decide +kernel) (pa_cons (pv 2) pa_nil)) (pv 3)) (fun _ _ => rfl)) (pa_cons (pe_op op_add (pv 2) pe_int) pa_nil))) (pg_tup (by rfl) (pgs_cons (pg_name (i := 4) sc__law_draw.nd rfl (Or.inl rfl)) (pgs_cons (pg_sub (pv 0) pe_str (set_dict hu)) pgs_nil))))
  (pss_cons (ps_dput hu (pv 0) pe_str (pe_op op_mod (pe_callTy call_int1 (by rfl) B.int (by decide +kernel) (pa_cons (pe_op op_pow (pe_op op_add (pe_op op_add (pe_op op_mod (pe_callTy call_int1 (by rfl) B.int (by decide +kernel) (pa_cons (pv 4) pa_nil)) pe_int) (pe_op op_mul pe_int (pv 2))) pe_int) pe_int) pa_nil)) (pe_op op_add (pe_op op_pow pe_int pe_int) pe_int)) rfl)
  (pss_one (ps_if (PW.pt (pw_and (pt_cmpR op_ge (pv 4) (pe_op op_pow pe_int pe_int) (nomark _)) (pw_and1 (pt_cmpR op_lt (pv 2) (pv 3) (nomark _)))))
  (pss_one (ps_dput hu (pv 0) pe_str (pe_op op_sub (pv 4) (pe_op op_pow pe_int pe_int)) rfl))
  pss_nil)))))
  pss_nil)
  (pss_cons (ps_asg (pe_tup (pa_cons (pe_op op_mod (pe_callTy call_int1 (by rfl) B.int (by decide +kernel) (pa_cons (pe_dget hu (pv 0) pe_str (fun _ _ => rfl)) pa_nil)) (pv 1)) (pa_cons (pe_op op_fdivN (pe_dget hu (pv 0) pe_str (fun _ _ => rfl)) (pv 1)) pa_nil))) (pg_tup (by rfl) (pgs_cons (pg_name (i := 5) sc__law_draw.nd rfl (Or.inl rfl)) (pgs_cons (pg_sub (pv 0) pe_str (set_dict hu)) pgs_nil))))
  (pss_one (ps_ret (pv 5))))), ?_⟩
    -- the last two rows, from any tape
    have fin : ∀ (H1 : Hp) (p l : Int) (v2 v3 v4 : Option V), Ext t H H1 → H1 t = some (.dK (tp c p l)) → SqL K H1 c (ns.map V.int) → 0 ≤ p → p + b ≤ 1000000 → 0 ≤ l →
        tSeq (tAsg (tTup (tCons (tOp (rI (fun _ j => 0 < j) fun i j => .int (i % j)) (tCB (fun xs H Q => (∃ i, xs = [.int i] ∧ Q (.int i) H) ∨ ∃ k, xs = [.bl k] ∧ Q (.int (if k then 1 else 0)) H) (tCons (tDGet (tVar 0) (tC (.str "left"))) tNil)) (tVar 1)) (tCons (tOp (rI CDivN fun i j => .int (i.fdiv j)) (tDGet (tVar 0) (tC (.str "left"))) (tVar 1)) tNil)))
          (gTup K 2 (gCons (gName 5) (gCons (gSub (tVar 0) (tC (.str "left")) rSetD) gNil)))) (tRet (tVar 5)) { nx := fun _ H' => Q .non H', rt := Q } [some (.ref t), some (.int n), v2, v3, v4, none] H1 := by
      intro H1 p l v2 v3 v4 e1 g1 g2 g3 g4 g5
      refine ⟨_, rfl, _, _, rfl, get_left g1, .inl ⟨_, rfl, _, rfl, _, _, rfl, rfl, (by omega), ?_⟩⟩
      refine ⟨_, rfl, _, _, rfl, get_left g1, _, rfl, _, _, rfl, rfl, ⟨by omega, by omega⟩, slz rfl, fun q hq => ?_⟩
      have nq : t ≠ q := ne_of_none g1 hq
      refine ⟨q, _, rfl, SqT.of upd_same, rfl, _, _, rfl, _, _, rfl, _, rfl, t, _, rfl, put_left (by rw [upd_ne nq]; exact g1), rfl, ?_⟩
      refine ⟨_, rfl, ?_⟩
      have e2 : Ext t H (upd H1 q (.tup [.int (l % n), .int (l.fdiv n)])) := e1.trans (Ext.new hq)
      refine k _ _ (e2.trans Ext.put) ⟨p, l.fdiv n, ns, upd_same, (SqL.ext g2 ((Ext.new hq).trans Ext.put) h3), h3, h4, h5, g3, g4, Int.fdiv_nonneg g5 (by omega)⟩ (Int.emod_nonneg _ (by omega)) (Int.emod_lt_of_pos _ (by omega))
    refine ⟨_, rfl, _, _, rfl, get_left h1, _, rfl, _, _, rfl, rfl, _, rfl, ?_⟩
    refine ite2 (fun hc => ?_) (fun hc => ?_)
    · refine ⟨_, rfl, _, _, rfl, get_place h1, _, rfl, _, _, rfl, get_cells h1, _, _, rfl, .inl ⟨_, h2, rfl⟩, _, _, rfl, ?_⟩
      have hm : p % ((ns.map V.int).length : Int) = ((p % ((ns.map V.int).length : Int)).toNat : Int) := (Int.toNat_of_nonneg (Int.emod_nonneg _ (by rw [List.length_map]; omega))).symm
      have hlt : (p % ((ns.map V.int).length : Int)).toNat < ns.length := by
        have := Int.emod_lt_of_pos p (show (0 : Int) < ((ns.map V.int).length : Int) by rw [List.length_map]; omega)
        rw [List.length_map] at this ⊢
        omega
      refine ⟨_, rfl, _, _, rfl, get_cells h1, _, rfl, .inl ⟨_, rfl, _, rfl, _, _, rfl, rfl, (by rw [List.length_map]; omega), c, _, _, V.int (ns[(p % ((ns.map V.int).length : Int)).toNat]), rfl, rfl, h2, at_of hm (by rw [List.getElem?_map, List.getElem?_eq_getElem hlt]; rfl), ?_⟩⟩
      generalize ns[(p % ((ns.map V.int).length : Int)).toNat] = cell
      refine ⟨_, rfl, _, _, rfl, rfl, slz rfl, fun q hq => ?_⟩
      have nq : t ≠ q := ne_of_none h1 hq
      have g0 : (upd H q (.tup [.int cell, .int (p + 1)])) t = some (.dK (tp c p l)) := by rw [upd_ne nq]; exact h1
      refine ⟨q, _, rfl, SqT.of upd_same, rfl, _, _, rfl, _, _, rfl, _, rfl, t, _, rfl, put_place g0, rfl, ?_⟩
      have e1 : Ext t H (upd (upd H q (.tup [.int cell, .int (p + 1)])) t (.dK (tp c (p + 1) l))) := (Ext.new hq).trans Ext.put
      have hu1 : 0 ≤ cell % 2147483587 := Int.emod_nonneg _ (by decide)
      have hu2 : cell % 2147483587 < 2147483587 := Int.emod_lt_of_pos _ (by decide)
      refine ⟨_, rfl, .inl ⟨_, rfl, _, _, rfl, rfl, (show (0 : Int) < 2147483587 by decide), _, rfl, _, _, rfl, rfl, .inr ⟨by omega, by omega⟩, _, _, rfl, rfl, _, _, rfl, rfl, ?_⟩⟩
      refine ⟨_, _, rfl, rfl, ⟨by decide, by decide, ?_⟩, .inl ⟨_, rfl, ?_⟩⟩
      · show (cell % 2147483587 + 48271 * p + 16807).natAbs < 2 ^ 64
        omega
      generalize (cell % 2147483587 + 48271 * p + 16807) ^ (13 : Int).toNat = big
      refine ⟨_, _, rfl, rfl, ⟨by decide, by decide, by decide⟩, _, _, rfl, rfl, _, _, rfl, rfl, (show (0 : Int) < 10 ^ (50 : Int).toNat + 57 by decide +kernel), ?_⟩
      refine ⟨_, rfl, t, _, rfl, put_left upd_same, ?_⟩
      have hl : 0 ≤ big % (10 ^ (50 : Int).toNat + 57) := Int.emod_nonneg _ (by decide +kernel)
      generalize big % (10 ^ (50 : Int).toNat + 57) = l2 at hl ⊢
      have e3 : Ext t H (upd (upd (upd H q (.tup [.int cell, .int (p + 1)])) t (.dK (tp c (p + 1) l))) t (.dK (tp c (p + 1) l2))) := e1.trans Ext.put
      refine ⟨_, rfl, _, _, rfl, rfl, ⟨by decide, by decide, by decide⟩, _, _, rfl, rfl, _, rfl, ?_⟩
      refine ite2 (fun hc1 => ?_) (fun hc1 => ?_)
      · refine ⟨_, rfl, _, rfl, _, _, rfl, rfl, _, rfl, ?_⟩
        refine ite2 (fun hc2 => ?_) (fun hc2 => ?_)
        · refine ⟨_, rfl, _, _, rfl, rfl, ⟨by decide, by decide, by decide⟩, _, _, rfl, rfl, ?_⟩
          refine ⟨_, rfl, t, _, rfl, put_left upd_same, ?_⟩
          have hc3 : (10 : Int) ^ (18 : Int).toNat ≤ cell := of_decide_eq_true hc1
          exact fin _ (p + 1) _ _ _ _ (e3.trans Ext.put) upd_same (SqL.ext h2 (e3.trans Ext.put) h3) (by omega) (by omega) (by omega)
        · exact fin _ (p + 1) _ _ _ _ e3 upd_same (SqL.ext h2 e3 h3) (by omega) (by omega) hl
      · refine iteF ?_
        exact fin _ (p + 1) _ _ _ _ e3 upd_same (SqL.ext h2 e3 h3) (by omega) (by omega) hl
    · exact fin H p l none none none (Ext.refl _ _) h1 h2 h6 (by omega) h8
end
end L3

namespace L3
open PySem L2
section
variable {P : Program} {w : World} {K : PySem.W.Frag} {mg : Str → Option Value} {base : Heap}
theorem Fun.kn {x : Str} {st : Stmt} {f : Addr} {fd : FuncData} {k : Nat} {ps : List Str} {sp : Sp} (F : Fun K x x st f fd) (hm : mg x = some (.ref f)) (h : FnOk P w K mg base CX0 k f fd ps sp)
    (b : ∀ (kV doc pm : Value) (an : Option Addr) (cdv ct : Value) (us : List Value), us.length = ps.length → bindArgs (PySem.W.fnOf x x (defArgs st) (defBody st) (defScope st) .none kV doc pm an cdv ct) ⟨us, []⟩ = pure (ps.zip us)) : Kn P w K mg base k x ps sp :=
  ⟨f, fd, h, hm, F.kp, F.binds b⟩
abbrev s__law_pick : Stmt := topS 53
abbrev N__law_pick : List Str := ["_law_tape", "_law_items"]
theorem sc__law_pick : FnScope N__law_pick ["_law_tape", "_law_items"] (defScope s__law_pick) := ⟨rfl, rfl, rfl, by decide +kernel, rfl, by decide +kernel, by decide +kernel⟩
def spPick (K : PySem.W.Frag) : Sp := fun vs H Q _ => ∃ (t c l : Addr) (xs : List V) (b : Nat), vs = [.ref t, .ref l] ∧ SqL K H l xs ∧ 0 < xs.length ∧ xs.length < 1000000 ∧ Tape K H t c (b + 1) ∧
  ∀ (H' : Hp) (v : V), Ext t H H' → Tape K H' t c b → v ∈ xs → Q v H'
theorem ok_pick {f : Addr} {fd : FuncData} (F : Fun K "_law_pick" "_law_pick" s__law_pick f fd) (B : Bl mg) (D__law_draw : Kn P w K mg base 1 "_law_draw" ["_law_tape", "_law_many"] (spDraw K)) : FnOk P w K mg base CX0 2 f fd ["_law_tape", "_law_items"] (spPick K) := by
  refine F.ok sc__law_pick (fun vs H Q E h => ?_) (fun cdv A outer s H vs Q E hr h => ?_)
  · obtain ⟨t, c, l, xs, b, rfl, _⟩ := h
    rfl
  · obtain ⟨t, c, l, xs, b, rfl, h1, h2, h3, h4, k⟩ := h
    have hr__law_draw := hr
    refine ⟨_, (pss_one (ps_ret (pe_ix ix_list (pv 1) (pe_kn D__law_draw hr__law_draw (pa_cons (pv 0) (pa_cons (pe_callB call_len (by rfl) B.len PySem.boot_len (pa_cons (pv 1) pa_nil)) pa_nil))) (fun _ _ => rfl)))), ?_⟩
    refine ⟨_, rfl, _, rfl, _, rfl, _, _, rfl, .inl ⟨_, h1, rfl⟩, t, c, _, b, rfl, by omega, by omega, h4, fun H' r e1 e2 r1 r2 => ?_⟩
    have hj : r = (r.toNat : Int) := (Int.toNat_of_nonneg r1).symm
    have hlt : r.toNat < xs.length := by omega
    exact ⟨l, xs, r, xs[r.toNat], rfl, rfl, SqL.extT h1 h4 e1, at_of hj (List.getElem?_eq_getElem hlt), k H' _ e1 e2 (List.getElem_mem hlt)⟩

/-! ### words -/
def sgn (j : Nat) : Str := ⟨#[97 + j]⟩
def mkW (rest : Str) (d : Bool) (c : Str) : Str := if d then rest ++ c else c ++ rest
abbrev s__law_words : Stmt := topS 55
abbrev N__law_words : List Str := ["_law_tape", "_law_many", "_law_rest", "_law_first", "_law_letters", "_law_is_behind", "_law_k", "_law_letter"]
theorem sc__law_words : FnScope N__law_words ["_law_tape", "_law_many"] (defScope s__law_words) := ⟨rfl, rfl, rfl, by decide +kernel, rfl, by decide +kernel, by decide +kernel⟩
def rests : List Str := ["", "x", "oo", "zzzz", "ery", "bbbbbbb"]
def lets (first n : Nat) : List Str := (List.range n).map fun k => sgn ((first + 7 * k) % 26)
def spWords (K : PySem.W.Frag) : Sp := fun vs H Q _ => ∃ (t c : Addr) (n b : Nat), vs = [.ref t, .int (n : Int)] ∧ n ≤ 100 ∧ Tape K H t c (b + 3) ∧
  ∀ (H' : Hp) (l : Addr) (rest : Str) (first : Nat) (d : Bool), Ext t H H' → Tape K H' t c b → H l = none → rest ∈ rests → first < 26 → H' l = some (.lst (((lets first n).map (mkW rest d)).map V.str)) → Q (.ref l) H'
theorem at_ofG {α : Type} {xs : List α} {z : Int} {j : Nat} {v : α} (e : z = (j : Int)) (h : xs[j]? = some v) : atI xs z = some v := by
  rw [e]
  exact atI_nat h
theorem abc_at : ∀ j : Nat, j < 26 → ("abcdefghijklmnopqrstuvwxyz" : Str).cps.toList[j]? = some (97 + j) := by decide +kernel
theorem lets_succ (first n : Nat) : lets first (n + 1) = lets first n ++ [sgn ((first + 7 * n) % 26)] := by
  unfold lets
  rw [List.range_succ, List.map_append]
  rfl
theorem lets_length (first n : Nat) : (lets first n).length = n := by
  unfold lets
  rw [List.length_map, List.length_range]
theorem rests_len : ∀ r ∈ rests, r.length ≤ 7 := by decide +kernel
theorem ok_words {f : Addr} {fd : FuncData} (F : Fun K "_law_words" "_law_words" s__law_words f fd) (B : Bl mg) (D__law_draw : Kn P w K mg base 1 "_law_draw" ["_law_tape", "_law_many"] (spDraw K)) (D__law_pick : Kn P w K mg base 2 "_law_pick" ["_law_tape", "_law_items"] (spPick K)) :
    FnOk P w K mg base CX0 3 f fd ["_law_tape", "_law_many"] (spWords K) := by
  refine F.ok sc__law_words (fun vs H Q E h => ?_) (fun cdv A outer s H vs Q E hr h => ?_)
  · obtain ⟨t, c, n, b, rfl, _⟩ := h
    rfl
  · obtain ⟨t, c, n, b, rfl, hn, hT, k⟩ := h
    have hr__law_draw : Room 1 _ := hr.mono (by decide)
    have hr__law_pick : Room 2 _ := hr
    refine ⟨_, (pss_cons (ps_asg (pe_tup (pa_cons (pe_kn D__law_pick hr__law_pick (pa_cons (pv 0) (pa_cons (pe_lst (pa_cons pe_str (pa_cons pe_str (pa_cons pe_str (pa_cons pe_str (pa_cons pe_str (pa_cons pe_str pa_nil))))))) pa_nil))) (pa_cons (pe_kn D__law_draw hr__law_draw (pa_cons (pv 0) (pa_cons pe_int pa_nil))) pa_nil))) (pg_tup (by rfl) (pgs_cons (pg_name (i := 2) sc__law_words.nd rfl (Or.inr rfl)) (pgs_cons (pg_name (i := 3) sc__law_words.nd rfl (Or.inr rfl)) pgs_nil))))
  (pss_cons (ps_setLc (i := 4) (own := [("_law_k", 6)]) rfl sc__law_words.nd rfl rfl (sw_true rfl rfl rfl (by decide +kernel)) (pi_range1 (by rfl) B.range (pa_cons (pv 1) pa_nil)) (blkOk_by (N := N__law_words) (sc := (defScope s__law_words)) (own := [("_law_k", 6)]) (by decide +kernel)) (fun _ _ _ _ _ => (pg_name (i := 6) sc__law_words.nd rfl (Or.inl rfl))) (fun _ _ _ _ _ => pts_nil) (fun _ _ _ _ _ => (pe_ix ix_str pe_str (pe_op op_mod (pe_callTy call_int1 (by rfl) B.int (by decide +kernel) (pa_cons (pe_op op_add (pv 3) (pe_op op_mul pe_int (pv 6))) pa_nil)) pe_int) (fun _ _ => rfl))))
  (pss_cons (ps_set (i := 5) sc__law_words.nd rfl (Or.inr rfl) (pe_cmpR op_eq (pe_kn D__law_draw hr__law_draw (pa_cons (pv 0) (pa_cons pe_int pa_nil))) pe_int (nomark _)))
  (pss_one (ps_ret (pe_lc (own := [("_law_letter", 7)]) rfl sc__law_words.nd (pi_list (pv 4)) (blkOk_by (N := N__law_words) (sc := (defScope s__law_words)) (own := [("_law_letter", 7)]) (by decide +kernel)) (fun _ _ _ _ _ => (pg_name (i := 7) sc__law_words.nd rfl (Or.inl rfl))) (fun _ _ _ _ _ => pts_nil) (fun _ _ _ _ _ => (pe_ifExp (pt_val (pv 5)) (pe_op op_add_str (pv 2) (pv 7)) (pe_op op_add_str (pv 7) (pv 2)))))))))), ?_⟩
    refine ⟨_, rfl, slz rfl, fun l0 hl0 => ?_⟩
    refine ⟨t, c, l0, rests.map V.str, b + 2, rfl, SqL.of upd_same, by decide, by decide, hT.new hl0, fun H1 v e1 T1 hv => ?_⟩
    obtain ⟨rest, hrest, rfl⟩ := List.mem_map.mp hv
    refine ⟨_, rfl, t, c, 26, b + 1, rfl, by decide, by decide, T1, fun H2 r e2 T2 r1 r2 => ?_⟩
    obtain ⟨first, rfl⟩ : ∃ m : Nat, r = (m : Int) := ⟨r.toNat, (Int.toNat_of_nonneg r1).symm⟩
    have hf : first < 26 := by omega
    refine ⟨slz rfl, fun q hq => ⟨q, _, rfl, SqT.of upd_same, rfl, _, _, rfl, _, _, rfl, rfl, ?_⟩⟩
    have E2 : Ext t H (upd H2 q (.tup [.str rest, .int (first : Int)])) := (((Ext.new hl0).trans e1).trans e2).trans (Ext.new hq)
    have T3 := T2.new (o := .tup [.str rest, .int (first : Int)]) hq
    generalize upd H2 q (.tup [.str rest, .int (first : Int)]) = H3 at E2 T3 ⊢
    refine ⟨_, rfl, (n : Int), rfl, by omega, by omega, fun D hD => ?_⟩
    refine lc_range (lo := 0) (n := n) (fun i H' => Same H3 H' ∧ H' D = some (.lst ((lets first i).map V.str))) ⟨same_new hD, upd_same⟩ (fun i H' hi ⟨s1, g1⟩ => ⟨rfl, ?_⟩) (fun H4 ⟨s4, g4⟩ => ?_)
    · refine ⟨_, rfl, _, rfl, _, _, rfl, rfl, .inl ⟨by decide, by decide⟩, _, _, rfl, rfl, .inl ⟨_, rfl, ?_⟩⟩
      refine ⟨_, _, rfl, rfl, (show (0 : Int) < 26 by decide), _, _, _, rfl, rfl, slz rfl, at_ofG (show ((first : Int) + 7 * (0 + (i : Int))) % 26 = (((first + 7 * i) % 26 : Nat) : Int) by omega) (abc_at _ (by omega)), ?_⟩
      refine ⟨_, g1, ?_, ?_⟩
      · rw [List.length_map, lets_length]
        exact small1000 (by omega)
      · refine ⟨fun b' o z => ?_, ?_⟩
        · rw [upd_ne (ne_of_none z hD)]
          exact s1 _ _ z
        · rw [upd_same, lets_succ, List.map_append]
          rfl
    · have T4 := T3.same s4
      refine ⟨_, rfl, t, c, 2, b, rfl, by decide, by decide, T4, fun H5 r5 e5 T5 r51 r52 => ?_⟩
      refine ⟨rfl, ?_⟩
      have n5 : D ≠ t := T3.ne hD
      have g5 := e5 _ _ n5 g4
      refine ⟨_, rfl, D, rfl, ⟨_, SqL.of g5⟩, fun D2 hD2 => ?_⟩
      have nD : D ≠ D2 := ne_of_none g5 hD2
      refine lc_list (K := K) (a := D) (xs := (lets first n).map V.str) (fun i H' => Same H5 H' ∧ H' D2 = some (.lst ((((lets first n).take i).map (mkW rest (decide (V.int r5 = V.int 0)))).map V.str))) ⟨same_new hD2, upd_same⟩ (fun i H' _ ⟨s1, _⟩ => SqL.of (s1 _ _ g5)) (fun i x H' hx ⟨s1, g1⟩ => ⟨rfl, ?_⟩) (fun H6 ⟨s6, g6⟩ => ?_)
      · rw [List.getElem?_map] at hx
        obtain ⟨ch, hc, rfl⟩ := Option.map_eq_some_iff.mp hx
        have hi : i < (lets first n).length := (List.getElem?_eq_some_iff.mp hc).1
        have c1 : ch.length = 1 := by
          unfold lets at hc
          rw [List.getElem?_map] at hc
          obtain ⟨j, _, rfl⟩ := Option.map_eq_some_iff.mp hc
          rfl
        have rl := rests_len _ hrest
        have tk : (lets first n).take (i + 1) = (lets first n).take i ++ [ch] := by
          rw [List.take_add_one, hc]
          rfl
        have fin : ∀ z : Str, z = mkW rest (decide (V.int r5 = V.int 0)) ch → ∃ acc, H' D2 = some (.lst acc) ∧ acc.length < sizeLine ∧ Same H5 (upd H' D2 (.lst (acc ++ [V.str z]))) ∧ upd H' D2 (.lst (acc ++ [V.str z])) D2 = some (.lst ((((lets first n).take (i + 1)).map (mkW rest (decide (V.int r5 = V.int 0)))).map V.str)) := by
          rintro z rfl
          refine ⟨_, g1, ?_, fun b' o z => ?_, ?_⟩
          · rw [List.length_map, List.length_map, List.length_take]
            rw [lets_length] at hi
            exact small1000 (by omega)
          · rw [upd_ne (ne_of_none z hD2)]
            exact s1 _ _ z
          · rw [upd_same, tk, List.map_append, List.map_append]
            rfl
        refine ⟨_, rfl, _, rfl, ?_⟩
        refine ite2 (fun hc1 => ?_) (fun hc1 => ?_)
        · refine ⟨_, rfl, _, rfl, _, _, rfl, rfl, Nat.le_trans (show rest.length + ch.length ≤ 8 by omega) (slz rfl), ?_⟩
          refine fin _ ?_
          unfold mkW
          rw [if_pos hc1]
        · refine ⟨_, rfl, _, rfl, _, _, rfl, rfl, Nat.le_trans (show ch.length + rest.length ≤ 8 by omega) (slz rfl), ?_⟩
          refine fin _ ?_
          unfold mkW
          rw [if_neg hc1]
      · have T6 := T5.same s6
        rw [List.length_map, List.take_of_length_le (Nat.le_refl _)] at g6
        have n2 : D2 ≠ t := T5.ne hD2
        have EE : Ext t H H6 := ((E2.trans (same_ext s4)).trans e5).trans (same_ext s6)
        refine k H6 D2 rest first _ EE T6 ?_ hrest hf g6
        exact ((E2.trans (same_ext s4)).trans e5).free n2 hD2
end
end L3

namespace L3
open PySem L2
section
variable {P : Program} {w : World} {K : PySem.W.Frag} {mg : Str → Option Value} {base : Heap}
abbrev s__law_con : Stmt := topS 56
abbrev N__law_con : List Str := ["_law_name", "_law_parts", "_law_found", "_law_part"]
theorem sc__law_con : FnScope N__law_con ["_law_name", "_law_parts"] (defScope s__law_con) := ⟨rfl, rfl, rfl, by decide +kernel, rfl, by decide +kernel, by decide +kernel⟩
def spCon (K : PySem.W.Frag) : Sp := fun vs H Q _ => ∃ (x : Str) (l : Addr) (xs : List V) (ks : List Kd), vs = [.str x, .ref l] ∧ SqL K H l xs ∧ KdsAt H xs ks ∧
  ∀ (H' : Hp) (v : V), Same H H' → KdAt H' v (conK x ks) → Q v H'
theorem ok_con {f : Addr} {fd : FuncData} (F : Fun K "_law_con" "_law_con" s__law_con f fd) : FnOk P w K mg base CX0 1 f fd ["_law_name", "_law_parts"] (spCon K) := by
  refine F.ok sc__law_con (fun vs H Q E h => ?_) (fun cdv A outer s H vs Q E hr h => ?_)
  · obtain ⟨x, l, xs, ks, rfl, _⟩ := h
    rfl
  · obtain ⟨x, l, xs, ks, rfl, h1, h2, k⟩ := h
    refine ⟨_, (pss_cons (ps_set (i := 2) sc__law_con.nd rfl (Or.inl rfl) (pe_tup (pa_cons pe_str (pa_cons (pv 0) pa_nil))))
  (pss_cons (ps_for PassesOwn.never rfl (pi_list (pv 1)) (pg_name (i := 3) sc__law_con.nd rfl (Or.inl rfl))
  (pss_one (ps_set (i := 2) sc__law_con.nd rfl (Or.inl rfl) (pe_tup (pa_cons pe_str (pa_cons (pv 2) (pa_cons (pv 3) pa_nil)))))))
  (pss_one (ps_ret (pv 2))))), ?_⟩
    refine ⟨_, rfl, slz rfl, fun p hp => ?_⟩
    have s0 : Same H (upd H p (.tup [.str "con", .str x])) := same_new hp
    refine ⟨_, rfl, l, rfl, ⟨_, s0.seq h1⟩, for_list (K := K) (a := l) (xs := xs) (fun i σ H' => Same H H' ∧ ∃ (v : V) (pv : Option V), σ = [some (.str x), some (.ref l), some v, pv] ∧ KdAt H' v (conK x (ks.take i))) ⟨s0, .ref p, none, rfl, ⟨p, rfl, upd_same⟩⟩ (fun i σ H' _ ⟨s1, _⟩ => s1.seq h1) ?_ ?_⟩
    · rintro i y σ H' hi ⟨s1, v, pv, rfl, hv⟩
      obtain ⟨ky, hky, hy⟩ := paired_get h2 hi
      refine ⟨_, rfl, _, rfl, slz rfl, fun q hq => ?_⟩
      have s2 : Same H' (upd H' q (.tup [.str "apply", v, y])) := same_new hq
      refine ⟨s1.trans s2, _, _, rfl, ?_⟩
      have tk : ks.take (i + 1) = ks.take i ++ [ky] := by
        rw [List.take_add_one, hky]
        rfl
      rw [tk, conK_snoc]
      exact ⟨q, v, y, rfl, upd_same, KdAt.tups (same_tups s2) hv, KdAt.tups (same_tups (s1.trans s2)) hy⟩
    · rintro σ H' ⟨s1, v, pv, rfl, hv⟩
      have e : ks.take xs.length = ks := by rw [Paired.length h2, List.take_length]
      rw [e] at hv
      exact ⟨_, rfl, k _ _ s1 hv⟩

/-! ### put -/
abbrev s__law_put : Stmt := topS 57
abbrev N__law_put : List Str := ["_law_kind", "_law_by"]
theorem sc__law_put : FnScope N__law_put ["_law_kind", "_law_by"] (defScope s__law_put) := ⟨rfl, rfl, rfl, by decide +kernel, rfl, by decide +kernel, by decide +kernel⟩
def spPut (K : PySem.W.Frag) (n : Nat) : Sp := fun vs H Q _ => ∃ (v : V) (d : Addr) (k : Kd) (kvs : List (Key × V)) (by' : By), vs = [v, .ref d] ∧ KdAt H v k ∧ k.fit n ∧ H d = some (.dK kvs) ∧ ByAt H kvs by' ∧
  ∀ (H' : Hp) (v' : V), Same H H' → KdAt H' v' (k.put by') → Q v' H'
def spPrev (f : Nat → Sp) : Nat → Sp
  | 0 => fun _ _ _ _ => False
  | n + 1 => f n
theorem ok_put_step {n : Nat} {f : Addr} {fd : FuncData} (F : Fun K "_law_put" "_law_put" s__law_put f fd) (D__law_put : Kn P w K mg base n "_law_put" ["_law_kind", "_law_by"] (spPrev (spPut K) n)) : FnOk P w K mg base CX0 (n + 1) f fd ["_law_kind", "_law_by"] (spPut K n) := by
  refine F.ok sc__law_put (fun vs H Q E h => ?_) (fun cdv A outer s H vs Q E hr h => ?_)
  · obtain ⟨v, d, k, kvs, by', rfl, _⟩ := h
    rfl
  · obtain ⟨v, d, kd, kvs, by', rfl, h1, h2, h3, h4, k⟩ := h
    have hr__law_put := hr
    have hu := hu_of hr
    refine ⟨_, (pss_cons (ps_if (pt_cmpR op_eq (pe_ix ix_tup (pv 0) pe_int (fun _ _ => rfl)) pe_str (nomark _))
  (pss_one (ps_ret (pe_tup (pa_cons pe_str (pa_cons (pe_kn D__law_put hr__law_put (pa_cons (pe_ix ix_tup (pv 0) pe_int (fun _ _ => rfl)) (pa_cons (pv 1) pa_nil))) (pa_cons (pe_kn D__law_put hr__law_put (pa_cons (pe_ix ix_tup (pv 0) pe_int (fun _ _ => rfl)) (pa_cons (pv 1) pa_nil))) pa_nil))))))
  pss_nil)
  (pss_one (ps_ret (pe_ifExp (pt_cmpR op_eq (pe_ix ix_tup (pv 0) pe_int (fun _ _ => rfl)) pe_str (nomark _)) (pe_dget2 hu (pv 1) (pe_ix ix_tup (pv 0) pe_int (fun _ _ => rfl)) (pv 0) ⟨rfl, rfl, rfl, rfl⟩) (pv 0))))), ?_⟩
    cases kd with
    | app a b =>
      obtain ⟨m, rfl, ha, hb⟩ := Kd.fit_app h2
      obtain ⟨p, u, z, rfl, hp, hu1, hz1⟩ := h1
      refine ⟨_, rfl, _, _, _, _, rfl, rfl, SqT.of hp, rfl, rfl, _, rfl, iT tg_aa ?_⟩
      refine ⟨_, rfl, _, _, _, _, rfl, rfl, SqT.of hp, rfl, _, rfl, u, d, a, kvs, by', rfl, hu1, ha, h3, h4, fun H1 v1 s1 g1 => ?_⟩
      refine ⟨_, rfl, _, _, _, _, rfl, rfl, SqT.of (s1 _ _ hp), rfl, _, rfl, z, d, b, kvs, by', rfl, KdAt.tups (same_tups s1) hz1, hb, s1 _ _ h3, ByAt.tups (same_tups s1) h4, fun H2 v2 s2 g2 => ?_⟩
      refine ⟨slz rfl, fun q hq => ?_⟩
      have s3 : Same H2 (upd H2 q (.tup [.str "apply", v1, v2])) := same_new hq
      exact k _ _ ((s1.trans s2).trans s3) ⟨q, v1, v2, rfl, upd_same, KdAt.tups (same_tups (s2.trans s3)) g1, KdAt.tups (same_tups s3) g2⟩
    | var x =>
      obtain ⟨p, rfl, hp⟩ := id h1
      refine ⟨_, rfl, _, _, _, _, rfl, rfl, SqT.of hp, rfl, rfl, _, rfl, iF tg_va ?_⟩
      refine ⟨_, rfl, _, _, _, _, rfl, rfl, SqT.of hp, rfl, rfl, _, rfl, iT tg_vv ?_⟩
      refine ⟨_, rfl, d, rfl, .inl ⟨_, .inl h3⟩, _, rfl, _, _, _, _, rfl, rfl, SqT.of hp, rfl, _, rfl, _, DGet.k (k := .inr x) h3, ?_⟩
      rcases h4.get x with ⟨e1, e2⟩ | ⟨v, kd, e1, e2, g⟩
      · rw [e1]
        refine k _ _ (Same.refl _) ?_
        show KdAt H (.ref p) ((lk by' x).getD (.var x))
        rw [e2]
        exact h1
      · rw [e1]
        refine k _ _ (Same.refl _) ?_
        show KdAt H v ((lk by' x).getD (.var x))
        rw [e2]
        exact g
    | con x =>
      obtain ⟨p, rfl, hp⟩ := id h1
      refine ⟨_, rfl, _, _, _, _, rfl, rfl, SqT.of hp, rfl, rfl, _, rfl, iF tg_ca ?_⟩
      refine ⟨_, rfl, _, _, _, _, rfl, rfl, SqT.of hp, rfl, rfl, _, rfl, iF tg_cv ?_⟩
      exact ⟨_, rfl, k _ _ (Same.refl _) h1⟩
theorem ok_put {f : Addr} {fd : FuncData} (F : Fun K "_law_put" "_law_put" s__law_put f fd) (hm : mg "_law_put" = some (.ref f)) : ∀ n, FnOk P w K mg base CX0 (n + 1) f fd ["_law_kind", "_law_by"] (spPut K n)
  | 0 => ok_put_step F ⟨f, fd, fn_false, hm, F.kp, F.binds fun _ _ _ _ _ _ us hl => match us, hl with | [_, _], _ => rfl⟩
  | n + 1 => ok_put_step F ⟨f, fd, ok_put F hm n, hm, F.kp, F.binds fun _ _ _ _ _ _ us hl => match us, hl with | [_, _], _ => rfl⟩
end
end L3

namespace L3
open PySem L2
/-! ### variables in order -/
def addV (fs : List Str) (x : Str) : List Str := if x ∈ fs then fs else fs ++ [x]
def Kd.vs : Kd → List Str → List Str
  | .var x, fs => addV fs x
  | .con _, fs => fs
  | .app a b, fs => b.vs (a.vs fs)
def vsL : List Kd → List Str → List Str
  | [], fs => fs
  | k :: r, fs => vsL r (k.vs fs)
def Kd.size : Kd → Nat
  | .var _ => 1
  | .con _ => 1
  | .app a b => a.size + b.size + 1
def sizeL : List Kd → Nat
  | [] => 0
  | k :: r => k.size + sizeL r
theorem Kd.size_pos (k : Kd) : 0 < k.size := by cases k <;> simp [Kd.size]
theorem eqV_str (x y : Str) : eqV (.str y) (.str x) = decide (y = x) := str_beq y x
theorem inV_words (x : Str) : ∀ fs : List Str, inV (.str x) (fs.map V.str) = decide (x ∈ fs)
  | [] => rfl
  | y :: r => by
    have ih := inV_words x r
    unfold inV at ih ⊢
    rw [List.map_cons, List.any_cons, ih, eqV_str]
    by_cases h : y = x
    · subst h
      simp
    · have h2 : ¬ x = y := fun e => h e.symm
      simp [h, h2]
theorem flat_words : ∀ fs : List Str, (fs.map V.str).all flatV = true
  | [] => rfl
  | _ :: r => by
    rw [List.map_cons, List.all_cons, flat_words r]
    rfl
/-- the last of a row -/
theorem paired_last {α β : Type} {F : α → β → Prop} : ∀ {xs : List α} {ys : List β} {y : β}, Paired F xs (ys ++ [y]) → ∃ xs0 x, xs = xs0 ++ [x] ∧ Paired F xs0 ys ∧ F x y
  | [], [], _, h => nomatch h
  | [], _ :: _, _, h => nomatch h
  | x :: xs, [], y, .cons r t => by
    cases t
    exact ⟨[], x, rfl, .nil, r⟩
  | x :: xs, z :: ys, y, .cons r t => by
    obtain ⟨xs0, w, e, h1, h2⟩ := paired_last (ys := ys) t
    exact ⟨x :: xs0, w, by rw [e]; rfl, .cons r h1, h2⟩
theorem paired_snoc {α β : Type} {F : α → β → Prop} {xs : List α} {ys : List β} {x : α} {y : β} (h : Paired F xs ys) (r : F x y) : Paired F (xs ++ [x]) (ys ++ [y]) := Paired.snoc h r
theorem paired_rev {α β : Type} {F : α → β → Prop} : ∀ {xs : List α} {ys : List β}, Paired F xs ys → Paired F xs.reverse ys.reverse
  | _, _, .nil => .nil
  | _, _, .cons r t => by
    rw [List.reverse_cons, List.reverse_cons]
    exact Paired.snoc (paired_rev t) r
theorem kds_snoc : ∀ ks : List Kd, ks ≠ [] → ∃ ks0 k, ks = ks0 ++ [k] := fun ks h => ⟨ks.dropLast, ks.getLast h, (List.dropLast_concat_getLast h).symm⟩
theorem shaped_kds {ks : List Kd} (h : ∀ k ∈ ks, k.fit 60) : SeqAt.shaped (.list (ks.map Kd.dat)) = true := by
  have key : ∀ ks : List Kd, (∀ k ∈ ks, k.fit 60) → PyData.canLayAll0 (ks.map Kd.dat) = true ∧ PyData.depthAll (ks.map Kd.dat) ≤ 61 := by
    intro ks
    induction ks with
    | nil => intro _; exact ⟨by simp [PyData.canLayAll0], by simp [PyData.depthAll]⟩
    | cons k r ih =>
      intro h
      obtain ⟨h1, h2⟩ := ih fun y hy => h y (List.mem_cons_of_mem _ hy)
      obtain ⟨h3, h4⟩ := Kd.lay (h k List.mem_cons_self)
      refine ⟨by simp only [List.map_cons, PyData.canLayAll0, h3, h1, Bool.true_and], ?_⟩
      simp only [List.map_cons, PyData.depthAll]
      omega
  obtain ⟨h1, h2⟩ := key ks h
  unfold SeqAt.shaped
  simp only [PyData.canLay0, h1, PyData.depth, Bool.true_and]
  exact decide_eq_true (by omega)
theorem kds_ne {ks : List Kd} : (!PyData.eqv (.list (ks.map Kd.dat)) (.list [])) = !ks.isEmpty := by
  rw [eqv_ll]
  cases ks with
  | nil => rw [List.map_nil, eqv_nn]; rfl
  | cons x r => rw [List.map_cons, eqv_cn]; rfl
/-! ### matching -/
def Kd.mt : Kd → Kd → By → Bool × By
  | .var x, k, b => match lk b x with
    | some k' => (decide (k' = k), b)
    | none => (true, b ++ [(x, k)])
  | .con x, k, b => (decide (Kd.con x = k), b)
  | .app a c, .app d e, b => if (a.mt d b).1 = true then c.mt e (a.mt d b).2 else (false, (a.mt d b).2)
  | .app _ _, .var _, b => (false, b)
  | .app _ _, .con _, b => (false, b)
def mtL : List Kd → List Kd → By → Option By
  | p :: ps, k :: ks, b => if (p.mt k b).1 = true then mtL ps ks (p.mt k b).2 else none
  | _, _, b => some b
def mtP : List (Kd × Kd) → By → Option By
  | [], b => some b
  | (p, k) :: r, b => if (p.mt k b).1 = true then mtP r (p.mt k b).2 else none
theorem mtP_zip : ∀ (ps ks : List Kd) (b : By), mtP (ps.zip ks) b = mtL ps ks b
  | [], _, _ => rfl
  | _ :: _, [], _ => rfl
  | p :: ps, k :: ks, b => by
    show (if (p.mt k b).1 = true then mtP (ps.zip ks) (p.mt k b).2 else none) = if (p.mt k b).1 = true then mtL ps ks (p.mt k b).2 else none
    rw [mtP_zip ps ks]
theorem mtP_app (a c d e : Kd) (r : List (Kd × Kd)) (b : By) : mtP ((.app a c, .app d e) :: r) b = mtP ((a, d) :: (c, e) :: r) b := by
  show (if ((Kd.app a c).mt (.app d e) b).1 = true then mtP r ((Kd.app a c).mt (.app d e) b).2 else none) = if (a.mt d b).1 = true then (if (c.mt e (a.mt d b).2).1 = true then mtP r (c.mt e (a.mt d b).2).2 else none) else none
  by_cases h : (a.mt d b).1 = true
  · have q : (Kd.app a c).mt (.app d e) b = c.mt e (a.mt d b).2 := by simp only [Kd.mt, if_pos h]
    rw [if_pos h, q]
  · have q : (Kd.app a c).mt (.app d e) b = (false, (a.mt d b).2) := by simp only [Kd.mt, if_neg h]
    rw [if_neg h, q]
    rfl
theorem lk_snoc {b : By} {x : Str} {k : Kd} (h : lk b x = none) (y : Str) : lk (b ++ [(x, k)]) y = if y = x then some k else lk b y := by
  induction b with
  | nil =>
    by_cases e : x = y
    · rw [if_pos e.symm]
      exact lk_pos e
    · rw [if_neg (fun z => e z.symm)]
      exact lk_neg e
  | cons p r ih =>
    have hk : ¬ p.1 = x := fun z => by rw [lk_pos z] at h; cases h
    rw [lk_neg hk] at h
    rw [List.cons_append]
    by_cases e : p.1 = y
    · rw [lk_pos e, lk_pos e, if_neg (fun z => hk (e.trans z))]
    · rw [lk_neg e, lk_neg e, ih h]
theorem lk_mem {b : By} {x : Str} {k : Kd} (h : lk b x = some k) : (x, k) ∈ b := by
  induction b with
  | nil => cases h
  | cons p r ih =>
    by_cases e : p.1 = x
    · rw [lk_pos e] at h
      have : p = (x, k) := by
        obtain ⟨p1, p2⟩ := p
        have e' : p1 = x := e
        have h' : p2 = k := Option.some.inj h
        rw [e', h']
      rw [this]
      exact List.mem_cons_self
    · rw [lk_neg e] at h
      exact List.mem_cons_of_mem _ (ih h)
/-- what matching adds -/
theorem Kd.mt_grow {m : Nat} : ∀ (p k : Kd) (b : By), k.fit m → (∀ q ∈ b, q.2.fit m) → (p.mt k b).2.length ≤ b.length + p.size ∧ ∀ q ∈ (p.mt k b).2, q.2.fit m
  | .var x, k, b, hk, hb => by
    simp only [Kd.mt]
    cases e : lk b x with
    | some k' => exact ⟨Nat.le_add_right _ _, hb⟩
    | none =>
      refine ⟨by simp [Kd.size], fun q hq => ?_⟩
      rcases List.mem_append.mp hq with h | h
      · exact hb q h
      · rw [List.mem_singleton.mp h]
        exact hk
  | .con x, k, b, hk, hb => ⟨Nat.le_add_right _ _, hb⟩
  | .app a c, .app d e, b, hk, hb => by
    obtain ⟨j, rfl, h1, h2⟩ := Kd.fit_app hk
    have h1' := Kd.fit_mono (Nat.le_succ j) h1
    have h2' := Kd.fit_mono (Nat.le_succ j) h2
    obtain ⟨g1, g2⟩ := Kd.mt_grow a d b h1' hb
    obtain ⟨g3, g4⟩ := Kd.mt_grow c e (a.mt d b).2 h2' g2
    simp only [Kd.mt]
    by_cases h : (a.mt d b).1 = true
    · rw [if_pos h]
      refine ⟨?_, g4⟩
      simp only [Kd.size]
      omega
    · rw [if_neg h]
      refine ⟨?_, g2⟩
      simp only [Kd.size]
      omega
  | .app _ _, .var _, b, _, hb => ⟨Nat.le_add_right _ _, hb⟩
  | .app _ _, .con _, b, _, hb => ⟨Nat.le_add_right _ _, hb⟩
/-- the names, as the variables come -/
def names (b : By) : List Str := b.map (·.1)
theorem lk_names (b : By) (x : Str) : (lk b x).isSome = decide (x ∈ names b) := by
  induction b with
  | nil => rfl
  | cons p r ih =>
    by_cases e : p.1 = x
    · rw [lk_pos e]
      simp [names, e]
    · rw [lk_neg e, ih]
      have e' : ¬ x = p.1 := fun z => e z.symm
      have q : names (p :: r) = p.1 :: names r := rfl
      rw [q]
      simp [e']
theorem Kd.mt_names : ∀ (p k : Kd) (b : By), (p.mt k b).1 = true → names (p.mt k b).2 = p.vs (names b)
  | .var x, k, b, h => by
    have hn := lk_names b x
    simp only [Kd.mt, Kd.vs, addV] at h ⊢
    cases e : lk b x with
    | some k' =>
      rw [e] at hn
      have : x ∈ names b := of_decide_eq_true hn.symm
      simp only [this, if_true]
    | none =>
      rw [e] at hn
      have : ¬ x ∈ names b := of_decide_eq_false hn.symm
      rw [if_neg this]
      simp [names]
  | .con x, k, b, _ => rfl
  | .app a c, .app d e, b, h => by
    simp only [Kd.mt, Kd.vs] at h ⊢
    by_cases h1 : (a.mt d b).1 = true
    · rw [if_pos h1] at h ⊢
      rw [Kd.mt_names c e _ h, Kd.mt_names a d b h1]
    · rw [if_neg h1] at h
      cases h
  | .app _ _, .var _, b, h => by simp [Kd.mt] at h
  | .app _ _, .con _, b, h => by simp [Kd.mt] at h
theorem mtL_names : ∀ (ps ks : List Kd) (b c : By), ps.length = ks.length → mtL ps ks b = some c → names c = vsL ps (names b)
  | [], [], b, c, _, h => by cases h; rfl
  | [], _ :: _, _, _, h, _ => by cases h
  | _ :: _, [], _, _, h, _ => by cases h
  | p :: ps, k :: ks, b, c, hl, h => by
    simp only [mtL] at h
    by_cases h1 : (p.mt k b).1 = true
    · rw [if_pos h1] at h
      rw [mtL_names ps ks _ c (Nat.succ.inj hl) h, Kd.mt_names p k b h1]
      rfl
    · rw [if_neg h1] at h
      cases h
end L3

/-! repr of nested data; a law's own run, where nothing else is being shown -/
namespace L3
open PySem PySem.Spec PyProof.Rows L2
section
variable {X : Cx}
/-- repr of a list or tuple of nested data -/
def rRepr (K : PySem.W.Frag) : List V → Hp → VK → Prop := fun xs H Q => ∃ (a : Addr) (d : PyData), xs = [.ref a] ∧ Dp K H (.ref a) d ∧ d.showable = true ∧ d.hasDict = false ∧ d.depth ≤ 60 ∧ d.shown.length ≤ sizeLine ∧ Q (.str d.shown) H
theorem call_reprD (hg : X.A.guards = some []) (hu : X.A.units + 64 < cLine) : CallR X (.builtin "repr") (rRepr X.K) := by
  intro pins s σ H xs us Q I r h
  obtain ⟨a, d, rfl, hd, hs, hn, hdep, hsz, q⟩ := h
  obtain ⟨u, rfl, rx⟩ := vals1 r
  obtain rfl : u = Value.ref a := rx
  obtain ⟨as, hr⟩ := Dp.reads I d _ _ hd (show RelV (.ref a) (.ref a) from rfl)
  exact repr_of_reads' hr hs (fun z => by rw [hn] at z; cases z) hg (by omega) (fun _ _ e => e) (fun h' u tk hk => ⟨.str d.shown, H, I.kept (t' := tk) hk, ⟨u, rfl⟩, q⟩) hsz
end
/-- the law's own def, called by nobody -/
def LawRun (P : Program) (w : World) (K : PySem.W.Frag) (mg : Str → Option Value) (base : Heap) (f : Addr) (fd : FuncData) (x : Str) (sp : List V → Hp → VK → Prop) : Prop :=
  ∀ (s : Shared) (H : Hp) (args : Args) (u : Value) (v : V) (Q : VK), Env0 P w K mg base callerA [] s H → BindsTo s fd args [(x, u)] → RelV v u → sp [v] H Q → codeAny (model P w) callerA (.call (.ref f) args) (CR CX0 [] P w H s Q E0) s
section
variable {P : Program} {w : World} {K : PySem.W.Frag} {mg : Str → Option Value} {base : Heap}
theorem lawRun_of {st : Stmt} {f : Addr} {fd : FuncData} {N : List Str} {k : Nat} {x : Str} {sp : List V → Hp → VK → Prop} (F : Fun K "law" "law" st f fd) (S : FnScope N [x] (defScope st)) (hroom : Room (k + 1) callerA)
    (hbody : ∀ (cdv : Value) (s : Shared) (H : Hp) (v : V) (Q : VK), Room k (callerA.deeper (envOfC "law" (defScope st) s.heap.objs.size f cdv)) → sp [v] H Q →
      ∃ t, PSs (cxOf CX0 P w K mg base N "law" (defScope st) f cdv callerA [] s H E0).nox (defBody st) t ∧ t { nx := fun _ H' => Q .non H', rt := Q } (start N [v]) H) : LawRun P w K mg base f fd x sp := by
  obtain ⟨oc, od, kV, doc, pm, an, cdv, ct, osl, rfl, lk, hcd⟩ := F.ex
  intro s H args u v Q e0 hb rv hsp
  have inK : K.In s.heap := e0.mod.kin.keeps fun b o z => (e0.bs b o z).1
  have noL : s.heap.NoLimit := e0.mod.nolimit.keeps fun b o z => (e0.bs b o z).1
  have kinds : ∀ y ∈ ([x].zip [u] : List (Str × Value)), (defScope st).names.lookup y.1 = some .local ∨ ((defScope st).names.lookup y.1 = some .cell ∧ ((cellsFrom (s.heap.objs.size + 1) (defScope st).names []).lookup y.1).isSome = true) := by
    rintro ⟨n, z⟩ hy
    rcases S.par n (List.of_mem_zip hy).1 with q | q
    · exact Or.inl q
    · exact Or.inr ⟨q, PySem.W.cellsFrom_some _ _ _ (Or.inl q)⟩
  refine codeAny_call_function (Room.depth hroom) (inK _ _ lk) rfl S.co S.gen rfl (PySem.W.codeRec_of inK hcd) (hb _ _ _ _ ?_)
  refine wpAny_newFunctionEnv_cells S.kind kinds fun env he s1 xx => ?_
  subst he
  refine ⟨noL.keeps xx.toInCall.keep, codeAny_func ?_⟩
  obtain ⟨t, ht, hq⟩ := hbody cdv s H v Q (Room.deeper hroom _) hsp
  have J : Inv (cxOf CX0 P w K mg base N "law" (defScope st) f cdv callerA [] s H E0) [] (start N [v]) H s1 := inv_start S rfl e0 rfl (Paired.cons rv .nil) xx
  refine wpAny_mono ((PSs.nox ht).run [] s1 (start N [v]) H _ J hq) (fun fl s' hs => ?_) (fun e s' hs => hs)
  cases fl with
  | next =>
    obtain ⟨σ', H', J', q⟩ := hs
    exact ⟨V.non, H', J'.os, J'.bare, J'.base, J'.hok, rfl, q⟩
  | ret z =>
    obtain ⟨v', σ', H', J', rz, q⟩ := hs
    exact ⟨v', H', J'.os, J'.bare, J'.base, J'.hok, rz, q⟩
  | brk =>
    obtain ⟨_, _, _, q⟩ := hs
    exact q.elim
  | cont =>
    obtain ⟨_, _, _, q⟩ := hs
    exact q.elim
end
section
variable {P : Program} {w : World} {K : PySem.W.Frag} {mg mb : Str → Option Value} {fa a : Addr} {fd : FuncData} {x : Str} {sp : List V → Hp → VK → Prop} {s1 : Shared} {vs : List Value} {ns : List Int}
/-- what the law's call has to come to -/
abbrev LawEnd (s1 : Shared) (r : Result) (s' : Shared) : Prop := r = .ok (.ret (.bool true)) ∧ OldK s1.heap s'.heap ∧ s'.os = s1.os ∧ AllBare s'.gens
theorem law_core (inK : K.In s1.heap) (gl : s1.heap.Ns mainGlobals mg) (bi : s1.heap.Ns builtinsNs mb) (bb : ∀ y : Str, y ≠ "__name__" → mb y = bootBuiltins y) (nl : s1.heap.NoLimit) (ng : s1.gens = #[])
    (ob : s1.heap.get? a = some { cls := .type "list", data := .seq vs.toArray }) (run : ∀ base : Heap, K.In base → base.Ns mainGlobals mg → LawRun P w K mg base fa fd x sp)
    (bind : ∀ (s : Shared) (u : Value), BindsTo s fd ⟨[u], []⟩ [(x, u)]) (want : ∀ H : Hp, Only H → SqL K H a (ns.map V.int) → sp [.ref a] H (fun v _ => v = .bl true))
    (H : Hp) (hO : Only H) (hS : SqL K H a (ns.map V.int)) (ok : HOk P w H s1.heap) (alone : ∀ b, H b ≠ none → b = a) (off : H a ≠ none → K.lookup a = none) :
    codeAny (model P w) callerA (.call (.ref fa) ⟨[.ref a], []⟩) (LawEnd s1) s1 := by
  -- a thing that is tracked is the script
  have isA : ∀ {b : Addr} {u : HO}, H b = some u → b = a := fun {b u} q => alone b (by rw [q]; simp)
  have hid : ∀ {b : Addr} {o : Obj}, s1.heap.get? b = some o → H b = none → (hidT s1.heap H).get? b = some o := fun z n => hidT_get z n
  have dictFree : ∀ {b : Addr} {o : Obj} {es : Array DictEntry} {ep : Nat}, s1.heap.get? b = some o → o.data = .dict es ep → H b = none := by
    intro b o es ep z dd
    cases q : H b with
    | none => rfl
    | some u =>
      have e' := isA q
      subst e'
      rw [ob] at z
      cases z
      have dd' : Data.seq vs.toArray _ = Data.dict es ep := dd
      cases dd'
  have nsH : ∀ {b : Addr} {m : Str → Option Value}, s1.heap.Ns b m → (hidT s1.heap H).Ns b m := by
    rintro b m ⟨o, es, ep, z, dd, r⟩
    exact ⟨o, es, ep, hid z (dictFree z dd), dd, r⟩
  have inH : K.In (hidT s1.heap H) := by
    intro b o z
    refine hid (inK b o z) ?_
    cases q : H b with
    | none => rfl
    | some u =>
      have e' := isA q
      subst e'
      rw [off (by rw [q]; simp)] at z
      cases z
  have md : Mod K mg (hidT s1.heap H) := by
    obtain ⟨mc, z1, z2⟩ := nl
    exact ⟨inH, nsH gl, ⟨mb, nsH bi, bb⟩, ⟨mc, nsH z1, z2⟩⟩
  have e0 : Env0 P w K mg (hidT s1.heap H) callerA [] s1 H := by
    refine ⟨rfl, md, fun b o z => of_hidT z, Nat.le_of_eq (hidT_size _ _), trivial, ?_, ok, .of_eq ng⟩
    intro b hb
    exact nomatch (show b ∈ ([] : List Addr) from hb)
  refine codeAny_mono (run _ inH (nsH gl) s1 H ⟨[.ref a], []⟩ (.ref a) (.ref a) _ e0 (bind s1 (.ref a)) rfl (want H hO hS)) fun r s' h => ?_
  cases r with
  | error e => exact h.elim
  | ok fl =>
    cases fl with
    | next => exact h.elim
    | brk => exact h.elim
    | cont => exact h.elim
    | ret u =>
      obtain ⟨v, H', os, bare, un, ok', r', q⟩ := h
      obtain rfl : v = .bl true := q
      obtain rfl : u = Value.bool true := r'
      refine ⟨rfl, OldK.of_keep fun b o z => ?_, os, bare⟩
      cases q : H b with
      | none => exact un.keep b o z q (fun y => nomatch (show b ∈ ([] : List Addr) from y)) (fun y => nomatch y)
      | some u =>
        rcases hO b with y | ⟨o2, xs, y⟩
        · rw [q] at y
          cases y
        · obtain ⟨z1, _⟩ := ok b _ y
          obtain ⟨z2, _⟩ := ok' b _ (un.frzs b o2 _ y)
          rw [z] at z1
          cases z1
          exact z2
theorem law_callG (inK : K.In s1.heap) (gl : s1.heap.Ns mainGlobals mg) (bi : s1.heap.Ns builtinsNs mb) (bb : ∀ y : Str, y ≠ "__name__" → mb y = bootBuiltins y) (nl : s1.heap.NoLimit) (ng : s1.gens = #[])
    (ob : s1.heap.get? a = some { cls := .type "list", data := .seq vs.toArray }) (hi : IntsAre vs ns) (hl : ns.length ≤ sizeLine) (run : ∀ base : Heap, K.In base → base.Ns mainGlobals mg → LawRun P w K mg base fa fd x sp)
    (bind : ∀ (s : Shared) (u : Value), BindsTo s fd ⟨[u], []⟩ [(x, u)]) (want : ∀ H : Hp, Only H → SqL K H a (ns.map V.int) → sp [.ref a] H (fun v _ => v = .bl true)) :
    codeAny (model P w) callerA (.call (.ref fa) ⟨[.ref a], []⟩) (LawEnd s1) s1 := by
  have rv := vals_ints hi
  cases hk : K.lookup a with
  | some o =>
    have z := inK a o hk
    rw [ob] at z
    cases z
    have hS : SqL K (fun _ => none) a (ns.map V.int) := Or.inr ⟨_, vs.toArray, _, hk, rfl, rfl, rfl, by rw [List.size_toArray, hi.length]; exact hl, by simpa using rv⟩
    exact law_core inK gl bi bb nl ng ob run bind want (fun _ => none) (fun _ => .inl rfl) hS (fun _ _ z => nomatch (show (none : Option HO) = some _ from z)) (fun _ z => (z rfl).elim) (fun z => (z rfl).elim)
  | none =>
    let fz : HO := .frz { cls := .type "list", data := .seq vs.toArray } (.lst (ns.map V.int))
    have at1 : upd (fun _ => none) a fz a = some fz := upd_same
    refine law_core inK gl bi bb nl ng ob run bind want (upd (fun _ => none) a fz) (fun b => ?_) (.inl (.inr ⟨_, at1⟩)) (fun b u z => ?_) (fun b z => ?_) fun _ => hk
    · by_cases hb : b = a
      · rw [hb, at1]
        exact .inr ⟨_, _, rfl⟩
      · exact .inl (upd_ne hb)
    · by_cases hb : b = a
      · subst hb
        rw [at1] at z
        cases z
        exact ⟨ob, by rw [List.length_map]; exact hl, vs, _, rv, ob⟩
      · rw [upd_ne hb] at z
        cases z
    · by_cases hb : b = a
      · exact hb
      · exact (z (upd_ne hb)).elim
end
/-- the end of a law whose own def is run by LawRun -/
theorem walkG {l : PySem.W.OpenLaw} {n : Nat} {q : Program} {loose : List Str} {XP : (Str → Option Value) → Heap → Prop} {YP : World → Heap → Prop} {d : DefRec} {K : Params → PySem.W.Frag} {sp : PySem.W.Frag → List V → Hp → VK → Prop} {x : Str}
    (hn : l.most = some n) (hn2 : n ≤ sizeLine) (hdf : d.params.defaults = []) (hY : ∀ (w : World) (h : Heap), YP w h → (K w.params).In h)
    (F : ∀ (w : World) (mg : Str → Option Value) (fa : Addr) (h : Heap), (K w.params).In h → h.Ns mainGlobals mg → mg d.name = some (.ref fa) →
      ∃ fd : FuncData, (∀ (s : Shared) (u : Value), BindsTo s fd ⟨[u], []⟩ [(x, u)]) ∧ ∀ base : Heap, (K w.params).In base → base.Ns mainGlobals mg → LawRun l.prog w (K w.params) mg base fa fd x (sp (K w.params)))
    (want : ∀ (K : PySem.W.Frag) (H : Hp) (a : Addr) (ns : List Int), ns.length ≤ n → SqL K H a (ns.map V.int) → sp K [.ref a] H (fun v _ => v = .bl true)) : PySem.W.WalkO q loose XP YP l.row.toRowW d [] (fun f vs => PySem.call f vs) := by
  refine Att.attach_call hn hdf ?_
  intro w s0 s1 mg mb fa o pm cd doc a vs ns G Y ho hd hcd hmg hobj hints hlen hg
  obtain ⟨fd, hb, run⟩ := F w mg fa _ (hY w _ Y) G.T.g hmg
  exact law_callG (hY w _ Y) G.T.g G.T.b G.T.builtins G.T.nolimit hg hobj hints (Nat.le_trans hlen hn2) run hb (fun H _ hS => want _ H a ns hlen hS)
end L3

/-! list(zip(a, b)) over two lists or two tuples of one length -/
namespace L3
open PySem PySem.Spec PyProof.Rows L2
section
variable {prog : Program} {w : World} {A : Around} {E : Value → Shared → Prop} {s : Shared} {z TI TO T i1 i2 l1 l2 : Addr} {f : Bool} {oT : Obj} {xs ys : Array Value}
/-- a zip of tuples whose last pair is still out gives the next pair -/
theorem zt_item {k1 k2 : Nat} {x y : Value} {Q : Option Value → Shared → Prop} (D : ZipApart z TI TO i1 i2 l1 l2) (hz : IsZipHeld s.heap z TI TO T f) (hT : s.heap.get? T = some oT) (hTI : IsPair s.heap TI (.ref i1) (.ref i2))
    (a1 : s.heap.IsTupleIter i1 l1 k1) (a2 : s.heap.IsTupleIter i2 l2 k2) (t1 : s.heap.IsTuple l1 xs) (t2 : s.heap.IsTuple l2 ys) (ex : xs[k1]? = some x) (ey : ys[k2]? = some y)
    (q : ∀ h', IsZipHeld h' z TI TO T true → h'.IsTupleIter i1 l1 (k1 + 1) → h'.IsTupleIter i2 l2 (k2 + 1) → IsPair h' s.heap.objs.size x y → h'.objs.size = s.heap.objs.size + 1 →
      (∀ b o, b ≠ z → b ≠ i1 → b ≠ i2 → s.heap.get? b = some o → h'.get? b = some o) → Q (some (.ref s.heap.objs.size)) { s with heap := h' }) : wpAny (model prog w) A (pyNext (.ref z)) Q E s := by
  have isZip : s.TypeIs (.ref z) "zip" := ⟨_, hz, rfl⟩
  have body : ∀ (A' : Around) (E' : Value → Shared → Prop), wpAny (model prog w) A' (Builtin.«zip.__next__» ⟨[.ref z], []⟩) (fun fin s' => ∃ v, fin = .done (.ret v) ∧ Q (some v) s') E' s := by
    intro A' E'
    show wpAny _ _ (field (.ref z) 2 >>= _) _ _ s
    refine wpAny_bind (wpAny_field (i := 2) hz rfl rfl ?_)
    show wpAny _ _ (field (.ref z) 3 >>= _) _ _ s
    refine wpAny_bind (wpAny_field (i := 3) hz rfl rfl (wpAny_bind (wpAny_seqItems hTI rfl ?_)))
    refine wpAny_bind (wpAny_tupleHeld_zip hz hT fun ha hza hsa => ?_)
    rw [if_neg Bool.false_ne_true]
    refine wpAny_bind ?_
    rw [← Array.forIn_toList]
    simp only [List.forIn_nil, List.forIn_cons]
    refine wpAny_bind (wpAny_bind (wpAny_holding (wpAny_bind (RZ.nextOf_tuple_item (a1.extBut hsa.extBut D.i1z) (t1.extBut hsa.extBut D.l1z) ex fun hb b1 hsb => wpAny_pure (wpAny_pure ?_)))))
    refine wpAny_bind (wpAny_bind (wpAny_holding (wpAny_bind (RZ.nextOf_tuple_item ((a2.extBut hsa.extBut D.i2z).extBut hsb.extBut D.i12.symm) ((t2.extBut hsa.extBut D.l2z).extBut hsb.extBut D.l2i1) ey fun hc c2 hsc => wpAny_pure (wpAny_pure ?_)))))
    refine wpAny_pure ?_
    show wpAny _ _ (newTuple [x, y] >>= _) _ _ _
    refine wpAny_bind (wpAny_newTuple ?_)
    have size3 : hc.objs.size = s.heap.objs.size := (hsc.1.trans hsb.1).trans hsa.1
    have stays : ∀ b o, b ≠ z → b ≠ i1 → b ≠ i2 → s.heap.get? b = some o → hc.get? b = some o := fun b o n1 n2 n3 e => hsc.extBut b o n3 (hsb.extBut b o n2 (hsa.extBut b o n1 e))
    have pz : IsZipHeld hc z TI TO T true := hsc.extBut z _ D.i2z.symm (hsb.extBut z _ D.i1z.symm hza)
    refine wpAny_pure ⟨_, rfl, ?_⟩
    have fresh : IsPair (hc.push { cls := .type "tuple", data := .seq #[x, y] }) hc.objs.size x y := Heap.get?_push_size _ rfl
    have one : (hc.push { cls := .type "tuple", data := .seq #[x, y] }).objs.size = hc.objs.size + 1 := Heap.size_push ..
    show Q (some (.ref hc.objs.size)) _
    rw [size3] at fresh one ⊢
    exact q _ (Heap.get?_push_of_some _ pz) ((b1.extBut hsc.extBut D.i12).at fun o e => Heap.get?_push_of_some _ e) (c2.at fun o e => Heap.get?_push_of_some _ e) fresh one fun b o n1 n2 n3 e => Heap.get?_push_of_some _ (stays b o n1 n2 n3 e)
  unfold pyNext
  refine wpAny_bind (wpAny_attempt (wpAny_callSpecial?_slot (name := Str.ofString "__next__") isZip F.slot_zip_next (wpAny_call_entry F.slot_zip_next isZip F.entry_zip_next ?_ (F.args_zip_next_1 _))))
  exact wpAny_mono (body _ _) (fun fin s' ⟨v, e, h⟩ => ⟨v, e, wpAny_pure h⟩) fun _ _ h => h
theorem zt_end {k1 : Nat} {Q : Option Value → Shared → Prop} (hh : A.handled = none) (D : ZipApart z TI TO i1 i2 l1 l2) (hz : IsZipHeld s.heap z TI TO T f) (hT : s.heap.get? T = some oT) (hTI : IsPair s.heap TI (.ref i1) (.ref i2))
    (a1 : s.heap.IsTupleIter i1 l1 k1) (t1 : s.heap.IsTuple l1 xs) (ex : xs[k1]? = none)
    (q : ∀ h', (∀ b o, b ≠ z → b ≠ i1 → b ≠ i2 → s.heap.get? b = some o → h'.get? b = some o) → Q none { s with heap := h' }) : wpAny (model prog w) A (pyNext (.ref z)) Q E s := by
  have isZip : s.TypeIs (.ref z) "zip" := ⟨_, hz, rfl⟩
  unfold pyNext
  refine wpAny_bind (wpAny_attempt (wpAny_callSpecial?_slot (name := Str.ofString "__next__") isZip F.slot_zip_next (wpAny_call_entry F.slot_zip_next isZip F.entry_zip_next ?_ (F.args_zip_next_1 _))))
  show wpAny _ _ (field (.ref z) 2 >>= _) _ _ s
  refine wpAny_bind (wpAny_field (i := 2) hz rfl rfl ?_)
  show wpAny _ _ (field (.ref z) 3 >>= _) _ _ s
  refine wpAny_bind (wpAny_field (i := 3) hz rfl rfl (wpAny_bind (wpAny_seqItems hTI rfl ?_)))
  refine wpAny_bind (wpAny_tupleHeld_zip hz hT fun ha hza hsa => ?_)
  rw [if_neg Bool.false_ne_true]
  refine wpAny_bind ?_
  rw [← Array.forIn_toList]
  simp only [List.forIn_nil, List.forIn_cons]
  refine wpAny_bind (wpAny_bind (wpAny_holding (wpAny_bind (RZ.nextOf_tuple_end (s := { s with heap := ha }) hh (a1.extBut hsa.extBut D.i1z) (t1.extBut hsa.extBut D.l1z) ex fun hb e hsb he => ?_))))
  obtain ⟨o, ho, hc⟩ := he
  refine wpAny_bind (wpAny_isInstance (T := "StopIteration") (b := true) ⟨o, ho, hc⟩ isSubtype_stop ?_)
  exact wpAny_pure (q hb fun b o n1 n2 _ e => hsb b o n2 (hsa.extBut b o n1 e))
end
/-! ### a zip as a source of pairs for a list S that is being made -/
structure PSrc (prog : Program) (w : World) (z : Addr) (wr : List Addr) (n : Nat) (pr : Nat → Value × Value) (St : Nat → Addr → Heap → Prop) : Prop where
  type : ∀ i S (s : Shared), St i S s.heap → s.TypeIs (.ref z) "zip"
  self : ∀ (A : Around) (E : Value → Shared → Prop) i S (s : Shared) (Q : Value → Shared → Prop), St i S s.heap → Q (.ref z) s → wpAny (model prog w) A (pyIter (.ref z)) Q E s
  keep : ∀ i S h h', St i S h → (∀ b o, b ≠ S → h.get? b = some o → h'.get? b = some o) → St i S h'
  item : ∀ (A : Around) (E : Value → Shared → Prop) i S (s : Shared) (Q : Option Value → Shared → Prop), i < n → S < s.heap.objs.size → St i S s.heap →
    (∀ h', St (i + 1) S h' → h'.get? s.heap.objs.size = some { cls := .type "tuple", data := .seq #[(pr i).1, (pr i).2] } → h'.objs.size = s.heap.objs.size + 1 → (∀ b o, b ∉ wr → s.heap.get? b = some o → h'.get? b = some o) → Q (some (.ref s.heap.objs.size)) { s with heap := h' }) →
    wpAny (model prog w) A (pyNext (.ref z)) Q E s
  done : ∀ (A : Around) (E : Value → Shared → Prop) S (s : Shared) (Q : Option Value → Shared → Prop), A.handled = none → St n S s.heap → (∀ h', (∀ b o, b ∉ wr → s.heap.get? b = some o → h'.get? b = some o) → Q none { s with heap := h' }) →
    wpAny (model prog w) A (pyNext (.ref z)) Q E s
/-- the pairs that are out -/
structure Outs (pr : Nat → Value × Value) (lo : Addr) (h : Heap) (as : List Addr) : Prop where
  rise : as.Pairwise (· < ·)
  above : ∀ a ∈ as, lo ≤ a
  pairs : ∀ (j : Nat) (a : Addr), as[j]? = some a → h.get? a = some { cls := .type "tuple", data := .seq #[(pr j).1, (pr j).2] }
section
variable {prog : Program} {w : World} {A : Around} {E : Value → Shared → Prop} {s : Shared} {R : Result → Shared → Prop} {z : Addr} {wr : List Addr} {n : Nat} {pr : Nat → Value × Value} {St : Nat → Addr → Heap → Prop}
theorem Outs.lt {lo : Addr} {h : Heap} {as : List Addr} (g : Outs pr lo h as) {a : Addr} (ha : a ∈ as) : a < h.objs.size := by
  obtain ⟨j, hj⟩ := List.mem_iff_getElem?.mp ha
  exact Heap.lt_size (g.pairs j a hj)
theorem zip_loop (W : PSrc prog w z wr n pr St) {S lo : Addr} (hh : A.handled = none) (wlo : ∀ b ∈ wr, b < lo) (Slo : S < lo) (Sw : S ∉ wr) (hn : n ≤ sizeLine) (res : Value) {h0 : Heap}
    (fin : ∀ h' tk acc c as, (∀ b o, b ≠ S → b ∉ wr → h0.get? b = some o → h'.get? b = some o) → h'.get? S = some { cls := .type "list", dict := none, data := .seq acc c, slots := #[] } → as.length = n → Outs pr lo h' as → acc.toList = as.map Value.ref →
      R (.ok (.ret res)) { s with heap := h', toks := tk }) :
    ∀ (m i : Nat) (h : Heap) (tk c : Nat) (acc : Array Value) (as : List Addr), n - i = m → i ≤ n → St i S h → (∀ b o, b ≠ S → b ∉ wr → h0.get? b = some o → h.get? b = some o) → h.get? S = some { cls := .type "list", dict := none, data := .seq acc c, slots := #[] } →
      acc.toList = as.map Value.ref → as.length = i → Outs pr lo h as → lo ≤ h.objs.size → codeAny (model prog w) A (.builtin "list.extend.loop" ⟨[.ref S, .ref z, res], []⟩) R { s with heap := h, toks := tk } := by
  intro m
  induction m with
  | zero =>
    intro i h tk c acc as e1 e2 st kp hS ha hl g hlo
    have ein : i = n := by omega
    subst ein
    refine codeAny_builtin PySem.F.entry_extend_loop ?_
    rw [Around.under_plainId PySem.F.plain_extend_loop _]
    show wpAny _ A.in1 (pyNext (.ref z) >>= _) _ _ _
    refine wpAny_bind (W.done A.in1 _ S { s with heap := h, toks := tk } _ hh st fun h' k => wpAny_pure ?_)
    exact fin h' tk acc c as (fun b o n1 n2 e => k b o n2 (kp b o n1 n2 e)) (k S _ Sw hS) hl ⟨g.rise, g.above, fun j a hj => k a _ (fun q => absurd (wlo a q) (Nat.not_lt.mpr (g.above a (List.mem_of_getElem? hj)))) (g.pairs j a hj)⟩ ha
  | succ m ih =>
    intro i h tk c acc as e1 e2 st kp hS ha hl g hlo
    have lt : i < n := by omega
    have sz : acc.size = i := by rw [← Array.length_toList, ha, List.length_map, hl]
    refine codeAny_builtin PySem.F.entry_extend_loop ?_
    rw [Around.under_plainId PySem.F.plain_extend_loop _]
    show wpAny _ A.in1 (pyNext (.ref z) >>= _) _ _ _
    have Slt : S < h.objs.size := Heap.lt_size hS
    refine wpAny_bind (W.item A.in1 _ i S { s with heap := h, toks := tk } _ lt Slt st fun h' st' tup one k => ?_)
    have hS' : h'.get? S = some { cls := .type "list", dict := none, data := .seq acc c, slots := #[] } := k S _ Sw hS
    have tup' : h'.get? h.objs.size = some { cls := .type "tuple", data := .seq #[(pr i).1, (pr i).2] } := tup
    have one' : h'.objs.size = h.objs.size + 1 := one
    have nS : h.objs.size ≠ S := Nat.ne_of_gt Slt
    have off : ∀ b o, b ≠ S → h'.get? b = some o → (h'.update S (Obj.mapSeq (·.push (Value.ref h.objs.size)))).get? b = some o := fun b o nb e => (Heap.get?_update_other _ _ (Ne.symm nb)).trans e
    show wpAny _ A.in1 (updateSeq S (·.push (Value.ref h.objs.size)) >>= _) _ _ _
    refine wpAny_bind ?_
    refine wpAny_updateSeq hS' rfl (wpAny_pure ⟨plainId_quiet PySem.F.plain_extend_loop _, ?_⟩) (by rw [sz]; omega) (by show (acc.push (Value.ref h.objs.size)).size ≤ sizeLine + 1; rw [Array.size_push, sz]; omega)
    refine ih (i + 1) _ tk _ (acc.push (Value.ref h.objs.size)) (as ++ [h.objs.size]) (by omega) lt (W.keep _ _ _ _ st' off) (fun b o n1 n2 e => off b o n1 (k b o n2 (kp b o n1 n2 e))) (Heap.get?_update_self _ hS' rfl)
      (by rw [Array.toList_push, ha, List.map_append]; rfl) (by rw [List.length_append, hl]; rfl) ⟨?_, ?_, ?_⟩ ?_
    · refine List.pairwise_append.mpr ⟨g.rise, List.pairwise_singleton _ _, ?_⟩
      intro a q b q'
      obtain rfl := List.mem_singleton.mp q'
      exact g.lt q
    · intro a q
      rcases List.mem_append.mp q with q | q
      · exact g.above a q
      · obtain rfl := List.mem_singleton.mp q
        exact hlo
    · intro j b hj
      by_cases jl : j < as.length
      · rw [List.getElem?_append_left jl] at hj
        have ab := g.above b (List.mem_of_getElem? hj)
        exact off b _ (Nat.ne_of_gt (Nat.lt_of_lt_of_le Slo ab)) (k b _ (fun q => absurd (wlo b q) (Nat.not_lt.mpr ab)) (g.pairs j b hj))
      · rw [List.getElem?_append_right (by omega)] at hj
        have j0 : j - as.length = 0 := by
          cases q : j - as.length with
          | zero => rfl
          | succ r => rw [q] at hj; simp at hj
        have ej : j = i := by omega
        rw [j0] at hj
        obtain rfl : h.objs.size = b := Option.some.inj hj
        rw [ej]
        exact off _ _ nS tup'
    · have e : (h'.update S (Obj.mapSeq (·.push (Value.ref h.objs.size)))).get? h.objs.size = _ := off _ _ nS tup'
      exact Nat.le_trans hlo (Nat.le_of_lt (Heap.lt_size e))
theorem nolen_zip : typeLookup (.type "zip") "__len__" = pure none := by rw [typeLookup_type, builtinLookup_eq_fast]; kernel_rfl
theorem nohint_zip : typeLookup (.type "zip") "__length_hint__" = pure none := by rw [typeLookup_type, builtinLookup_eq_fast]; kernel_rfl
/-- the list's end behind the call -/
def ListOut (n : Nat) (pr : Nat → Value × Value) (wr : List Addr) (lo : Addr) (s : Shared) (Q : Value → Shared → Prop) : Prop :=
  ∀ h' tk acc c as, (∀ b o, b ∉ wr → s.heap.get? b = some o → h'.get? b = some o) → h'.get? s.heap.objs.size = some { cls := .type "list", dict := none, data := .seq acc c, slots := #[] } → as.length = n → Outs pr lo h' as → acc.toList = as.map Value.ref →
    Q (.ref s.heap.objs.size) { s with heap := h', toks := tk }
theorem call_list_zip {Q : Value → Shared → Prop} (W : PSrc prog w z wr n pr St) (hh : A.handled = none) (st : ∀ h', (∀ b o, s.heap.get? b = some o → h'.get? b = some o) → St 0 s.heap.objs.size h') (wlt : ∀ b ∈ wr, b < s.heap.objs.size) (zlt : z < s.heap.objs.size) (hn : n ≤ sizeLine)
    (q : ListOut n pr wr (s.heap.objs.size + 1) s Q) : wpAny (model prog w) A (call (.type "list") [.ref z]) Q E s := by
  refine callType_codes (Q₁ := fun obj s' => obj = .ref s.heap.objs.size ∧ s' = { s with heap := s.heap.push { cls := .type "list", data := .seq #[] } }) PySem.F.called_list (PySem.F.typeCall_list_1 _) PySem.F.entry_list_init (code_list_new _ ⟨rfl, rfl⟩) ?_
  rintro obj s' ⟨rfl, rfl⟩
  have at0 : (s.heap.push { cls := .type "list", data := .seq #[] }).get? s.heap.objs.size = some { cls := .type "list", data := .seq #[] } := Heap.get?_push_size _ rfl
  refine ⟨⟨_, at0, rfl⟩, PySem.F.args_list_init_2 _ _, ?_⟩
  show wpAny _ A.in1.in1 (do let old ← Builtin.List.listItems (.ref s.heap.objs.size); Builtin.List.listUpdate (.ref s.heap.objs.size) (fun _ => #[]); letGo old.toList.reverse; Builtin.List.listExtendWith (.ref s.heap.objs.size) (.ref z) .none) _ _ _
  refine wpAny_bind ?_
  unfold Builtin.List.listItems
  refine wpAny_bind (wpAny_seqItems at0 rfl (wpAny_pure ?_))
  show wpAny _ A.in1.in1 (updateSeq s.heap.objs.size (fun _ => #[]) >>= fun _ => letGo (#[] : Array Value).toList.reverse >>= fun _ => Builtin.List.listExtendWith (.ref s.heap.objs.size) (.ref z) .none) _ _ _
  refine wpAny_bind (wpAny_updateSeq at0 rfl (wpAny_bind (wpAny_letGo ?_)))
  have at1 := Heap.get?_update_self (Obj.mapSeq (fun _ => (#[] : Array Value))) at0 rfl
  have k1 : ∀ b o, s.heap.get? b = some o → ((s.heap.push { cls := .type "list", data := .seq #[] }).update s.heap.objs.size (Obj.mapSeq (fun _ => (#[] : Array Value)))).get? b = some o :=
    fun b o e => (Heap.get?_update_other _ _ (Nat.ne_of_gt (Heap.lt_size e))).trans (Heap.get?_push_of_some _ e)
  have st1 := st _ k1
  have zz : (Value.type "zip" == Value.type "list") = false := by decide
  have zt : (Value.type "zip" == Value.type "tuple") = false := by decide
  have nsame : Builtin.List.listSameRef (.ref s.heap.objs.size) (.ref z) = false := by simp [Builtin.List.listSameRef, Nat.ne_of_gt zlt]
  unfold Builtin.List.listExtendWith
  refine wpAny_bind (wpAny_typeOf (W.type 0 _ { s with heap := (s.heap.push { cls := .type "list", data := .seq #[] }).update s.heap.objs.size (Obj.mapSeq (fun _ => (#[] : Array Value))) } st1) ?_)
  simp only [nsame, zz, zt, Bool.or_false, Bool.false_eq_true, if_false]
  refine wpAny_bind (W.self _ _ 0 _ _ _ st1 (wpAny_bind (wpAny_holding ?_)))
  have isz := W.type 0 _ { s with heap := (s.heap.push { cls := .type "list", data := .seq #[] }).update s.heap.objs.size (Obj.mapSeq (fun _ => (#[] : Array Value))) } st1
  unfold Builtin.List.listLengthHint
  refine wpAny_bind (wpAny_specialOf isz nolen_zip ?_)
  show wpAny _ A.in1.in1 (specialOf (Value.ref z) (Str.ofString "__length_hint__") >>= _) _ _ _
  refine wpAny_bind (wpAny_specialOf isz nohint_zip (wpAny_pure ?_))
  show wpAny _ A.in1.in1 (rule "list.extend.makes-room" >>= fun _ => Builtin.List.listTouch (.ref s.heap.objs.size) >>= fun _ => again (.builtin "list.extend.loop" ⟨[.ref s.heap.objs.size, .ref z, .none], []⟩)) _ _ _
  refine wpAny_bind (wpAny_rule (wpAny_bind ?_))
  show wpAny _ A.in1.in1 (updateSeq s.heap.objs.size (·.push .none) >>= fun _ => updateSeq s.heap.objs.size (·.pop)) _ _ _
  refine wpAny_bind (wpAny_updateSeq at1 rfl ?_)
  have at2 := Heap.get?_update_self (Obj.mapSeq (·.push Value.none)) at1 rfl
  refine wpAny_updateSeq (hz := by seq_fits) at2 rfl ?_
  have at3 := Heap.get?_update_self (Obj.mapSeq (·.pop)) at2 rfl
  have k3 : ∀ b o, s.heap.get? b = some o → ((((s.heap.push { cls := .type "list", data := .seq #[] }).update s.heap.objs.size (Obj.mapSeq (fun _ => (#[] : Array Value)))).update s.heap.objs.size (Obj.mapSeq (·.push Value.none))).update s.heap.objs.size (Obj.mapSeq (·.pop))).get? b = some o := by
    intro b o e
    have nb := Nat.ne_of_gt (Heap.lt_size e)
    exact (Heap.get?_update_other _ _ nb).trans ((Heap.get?_update_other _ _ nb).trans (k1 b o e))
  have big : s.heap.objs.size + 1 ≤ ((((s.heap.push { cls := .type "list", data := .seq #[] }).update s.heap.objs.size (Obj.mapSeq (fun _ => (#[] : Array Value)))).update s.heap.objs.size (Obj.mapSeq (·.push Value.none))).update s.heap.objs.size (Obj.mapSeq (·.pop))).objs.size := Heap.lt_size at3
  refine wpAny_pure ⟨plainId_quiet F.plain_extend_loop _, ?_⟩
  refine zip_loop (s := s) (A := A.in1) W (S := s.heap.objs.size) (lo := s.heap.objs.size + 1) (h0 := s.heap) hh (fun b q => Nat.lt_succ_of_lt (wlt b q)) (Nat.lt_succ_self _) (fun q => absurd (wlt _ q) (Nat.lt_irrefl _)) hn .none ?_ n 0 _ s.toks _ #[] [] rfl (Nat.zero_le _) (st _ k3) (fun b o _ _ e => k3 b o e) at3 rfl rfl ⟨List.Pairwise.nil, fun _ q => (nomatch q), fun j a q => by simp at q⟩ big
  intro h' tk acc c as kp hS hl g ha
  exact ⟨rfl, q h' tk acc c as (fun b o n2 e => kp b o (Nat.ne_of_lt (Heap.lt_size e)) n2 e) hS hl g ha⟩
end

theorem psrc_lists {prog : Program} {w : World} {z TI TO i1 i2 l1 l2 : Addr} (D : ZipApart z TI TO i1 i2 l1 l2) (xs ys : Array Value) (hn : xs.size = ys.size) : PSrc prog w z [z, TO, i1, i2] xs.size (fun i => (xs.getD i .none, ys.getD i .none))
    (fun i S h => IsPair h TI (.ref i1) (.ref i2) ∧ h.IsListIter i1 l1 i ∧ h.IsListIter i2 l2 i ∧ h.IsList l1 xs ∧ h.IsList l2 ys ∧ (S ≠ z ∧ S ≠ TI ∧ S ≠ TO ∧ S ≠ i1 ∧ S ≠ i2 ∧ S ≠ l1 ∧ S ≠ l2) ∧
      ((IsZip h z TI TO .none ∧ ∃ a b, IsPair h TO a b) ∨ ∃ T f oT, IsZipHeld h z TI TO T f ∧ h.get? T = some oT ∧ T ≠ z ∧ T ≠ i1 ∧ T ≠ i2 ∧ T ≠ S)) where
  type := by
    rintro i S s ⟨_, _, _, _, _, _, ⟨hz, _⟩ | ⟨T, f, oT, hz, _⟩⟩
    · exact ⟨_, hz, rfl⟩
    · exact ⟨_, hz, rfl⟩
  self := by
    rintro A E i S s Q ⟨_, _, _, _, _, _, ⟨hz, _⟩ | ⟨T, f, oT, hz, _⟩⟩ q
    · exact wpAny_pyIter_zip hz q
    · have isz : s.TypeIs (.ref z) "zip" := ⟨_, hz, rfl⟩
      exact wpAny_pyIter_slot isz F.slot_zip_iter (wpAny_call_entry F.slot_zip_iter isz F.entry_zip_iter (wpAny_pure ⟨_, rfl, "zip", _, isz, F.slot_zip_next.lookup, q⟩) (F.args_zip_iter_1 _))
  keep := by
    rintro i S h h' ⟨p, a1, a2, t1, t2, ⟨n1, n2, n3, n4, n5, n6, n7⟩, hz⟩ k
    refine ⟨k _ _ n2.symm p, a1.at fun o e => k _ o n4.symm e, a2.at fun o e => k _ o n5.symm e, t1.at fun o e => k _ o n6.symm e, t2.at fun o e => k _ o n7.symm e, ⟨n1, n2, n3, n4, n5, n6, n7⟩, ?_⟩
    rcases hz with ⟨hz, a, b, ho⟩ | ⟨T, f, oT, hz, hT, r1, r2, r3, r4⟩
    · exact .inl ⟨k _ _ n1.symm hz, a, b, k _ _ n3.symm ho⟩
    · exact .inr ⟨T, f, oT, k _ _ n1.symm hz, k _ _ r4 hT, r1, r2, r3, r4⟩
  item := by
    rintro A E i S s Q lt Slt ⟨p, a1, a2, t1, t2, ns, hz⟩ q
    have ex : xs[i]? = some (xs.getD i .none) := by simp [Array.getD, lt]
    have ey : ys[i]? = some (ys.getD i .none) := by
      have : i < ys.size := by omega
      simp [Array.getD, this]
    have new : ∀ {b o}, s.heap.get? b = some o → s.heap.objs.size ≠ b := fun e => Nat.ne_of_gt (Heap.lt_size e)
    have ni1 : s.heap.objs.size ≠ i1 := let ⟨_, e, _⟩ := a1; new e
    have ni2 : s.heap.objs.size ≠ i2 := let ⟨_, e, _⟩ := a2; new e
    rcases hz with ⟨hz, a, b, ho⟩ | ⟨T, f, oT, hz, hT, r1, r2, r3, r4⟩
    · refine wpAny_pyNext_zip_item D hz p ho a1 a2 t1 t2 ex ey fun h' c1 c2 c3 c4 c5 c6 k => ?_
      refine q h' ⟨k _ _ D.TIz D.TITO D.TIi1 D.TIi2 p, c3, c4, t1.at fun o e => k _ o D.l1z D.l1TO D.l1i1 D.l1i2 e, t2.at fun o e => k _ o D.l2z D.l2TO D.l2i1 D.l2i2 e, ns, .inr ⟨s.heap.objs.size, false, _, c1, c5, new hz, ni1, ni2, Nat.ne_of_gt Slt⟩⟩ c5 c6 fun b o nb e => ?_
      simp only [List.mem_cons, List.not_mem_nil, or_false, not_or] at nb
      exact k b o nb.1 nb.2.1 nb.2.2.1 nb.2.2.2 e
    · refine wpAny_pyNext_zip_item_held D hz hT p a1 a2 t1 t2 ex ey fun h' c1 c3 c4 c5 c6 k => ?_
      refine q h' ⟨k _ _ D.TIz D.TIi1 D.TIi2 p, c3, c4, t1.at fun o e => k _ o D.l1z D.l1i1 D.l1i2 e, t2.at fun o e => k _ o D.l2z D.l2i1 D.l2i2 e, ns, .inr ⟨T, true, oT, c1, k _ _ r1 r2 r3 hT, r1, r2, r3, r4⟩⟩ c5 c6 fun b o nb e => ?_
      simp only [List.mem_cons, List.not_mem_nil, or_false, not_or] at nb
      exact k b o nb.1 nb.2.2.1 nb.2.2.2 e
  done := by
    rintro A E S s Q hh ⟨p, a1, a2, t1, t2, ns, hz⟩ q
    have ex : xs[xs.size]? = none := by simp
    rcases hz with ⟨hz, a, b, ho⟩ | ⟨T, f, oT, hz, hT, r1, r2, r3, r4⟩
    · refine wpAny_pyNext_zip_end hh D hz p ho a1 a2 t1 t2 (.inl ex) fun h' k => q h' fun b o nb e => ?_
      simp only [List.mem_cons, List.not_mem_nil, or_false, not_or] at nb
      exact k b o nb.1 nb.2.1 nb.2.2.1 nb.2.2.2 e
    · refine wpAny_pyNext_zip_end_held hh D hz hT p a1 a2 t1 t2 (.inl ex) fun h' k => q h' fun b o nb e => ?_
      simp only [List.mem_cons, List.not_mem_nil, or_false, not_or] at nb
      exact k b o nb.1 nb.2.2.1 nb.2.2.2 e

theorem psrc_tuples {prog : Program} {w : World} {z TI TO i1 i2 l1 l2 : Addr} (D : ZipApart z TI TO i1 i2 l1 l2) (xs ys : Array Value) (hn : xs.size = ys.size) : PSrc prog w z [z, TO, i1, i2] xs.size (fun i => (xs.getD i .none, ys.getD i .none))
    (fun i S h => IsPair h TI (.ref i1) (.ref i2) ∧ h.IsTupleIter i1 l1 i ∧ h.IsTupleIter i2 l2 i ∧ h.IsTuple l1 xs ∧ h.IsTuple l2 ys ∧ (S ≠ z ∧ S ≠ TI ∧ S ≠ TO ∧ S ≠ i1 ∧ S ≠ i2 ∧ S ≠ l1 ∧ S ≠ l2) ∧
      ((IsZip h z TI TO .none ∧ ∃ a b, IsPair h TO a b) ∨ ∃ T f oT, IsZipHeld h z TI TO T f ∧ h.get? T = some oT ∧ T ≠ z ∧ T ≠ i1 ∧ T ≠ i2 ∧ T ≠ S)) where
  type := by
    rintro i S s ⟨_, _, _, _, _, _, ⟨hz, _⟩ | ⟨T, f, oT, hz, _⟩⟩
    · exact ⟨_, hz, rfl⟩
    · exact ⟨_, hz, rfl⟩
  self := by
    rintro A E i S s Q ⟨_, _, _, _, _, _, ⟨hz, _⟩ | ⟨T, f, oT, hz, _⟩⟩ q
    · exact wpAny_pyIter_zip hz q
    · have isz : s.TypeIs (.ref z) "zip" := ⟨_, hz, rfl⟩
      exact wpAny_pyIter_slot isz F.slot_zip_iter (wpAny_call_entry F.slot_zip_iter isz F.entry_zip_iter (wpAny_pure ⟨_, rfl, "zip", _, isz, F.slot_zip_next.lookup, q⟩) (F.args_zip_iter_1 _))
  keep := by
    rintro i S h h' ⟨p, a1, a2, t1, t2, ⟨n1, n2, n3, n4, n5, n6, n7⟩, hz⟩ k
    refine ⟨k _ _ n2.symm p, a1.at fun o e => k _ o n4.symm e, a2.at fun o e => k _ o n5.symm e, t1.at fun o e => k _ o n6.symm e, t2.at fun o e => k _ o n7.symm e, ⟨n1, n2, n3, n4, n5, n6, n7⟩, ?_⟩
    rcases hz with ⟨hz, a, b, ho⟩ | ⟨T, f, oT, hz, hT, r1, r2, r3, r4⟩
    · exact .inl ⟨k _ _ n1.symm hz, a, b, k _ _ n3.symm ho⟩
    · exact .inr ⟨T, f, oT, k _ _ n1.symm hz, k _ _ r4 hT, r1, r2, r3, r4⟩
  item := by
    rintro A E i S s Q lt Slt ⟨p, a1, a2, t1, t2, ns, hz⟩ q
    have ex : xs[i]? = some (xs.getD i .none) := by simp [Array.getD, lt]
    have ey : ys[i]? = some (ys.getD i .none) := by
      have : i < ys.size := by omega
      simp [Array.getD, this]
    have new : ∀ {b o}, s.heap.get? b = some o → s.heap.objs.size ≠ b := fun e => Nat.ne_of_gt (Heap.lt_size e)
    have ni1 : s.heap.objs.size ≠ i1 := let ⟨_, e, _⟩ := a1; new e
    have ni2 : s.heap.objs.size ≠ i2 := let ⟨_, e, _⟩ := a2; new e
    rcases hz with ⟨hz, a, b, ho⟩ | ⟨T, f, oT, hz, hT, r1, r2, r3, r4⟩
    · refine RZ.pyNext_zipT_item D hz p ho a1 a2 t1 t2 ex ey fun h' c1 c2 c3 c4 c5 c6 k => ?_
      refine q h' ⟨k _ _ D.TIz D.TITO D.TIi1 D.TIi2 p, c3, c4, t1.at fun o e => k _ o D.l1z D.l1TO D.l1i1 D.l1i2 e, t2.at fun o e => k _ o D.l2z D.l2TO D.l2i1 D.l2i2 e, ns, .inr ⟨s.heap.objs.size, false, _, c1, c5, new hz, ni1, ni2, Nat.ne_of_gt Slt⟩⟩ c5 c6 fun b o nb e => ?_
      simp only [List.mem_cons, List.not_mem_nil, or_false, not_or] at nb
      exact k b o nb.1 nb.2.1 nb.2.2.1 nb.2.2.2 e
    · refine zt_item D hz hT p a1 a2 t1 t2 ex ey fun h' c1 c3 c4 c5 c6 k => ?_
      refine q h' ⟨k _ _ D.TIz D.TIi1 D.TIi2 p, c3, c4, t1.at fun o e => k _ o D.l1z D.l1i1 D.l1i2 e, t2.at fun o e => k _ o D.l2z D.l2i1 D.l2i2 e, ns, .inr ⟨T, true, oT, c1, k _ _ r1 r2 r3 hT, r1, r2, r3, r4⟩⟩ c5 c6 fun b o nb e => ?_
      simp only [List.mem_cons, List.not_mem_nil, or_false, not_or] at nb
      exact k b o nb.1 nb.2.2.1 nb.2.2.2 e
  done := by
    rintro A E S s Q hh ⟨p, a1, a2, t1, t2, ns, hz⟩ q
    have ex : xs[xs.size]? = none := by simp
    rcases hz with ⟨hz, a, b, ho⟩ | ⟨T, f, oT, hz, hT, r1, r2, r3, r4⟩
    · refine RZ.pyNext_zipT_end hh D hz p ho a1 a2 t1 t2 (.inl ex) fun h' k => q h' fun b o nb e => ?_
      simp only [List.mem_cons, List.not_mem_nil, or_false, not_or] at nb
      exact k b o nb.1 nb.2.1 nb.2.2.1 nb.2.2.2 e
    · refine zt_end hh D hz hT p a1 t1 ex fun h' k => q h' fun b o nb e => ?_
      simp only [List.mem_cons, List.not_mem_nil, or_false, not_or] at nb
      exact k b o nb.1 nb.2.2.1 nb.2.2.2 e

/-! ### the rule -/
def putP : Hp → List Addr → List (V × V) → Hp
  | H, a :: as, p :: ps => putP (upd H a (.tup [p.1, p.2])) as ps
  | H, _, _ => H
theorem putP_off {b : Addr} : ∀ (as : List Addr) (ps : List (V × V)) (H : Hp), b ∉ as → putP H as ps b = H b
  | [], _, _, _ => rfl
  | _ :: _, [], _, _ => rfl
  | a :: as, p :: ps, H, h => by
    have h1 : b ∉ as := fun q => h (List.mem_cons_of_mem _ q)
    have h2 : b ≠ a := fun q => h (by rw [q]; exact List.mem_cons_self)
    show putP (upd H a (.tup [p.1, p.2])) as ps b = H b
    rw [putP_off as ps _ h1, upd_ne h2]
theorem putP_at : ∀ (as : List Addr) (ps : List (V × V)) (H : Hp), as.length = ps.length → as.Nodup → Paired (fun (t : Addr) (p : V × V) => putP H as ps t = some (.tup [p.1, p.2])) as ps
  | [], [], _, _, _ => .nil
  | [], _ :: _, _, h, _ => by cases h
  | _ :: _, [], _, h, _ => by cases h
  | a :: as, p :: ps, H, h, hn => by
    obtain ⟨n1, n2⟩ := List.nodup_cons.mp hn
    refine .cons ?_ (putP_at as ps (upd H a (.tup [p.1, p.2])) (Nat.succ.inj h) n2)
    show putP (upd H a (.tup [p.1, p.2])) as ps a = some (.tup [p.1, p.2])
    rw [putP_off as ps _ n1, upd_same]
/-- behind list(zip(..)): a new list of new pairs -/
def ZipEnd (H : Hp) (Q : VK) (xs ys : List V) : Prop := ∀ (H' : Hp) (l : Addr) (ts : List Addr), Same H H' → H l = none → H' l = some (.lst (ts.map V.ref)) → Paired (fun (t : Addr) (p : V × V) => H' t = some (.tup [p.1, p.2])) ts (xs.zip ys) → Q (.ref l) H'
section
variable {X : Cx} {pins : List (Addr × Obj)} {σ : L2.St} {H : Hp} {s : Shared} {xs ys : List V} {us vs : List Value}
theorem na_not {L : Nat} (h : L + 1 ≤ L) : False := by omega
theorem na_le {n L t : Nat} (h : n ≤ L) (g : L + 1 ≤ t) : n ≤ t := by omega
theorem na_ne {b n L : Nat} (h : b < n) (g : n ≤ L) : b ≠ L := by omega
theorem na_out {b n L : Nat} (h : b < n) (g : n ≤ L) (q : L + 1 ≤ b) : False := by omega
theorem na_ns {n a b : Nat} (la : a < n) (lb : b < n) : n + 5 ≠ n + 4 ∧ n + 5 ≠ n + 2 ∧ n + 5 ≠ n + 3 ∧ n + 5 ≠ n ∧ n + 5 ≠ n + 1 ∧ n + 5 ≠ a ∧ n + 5 ≠ b := by omega
theorem na_wr {n b : Nat} (h : b = n + 4 ∨ b = n + 3 ∨ b = n ∨ b = n + 1) : b < n + 5 := by omega
theorem na_old {n b : Nat} (h : b < n) (q : b = n + 4 ∨ b = n + 3 ∨ b = n ∨ b = n + 1) : False := by omega
theorem getD_of {us : List Value} {j : Nat} {u : Value} (h : us[j]? = some u) : us.toArray.getD j .none = u := by
  obtain ⟨h1, h2⟩ := List.getElem?_eq_some_iff.mp h
  simp [Array.getD, h1, h2]
theorem zip_laid (I : Inv X pins σ H s) (rx : Vals xs us) (ry : Vals ys vs) {h2 : Heap} {tk c L : Nat} {acc : Array Value} {as : List Addr} (k : ∀ b o, s.heap.get? b = some o → h2.get? b = some o) (hL : s.heap.objs.size ≤ L)
    (hS : h2.get? L = some { cls := .type "list", dict := none, data := .seq acc c, slots := #[] }) (hn : as.length = (xs.zip ys).length) (hz : as.length ≤ sizeLine) (g : Outs (fun i => (us.toArray.getD i .none, vs.toArray.getD i .none)) (L + 1) h2 as) (ha : acc.toList = as.map Value.ref) :
    ∃ H' : Hp, Same H H' ∧ H L = none ∧ H' L = some (.lst (as.map V.ref)) ∧ Paired (fun (t : Addr) (p : V × V) => H' t = some (.tup [p.1, p.2])) as (xs.zip ys) ∧ Inv X pins σ H' { s with heap := h2, toks := tk } := by
  have nL : L ∉ as := fun q => na_not (g.above L q)
  have nd : as.Nodup := List.Pairwise.imp (fun {a b} (h : a < b) => Nat.ne_of_lt h) g.rise
  have newT : ∀ t ∈ as, H t = none := fun t q => I.hok.fresh (na_le hL (g.above t q))
  have newL : H L = none := I.hok.fresh hL
  have tups := putP_at as (xs.zip ys) (upd H L (.lst (as.map V.ref))) hn nd
  have off : ∀ b, b ∉ as → b ≠ L → putP (upd H L (.lst (as.map V.ref))) as (xs.zip ys) b = H b := fun b q1 q2 => by rw [putP_off as _ _ q1, upd_ne q2]
  have low : ∀ b o, s.heap.get? b = some o → b ∉ as ∧ b ≠ L := fun b o e => by
    have lt := Heap.lt_size e
    exact ⟨fun q => na_out lt hL (g.above b q), na_ne lt hL⟩
  have kp : Same H (putP (upd H L (.lst (as.map V.ref))) as (xs.zip ys)) := fun b u e => by
    rw [off b (fun q => by rw [newT b q] at e; cases e) (fun q => by rw [q, newL] at e; cases e)]
    exact e
  have atL : putP (upd H L (.lst (as.map V.ref))) as (xs.zip ys) L = some (.lst (as.map V.ref)) := by rw [putP_off as _ _ nL, upd_same]
  refine ⟨_, kp, newL, atL, tups, ?_⟩
  have un : Un (frs X.stack) [] H (putP (upd H L (.lst (as.map V.ref))) as (xs.zip ys)) s.heap h2 := by
    refine ⟨fun b o e _ _ _ => k b o e, fun b o e _ _ _ => ⟨o.slots, k b o e⟩, fun b o e n _ => ?_, fun b o e _ => ⟨o, k b o e⟩, fun b zs e => kp b _ e, fun b o u e => kp b _ e, fun b ps e => ⟨#[], ?_⟩⟩
    · obtain ⟨q1, q2⟩ := low b o e
      rw [off b q1 q2]
      exact n
    · rw [kp b _ e]
      simp
  refine I.call' (ch := []) rfl un (fun b u e => ?_) I.bare fun b q => nomatch q
  by_cases hb : b ∈ as
  · obtain ⟨j, p, e1, e2, e3⟩ := LiI.paired_ix tups hb
    rw [e3] at e
    cases e
    obtain ⟨x1, y1⟩ := List.getElem?_zip_eq_some.mp e2
    obtain ⟨u, eu, ru⟩ := Vals.get rx x1
    obtain ⟨v, ev, rv⟩ := Vals.get ry y1
    have t := g.pairs j b e1
    rw [getD_of eu, getD_of ev] at t
    exact ⟨by show 2 ≤ sizeLine; decide, [u, v], .cons ru (.cons rv .nil), ⟨_, t, rfl, _, rfl⟩⟩
  · by_cases hb2 : b = L
    · rw [hb2] at e ⊢
      rw [atL] at e
      cases e
      refine ⟨by rw [List.length_map]; exact hz, acc.toList, c, by rw [ha]; exact LiI.vals_refs as, ?_⟩
      rw [Array.toArray_toList]
      exact hS
    · rw [off b hb hb2] at e
      exact (I.hok b u e).stay (fun d w _ q => k d w q) (fun d q => kp d _ q) fun d zs q => kp d _ q
def tListZip (K : PySem.W.Frag) (ta : TA) : TE := fun σ H Q => ta σ H fun vs H1 => ∃ (a b : Addr) (xs ys : List V), vs = [.ref a, .ref b] ∧ ((SqL K H1 a xs ∧ SqL K H1 b ys) ∨ (SqT K H1 a xs ∧ SqT K H1 b ys)) ∧ xs.length = ys.length ∧ ZipEnd H1 Q xs ys
theorem pe_listZip {e e2 : Expr} {ta : TA} {p p2 pos pos2 : Pos} (hg : Gl X "list") (hm : X.mg "list" = none) (hgz : Gl X "zip") (hmz : X.mg "zip" = none) (hc : X.calm = true) (hp : PA X [e, e2] ta)
    (hs : starEach [.Call (.Name "zip" p2) [e, e2] [] pos2] X.env = (false, eval (.Call (.Name "zip" p2) [e, e2] [] pos2) X.env) :: starEach [] X.env := by rfl) (hpl : (backTo pos (starEach [] X.env)).any (·.1) = false := by rfl)
    (hs2 : starEach [e, e2] X.env = (false, eval e X.env) :: starEach [e2] X.env := by rfl) (hpl2 : (backTo pos2 (starEach [e2] X.env)).any (·.1) = false := by rfl) :
    PE X (.Call (.Name "list" p) [.Call (.Name "zip" p2) [e, e2] [] pos2] [] pos) (tListZip X.K ta) := by
  refine ⟨fun pins s σ H Q I h => ?_⟩
  refine Call_ (ld_blt I hg hm (show bootBuiltins "list" = some (Value.type "list") by decide +kernel) (PyProof.Rows.callWith_type1 ?_ hs hpl))
  rw [hs]
  show wpAny _ _ (spliced ((false, eval (.Call (.Name "zip" p2) [e, e2] [] pos2) X.env) :: backTo pos (starEach [] X.env))) _ _ s
  refine Calls.spliced_cons ?_
  refine Call_ (ld_blt I hgz hmz PyProof.Rows.boot_zip (PyProof.Rows.callWith_type1 (thn (hp.run pos2 pins s σ H _ I h) fun us s1 ⟨vs, H1, I1, r1, q1⟩ => ?_) hs2 hpl2))
  obtain ⟨a, b, xs, ys, ex, hq, hl, q⟩ := q1
  subst ex
  cases r1 with
  | cons r rr =>
    cases rr with
    | cons r' rr =>
      cases rr
      cases r
      cases r'
      rcases hq with ⟨hx, hy⟩ | ⟨hx, hy⟩
      · obtain ⟨ia, rv, p1, z1⟩ := I1.list hx
        obtain ⟨ib, rw', p3, _⟩ := I1.list hy
        have eq : ia.toArray.size = ib.toArray.size := by simp only [List.size_toArray]; rw [← rv.length, ← rw'.length]; exact hl
        refine call_zip_2 p1.isList p3.isList fun h' hz hTI hTO h1 h2 hsz hk => Calls.spliced_nil ?_
        refine call_list_zip (s := { s1 with heap := h' }) (psrc_lists (PySem.W.ktu_apart s1.heap.objs.size a b p1.lt p3.lt) ia.toArray ib.toArray eq) (I1.ok.hd hc) ?_ ?_ ?_ ?_ ?_
        · intro h2' k
          have la := p1.lt
          have lb := p3.lt
          refine ⟨k _ _ hTI, h1.at fun o e => k _ o e, h2.at fun o e => k _ o e, p1.isList.at fun o e => k _ o (hk _ o e), p3.isList.at fun o e => k _ o (hk _ o e), ?_, .inl ⟨k _ _ hz, _, _, k _ _ hTO⟩⟩
          show h'.objs.size ≠ _ ∧ h'.objs.size ≠ _ ∧ h'.objs.size ≠ _ ∧ h'.objs.size ≠ _ ∧ h'.objs.size ≠ _ ∧ h'.objs.size ≠ _ ∧ h'.objs.size ≠ _
          rw [hsz]
          exact na_ns la lb
        · intro b' hb'
          show b' < h'.objs.size
          rw [hsz]
          simp only [List.mem_cons, List.not_mem_nil, or_false] at hb'
          exact na_wr hb'
        · show s1.heap.objs.size + 4 < h'.objs.size
          rw [hsz]
          exact Nat.lt_succ_self _
        · rw [List.size_toArray, ← rv.length]
          exact z1
        · intro h3 tk acc c as kp hS hlen g ha
          have kk : ∀ b' o, s1.heap.get? b' = some o → h3.get? b' = some o := fun b' o e => kp b' o (fun z => by
            have := Heap.lt_size e
            simp only [List.mem_cons, List.not_mem_nil, or_false] at z
            exact na_old this z) (hk b' o e)
          have lz : (xs.zip ys).length = xs.length := by rw [List.length_zip]; omega
          have la : as.length = xs.length := by rw [hlen, List.size_toArray, ← rv.length]
          obtain ⟨H', c1, c2, c3, c4, J⟩ := zip_laid (tk := tk) I1 rv rw' kk (show s1.heap.objs.size ≤ h'.objs.size by rw [hsz]; exact Nat.le_add_right _ _) hS (by omega) (by omega) g ha
          exact ⟨.ref h'.objs.size, H', J, rfl, q H' _ as c1 c2 c3 c4⟩
      · obtain ⟨ia, rv, p1, z1⟩ := I1.tuple hx
        obtain ⟨ib, rw', p3, _⟩ := I1.tuple hy
        have eq : ia.toArray.size = ib.toArray.size := by simp only [List.size_toArray]; rw [← rv.length, ← rw'.length]; exact hl
        refine RZ.call_zipT p1 p3 fun h' hz hTI hTO h1 h2 hsz hk => Calls.spliced_nil ?_
        refine call_list_zip (s := { s1 with heap := h' }) (psrc_tuples (PySem.W.ktu_apart s1.heap.objs.size a b p1.lt p3.lt) ia.toArray ib.toArray eq) (I1.ok.hd hc) ?_ ?_ ?_ ?_ ?_
        · intro h2' k
          have la := p1.lt
          have lb := p3.lt
          refine ⟨k _ _ hTI, h1.at fun o e => k _ o e, h2.at fun o e => k _ o e, Heap.IsTuple.at p1 fun o e => k _ o (hk _ o e), Heap.IsTuple.at p3 fun o e => k _ o (hk _ o e), ?_, .inl ⟨k _ _ hz, _, _, k _ _ hTO⟩⟩
          show h'.objs.size ≠ _ ∧ h'.objs.size ≠ _ ∧ h'.objs.size ≠ _ ∧ h'.objs.size ≠ _ ∧ h'.objs.size ≠ _ ∧ h'.objs.size ≠ _ ∧ h'.objs.size ≠ _
          rw [hsz]
          exact na_ns la lb
        · intro b' hb'
          show b' < h'.objs.size
          rw [hsz]
          simp only [List.mem_cons, List.not_mem_nil, or_false] at hb'
          exact na_wr hb'
        · show s1.heap.objs.size + 4 < h'.objs.size
          rw [hsz]
          exact Nat.lt_succ_self _
        · rw [List.size_toArray, ← rv.length]
          exact z1
        · intro h3 tk acc c as kp hS hlen g ha
          have kk : ∀ b' o, s1.heap.get? b' = some o → h3.get? b' = some o := fun b' o e => kp b' o (fun z => by
            have := Heap.lt_size e
            simp only [List.mem_cons, List.not_mem_nil, or_false] at z
            exact na_old this z) (hk b' o e)
          have lz : (xs.zip ys).length = xs.length := by rw [List.length_zip]; omega
          have la : as.length = xs.length := by rw [hlen, List.size_toArray, ← rv.length]
          obtain ⟨H', c1, c2, c3, c4, J⟩ := zip_laid (tk := tk) I1 rv rw' kk (show s1.heap.objs.size ≤ h'.objs.size by rw [hsz]; exact Nat.le_add_right _ _) hS (by omega) (by omega) g ha
          exact ⟨.ref h'.objs.size, H', J, rfl, q H' _ as c1 c2 c3 c4⟩
end
end L3

/-! dicts of kinds that are equal -/
namespace L3
open PySem PySem.Spec PyProof.Rows L2
section
variable {X : Cx} {pins : List (Addr × Obj)} {σ : L2.St} {H : Hp} {s : Shared}
theorem opR_or {f : Value → Value → Sem Value} {r r' : R2} (h : OpR X f r) (h' : OpR X f r') : OpR X f (fun x y H Q => r x y H Q ∨ r' x y H Q) := by
  intro pins s σ H x y v u Q I rx ry q
  rcases q with q | q
  · exact h pins s σ H x y v u Q I rx ry q
  · exact h' pins s σ H x y v u Q I rx ry q
theorem kv_hits (I : Inv X pins σ H s) {A : Around} (hu : A.units + 64 < cLine) {ls : List (Key × V)} {b2 : By} {vb : List (Key × Value)} (rb : KV ls vb) (k2 : ByAt H ls b2) (f2 : ∀ q ∈ b2, q.2.fit 60) :
    ∀ {ks : List (Key × V)} {b1 : By} {va : List (Key × Value)}, KV ks va → ByAt H ks b1 → (∀ q ∈ b1, q.2.fit 60 ∧ lk b2 q.1 = some q.2) → PySem.W.KeqHits A s vb va true
  | _, _, _, .nil, .nil, _ => .nil
  | (key, v) :: ks, (x, k) :: b1, (key', u) :: va, .cons ⟨e1, r1⟩ t1, .cons ⟨e2, g⟩ t2, h => by
    obtain ⟨fk, el⟩ := h _ List.mem_cons_self
    have e1' : key = key' := e1
    have e2' : key = .inr x := e2
    subst e1' e2'
    rcases k2.get x with ⟨_, z⟩ | ⟨v2, k', e3, e4, g'⟩
    · rw [z] at el
      cases el
    · rw [e4] at el
      cases el
      have rr : RelO (some v2) (valueAt vb (.inr x)) := by
        rw [← e3]
        exact rb.val (.inr x)
      obtain ⟨y, hy, ry⟩ := rr.some_of
      obtain ⟨as, ra⟩ := Dp.reads I _ v u g.dp r1
      obtain ⟨bs, rb'⟩ := Dp.reads I _ v2 y g'.dp ry
      obtain ⟨l1, l2⟩ := Kd.lay fk
      have eq := SeqAt.eqAt_reads _ _ A s u y as bs ra rb' l1 l1 (by have : min k.dat.depth k.dat.depth = k.dat.depth := Nat.min_self _; omega)
      rw [Kd.eqv, decide_eq_true rfl] at eq
      exact PySem.W.KeqHits.hit hy eq (kv_hits I hu rb k2 f2 t1 t2 fun q hq => h q (List.mem_cons_of_mem _ hq))
def rBy (r : Bool) : R2 := fun x y H Q => ∃ (a b : Addr) (ks ls : List (Key × V)) (b1 b2 : By), x = .ref a ∧ y = .ref b ∧ H a = some (.dK ks) ∧ H b = some (.dK ls) ∧ ByAt H ks b1 ∧ ByAt H ls b2 ∧ b1.length = b2.length ∧ (∀ q ∈ b1, q.2.fit 60 ∧ lk b2 q.1 = some q.2) ∧ (∀ q ∈ b2, q.2.fit 60) ∧ Q (.bl r) H
theorem op_eqBy (hu : X.A.units + 65 < cLine) : OpR X (compareOp .Eq) (rBy true) := by
  intro pins s σ H x y v u Q I rx ry ⟨a, b, ks, ls, b1, b2, ex, ey, ea, eb, k1, k2, hl, h1, h2, q⟩
  subst ex ey
  obtain rfl : v = Value.ref a := rx
  obtain rfl : u = Value.ref b := ry
  obtain ⟨_, ya, va, ra, da⟩ := (show ObjOk X.prog X.w H s.heap a (.dK ks) from I.hok a _ ea)
  obtain ⟨_, yb, vb, rb, db⟩ := (show ObjOk X.prog X.w H s.heap b (.dK ls) from I.hok b _ eb)
  have lv : va.length = vb.length := by rw [← ra.length, ← rb.length, Paired.length k1, Paired.length k2]; exact hl
  refine PySem.W.keq_eq (knd := mixKind X.prog X.w) (r := true) ya yb da db (by omega) (fun _ => kv_hits I (A := X.A.in1) (by show X.A.units + 1 + 64 < cLine; omega) rb k2 h2 ra k1 h1) ?_
  have e : (va.length == vb.length && true) = true := by simp [lv]
  rw [e]
  exact ⟨.bl true, H, I, rfl, q⟩
theorem op_neBy (hu : X.A.units + 65 < cLine) : OpR X (compareOp .NotEq) (rBy false) := by
  intro pins s σ H x y v u Q I rx ry ⟨a, b, ks, ls, b1, b2, ex, ey, ea, eb, k1, k2, hl, h1, h2, q⟩
  subst ex ey
  obtain rfl : v = Value.ref a := rx
  obtain rfl : u = Value.ref b := ry
  obtain ⟨_, ya, va, ra, da⟩ := (show ObjOk X.prog X.w H s.heap a (.dK ks) from I.hok a _ ea)
  obtain ⟨_, yb, vb, rb, db⟩ := (show ObjOk X.prog X.w H s.heap b (.dK ls) from I.hok b _ eb)
  have lv : va.length = vb.length := by rw [← ra.length, ← rb.length, Paired.length k1, Paired.length k2]; exact hl
  refine PySem.W.keq_ne (knd := mixKind X.prog X.w) (r := true) ya yb da db (by omega) (fun _ => kv_hits I (A := X.A.in1) (by show X.A.units + 1 + 64 < cLine; omega) rb k2 h2 ra k1 h1) ?_
  have e : (!(va.length == vb.length && true)) = false := by simp [lv]
  rw [e]
  exact ⟨.bl false, H, I, rfl, q⟩
end
/-- what is in order names each key once -/
theorem addV_nodup {fs : List Str} (x : Str) (h : fs.Nodup) : (addV fs x).Nodup := by
  unfold addV
  by_cases e : x ∈ fs
  · rw [if_pos e]
    exact h
  · rw [if_neg e]
    exact List.nodup_append.mpr ⟨h, by simp, fun a ha b hb => by rw [List.mem_singleton.mp hb]; intro z; rw [z] at ha; exact e ha⟩
theorem Kd.vs_nodup : ∀ (k : Kd) {fs : List Str}, fs.Nodup → (k.vs fs).Nodup
  | .var x, _, h => addV_nodup x h
  | .con _, _, h => h
  | .app a b, _, h => Kd.vs_nodup b (Kd.vs_nodup a h)
theorem vsL_nodup : ∀ (ks : List Kd) {fs : List Str}, fs.Nodup → (vsL ks fs).Nodup
  | [], _, h => h
  | k :: r, _, h => vsL_nodup r (k.vs_nodup h)
theorem lk_self : ∀ (b : By), (names b).Nodup → ∀ q ∈ b, lk b q.1 = some q.2
  | [], _, q, h => nomatch h
  | p :: r, hn, q, h => by
    obtain ⟨n1, n2⟩ := List.nodup_cons.mp (show (p.1 :: names r).Nodup from hn)
    rcases List.mem_cons.mp h with e | h
    · rw [e]
      exact lk_pos rfl
    · have ne : ¬ p.1 = q.1 := fun z => n1 (by rw [z]; exact List.mem_map.mpr ⟨q, h, rfl⟩)
      rw [lk_neg ne]
      exact lk_self r n2 q h
end L3

/-! how kinds are shown: no dict, not too long -/
namespace L3
open PySem L2
theorem shown_word {x : Str} (w : Wok x) : (PyData.str x).shown.length ≤ 82 := by
  have h := StrLaws.reprText_len x (fun c hc => by have := w.2.2 c hc; omega)
  have e : (PyData.str x).shown = reprText x := by simp only [PyData.shown]
  rw [e]
  have := w.2.1
  omega
theorem shown_var : (PyData.str "var").shown.length ≤ 82 := by decide +kernel
theorem shown_con : (PyData.str "con").shown.length ≤ 82 := by decide +kernel
theorem shown_apply : (PyData.str "apply").shown.length ≤ 82 := by decide +kernel
theorem shown_two (a b : PyData) : (PyData.tuple [a, b]).shown.length ≤ a.shown.length + b.shown.length + 7 := by
  have h := tupleText_len_le [a.shown, b.shown]
  simp only [PyData.shown, PyData.shownAll]
  simp only [List.map_cons, List.map_nil, List.sum_cons, List.sum_nil, List.length_cons, List.length_nil] at h
  omega
theorem shown_three (a b c : PyData) : (PyData.tuple [a, b, c]).shown.length ≤ a.shown.length + b.shown.length + c.shown.length + 9 := by
  have h := tupleText_len_le [a.shown, b.shown, c.shown]
  simp only [PyData.shown, PyData.shownAll]
  simp only [List.map_cons, List.map_nil, List.sum_cons, List.sum_nil, List.length_cons, List.length_nil] at h
  omega
theorem Kd.shown_len : ∀ {k : Kd} {n : Nat}, k.fit n → k.dat.shown.length + 100 ≤ 300 * 2 ^ n
  | .var x, n, h => by
    have h1 := shown_two (.str "var") (.str x)
    have h2 := shown_word (wok_of_var h)
    have h3 := shown_var
    have h4 : 1 ≤ 2 ^ n := Nat.one_le_two_pow
    show (PyData.tuple [.str "var", .str x]).shown.length + 100 ≤ _
    omega
  | .con x, n, h => by
    have h1 := shown_two (.str "con") (.str x)
    have h2 := shown_word (wok_of_con h)
    have h3 := shown_con
    have h4 : 1 ≤ 2 ^ n := Nat.one_le_two_pow
    show (PyData.tuple [.str "con", .str x]).shown.length + 100 ≤ _
    omega
  | .app a b, n, h => by
    obtain ⟨m, rfl, ha, hb⟩ := Kd.fit_app h
    have h1 := shown_three (.str "apply") a.dat b.dat
    have h2 := Kd.shown_len ha
    have h3 := Kd.shown_len hb
    have h4 := shown_apply
    have h5 : 2 ^ (m + 1) = 2 ^ m * 2 := Nat.pow_succ ..
    show (PyData.tuple [.str "apply", a.dat, b.dat]).shown.length + 100 ≤ _
    omega
theorem Kd.show_ok : ∀ k : Kd, k.dat.showable = true ∧ k.dat.hasDict = false
  | .var x => by simp [Kd.dat, PyData.showable, PyData.showableAll, PyData.hasDict, PyData.hasDictAll]
  | .con x => by simp [Kd.dat, PyData.showable, PyData.showableAll, PyData.hasDict, PyData.hasDictAll]
  | .app a b => by
    obtain ⟨h1, h2⟩ := Kd.show_ok a
    obtain ⟨h3, h4⟩ := Kd.show_ok b
    simp [Kd.dat, PyData.showable, PyData.showableAll, PyData.hasDict, PyData.hasDictAll, h1, h2, h3, h4]
theorem kds_show : ∀ {ks : List Kd} {n : Nat}, (∀ k ∈ ks, k.fit n) → PyData.showableAll (ks.map Kd.dat) = true ∧ PyData.hasDictAll (ks.map Kd.dat) = false ∧ PyData.depthAll (ks.map Kd.dat) ≤ n + 1 ∧ ((PyData.shownAll (ks.map Kd.dat)).map (·.length)).sum ≤ ks.length * (300 * 2 ^ n) ∧ (PyData.shownAll (ks.map Kd.dat)).length = ks.length
  | [], n, _ => by simp [PyData.showableAll, PyData.hasDictAll, PyData.depthAll, PyData.shownAll]
  | k :: r, n, h => by
    obtain ⟨h1, h2, h3, h4, h5⟩ := kds_show (ks := r) (n := n) fun y hy => h y (List.mem_cons_of_mem _ hy)
    have hk := h k List.mem_cons_self
    obtain ⟨g1, g2⟩ := Kd.show_ok k
    obtain ⟨g3, g4⟩ := Kd.lay hk
    have g5 := Kd.shown_len hk
    refine ⟨?_, ?_, ?_, ?_, ?_⟩
    · simp [PyData.showableAll, g1, h1]
    · simp [PyData.hasDictAll, g2, h2]
    · simp only [List.map_cons, PyData.depthAll]
      omega
    · have e : (r.length + 1) * (300 * 2 ^ n) = r.length * (300 * 2 ^ n) + 300 * 2 ^ n := Nat.succ_mul ..
      simp only [List.map_cons, PyData.shownAll, List.sum_cons, List.length_cons]
      rw [e]
      generalize r.length * (300 * 2 ^ n) = z at h4 ⊢
      omega
    · simp [PyData.shownAll, h5]
/-- [patterns, kinds] -/
def twoD (ps ks : List Kd) : PyData := .list [.list (ps.map Kd.dat), .list (ks.map Kd.dat)]
theorem twoD_show {ps ks : List Kd} (hp : ∀ k ∈ ps, k.fit 12) (hk : ∀ k ∈ ks, k.fit 12) (lp : ps.length ≤ 4) (lk : ks.length ≤ 4) :
    (twoD ps ks).showable = true ∧ (twoD ps ks).hasDict = false ∧ (twoD ps ks).depth ≤ 60 ∧ (twoD ps ks).shown.length ≤ sizeLine := by
  obtain ⟨a1, a2, a3, a4, a5⟩ := kds_show hp
  obtain ⟨b1, b2, b3, b4, b5⟩ := kds_show hk
  refine ⟨?_, ?_, ?_, ?_⟩
  · simp [twoD, PyData.showable, PyData.showableAll, a1, b1]
  · simp [twoD, PyData.hasDict, PyData.hasDictAll, a2, b2]
  · simp only [twoD, PyData.depth, PyData.depthAll]
    omega
  · have h := listText_len_le [listText (PyData.shownAll (ps.map Kd.dat)), listText (PyData.shownAll (ks.map Kd.dat))]
    have h1 := listText_len_le (PyData.shownAll (ps.map Kd.dat))
    have h2 := listText_len_le (PyData.shownAll (ks.map Kd.dat))
    have c1 : ps.length * (300 * 2 ^ 12) ≤ 4 * (300 * 2 ^ 12) := Nat.mul_le_mul_right _ lp
    have c2 : ks.length * (300 * 2 ^ 12) ≤ 4 * (300 * 2 ^ 12) := Nat.mul_le_mul_right _ lk
    simp only [List.map_cons, List.map_nil, List.sum_cons, List.sum_nil, List.length_cons, List.length_nil] at h
    simp only [twoD, PyData.shown, PyData.shownAll]
    have e := sizeLine_eq
    rw [e]
    omega
end L3

set_option maxHeartbeats 4000000
/-! values of any kind: none, bools, ints, texts, lists, tuples, dicts; literals; repr -/
namespace L3
open PySem PySem.Spec PyProof.Rows L2
mutual
/-- v is d; t is where the tape stands -/
inductive Da (t : Addr) (H : Hp) : V → PyData → Prop
  | non : Da t H .non .none
  | bl (b : Bool) : Da t H (.bl b) (.bool b)
  | int (i : Int) : Da t H (.int i) (.int i)
  | str (x : Str) : Da t H (.str x) (.str x)
  | lst {a : Addr} {xs : List V} {ds : List PyData} : H a = some (.lst xs) → a ≠ sysModules → DaAll t H xs ds → Da t H (.ref a) (.list ds)
  | tup {a : Addr} {xs : List V} {ds : List PyData} : H a = some (.tup xs) → DaAll t H xs ds → Da t H (.ref a) (.tuple ds)
  | dct {a : Addr} {kvs : List (Key × V)} {ds : List (PyData × PyData)} : H a = some (.dK kvs) → a ≠ t → DaKv t H kvs ds → Da t H (.ref a) (.dict ds)
inductive DaAll (t : Addr) (H : Hp) : List V → List PyData → Prop
  | nil : DaAll t H [] []
  | cons {v : V} {vs : List V} {d : PyData} {ds : List PyData} : Da t H v d → DaAll t H vs ds → DaAll t H (v :: vs) (d :: ds)
inductive DaKv (t : Addr) (H : Hp) : List (Key × V) → List (PyData × PyData) → Prop
  | nil : DaKv t H [] []
  | cons {x : Str} {v : V} {vs : List (Key × V)} {d : PyData} {ds : List (PyData × PyData)} : Da t H v d → DaKv t H vs ds → DaKv t H ((.inr x, v) :: vs) ((.str x, d) :: ds)
end
/-- what a change of the heap has to keep -/
structure Kp (t : Addr) (H H' : Hp) : Prop where
  l : ∀ a xs, H a = some (.lst xs) → H' a = some (.lst xs)
  u : ∀ a xs, H a = some (.tup xs) → H' a = some (.tup xs)
  d : ∀ a kvs, a ≠ t → H a = some (.dK kvs) → H' a = some (.dK kvs)
mutual
theorem Da.kp {t : Addr} {H H' : Hp} (e : Kp t H H') : ∀ {d : PyData} {v : V}, Da t H v d → Da t H' v d
  | .none, _, h => by cases h; exact .non
  | .bool b, _, h => by cases h; exact .bl b
  | .int i, _, h => by cases h; exact .int i
  | .str x, _, h => by cases h; exact .str x
  | .list ds, _, h => by
    cases h with
    | lst h1 h2 h3 => exact .lst (e.l _ _ h1) h2 (DaAll.kp e h3)
  | .tuple ds, _, h => by
    cases h with
    | tup h1 h3 => exact .tup (e.u _ _ h1) (DaAll.kp e h3)
  | .dict ds, _, h => by
    cases h with
    | dct h1 h2 h3 => exact .dct (e.d _ _ h2 h1) h2 (DaKv.kp e h3)
theorem DaAll.kp {t : Addr} {H H' : Hp} (e : Kp t H H') : ∀ {ds : List PyData} {vs : List V}, DaAll t H vs ds → DaAll t H' vs ds
  | [], _, h => by cases h; exact .nil
  | d :: ds, _, h => by
    cases h with
    | cons h1 h2 => exact .cons (Da.kp e h1) (DaAll.kp e h2)
theorem DaKv.kp {t : Addr} {H H' : Hp} (e : Kp t H H') : ∀ {ds : List (PyData × PyData)} {vs : List (Key × V)}, DaKv t H vs ds → DaKv t H' vs ds
  | [], _, h => by cases h; exact .nil
  | d :: ds, _, h => by
    cases h with
    | cons h1 h2 => exact .cons (Da.kp e h1) (DaKv.kp e h2)
end
theorem kp_same {t : Addr} {H H' : Hp} (e : Same H H') : Kp t H H' := ⟨fun _ _ h => e _ _ h, fun _ _ h => e _ _ h, fun _ _ _ h => e _ _ h⟩
theorem DaAll.len {t : Addr} {H : Hp} : ∀ {vs : List V} {ds : List PyData}, DaAll t H vs ds → vs.length = ds.length
  | _, [], h => by cases h; rfl
  | _, d :: ds, h => by
    cases h with
    | cons _ h => rw [List.length_cons, List.length_cons, DaAll.len h]
theorem DaAll.app {t : Addr} {H : Hp} : ∀ {vs ws : List V} {ds es : List PyData}, DaAll t H vs ds → DaAll t H ws es → DaAll t H (vs ++ ws) (ds ++ es)
  | _, _, [], _, h, g => by cases h; exact g
  | _, _, d :: ds, _, h, g => by
    cases h with
    | cons h1 h2 => exact .cons h1 (DaAll.app h2 g)
theorem DaAll.mem {t : Addr} {H : Hp} {v : V} : ∀ {vs : List V} {ds : List PyData}, DaAll t H vs ds → v ∈ vs → ∃ d ∈ ds, Da t H v d
  | _, [], h, hv => by cases h; cases hv
  | _, d :: ds, h, hv => by
    cases h with
    | cons h1 h2 =>
      rcases List.mem_cons.mp hv with e | hv
      · exact ⟨d, List.mem_cons_self, by rw [e]; exact h1⟩
      · obtain ⟨d', m, q⟩ := DaAll.mem h2 hv
        exact ⟨d', List.mem_cons_of_mem _ m, q⟩
/-! ### read by the library -/
section
variable {X : Cx} {pins : List (Addr × Obj)} {σ : L2.St} {H : Hp} {s : Shared} {t : Addr}
theorem kv_keys {knd : KeyKind X.prog X.w Key} (hk : knd.is = keyIs) : ∀ {kvs : List (Key × V)} {ds : List (PyData × PyData)} {es : List DictEntry} {vs : List (Key × Value)}, DaKv t H kvs ds → KV kvs vs → Pairs knd es vs → ReadsAll s.heap (es.map (·.key)) (ds.map (·.1)) []
  | _, [], _, _, h, h2, h3 => by
    cases h
    cases h2
    cases h3
    exact ReadsAll.nil
  | _, (q, d) :: ds, [], _, h, h2, h3 => by
    cases h3
    cases h2
    cases h
  | _, (q, d) :: ds, e :: es, _, h, h2, h3 => by
    cases h with
    | @cons x v vs d' ds' g1 g2 =>
      cases h2 with
      | cons e2 t2 =>
        cases h3 with
        | cons p1 p2 t3 =>
          obtain ⟨e2, _⟩ := e2
          rw [hk] at p1
          have h1' : keyIs _ e.key = true := p1
          rw [← e2] at h1'
          obtain ⟨tk, ht⟩ := Value.isStrOf_shape (x := x) (v := e.key) h1'
          have ih := kv_keys hk g2 t2 t3
          show ReadsAll s.heap (e.key :: es.map (·.key)) (PyData.str x :: _) []
          rw [ht]
          exact ReadsAll.cons (as := []) (bs := []) (Reads.str _ _) ih
mutual
theorem Da.reads (I : Inv X pins σ H s) : ∀ (d : PyData) (v : V) (u : Value), Da t H v d → RelV v u → ∃ as, Reads s.heap u d as ∧ sysModules ∉ as
  | .none, _, _, h, r => by
    cases h
    cases r
    exact ⟨_, Reads.none, List.not_mem_nil⟩
  | .bool b, _, _, h, r => by
    cases h
    cases r
    exact ⟨_, Reads.bool b, List.not_mem_nil⟩
  | .int i, _, _, h, r => by
    cases h
    obtain ⟨k, rfl⟩ := r
    exact ⟨_, Reads.int i k, List.not_mem_nil⟩
  | .str x, _, _, h, r => by
    cases h
    obtain ⟨k, rfl⟩ := r
    exact ⟨_, Reads.str x k, List.not_mem_nil⟩
  | .list ds, _, u, h, r => by
    cases h with
    | @lst a xs _ hs ns ha =>
      obtain rfl : u = Value.ref a := r
      obtain ⟨its, rv, ⟨o, n, ho, hc, _, hd⟩, _⟩ := I.list (SqL.of hs)
      obtain ⟨as, hr, q⟩ := Da.readsAll I ds _ its ha rv
      exact ⟨_, Reads.list ho hc hd hr, fun z => (List.mem_cons.mp z).elim (fun e => ns e.symm) q⟩
  | .tuple ds, _, u, h, r => by
    cases h with
    | @tup a xs _ hs ha =>
      obtain rfl : u = Value.ref a := r
      obtain ⟨its, rv, ⟨o, ho, hc, n, hd⟩, _⟩ := I.tuple (SqT.of hs)
      obtain ⟨as, hr, q⟩ := Da.readsAll I ds _ its ha rv
      exact ⟨_, Reads.tuple ho hc hd hr, q⟩
  | .dict ds, _, u, h, r => by
    cases h with
    | @dct a kvs _ hs na ha =>
      obtain rfl : u = Value.ref a := r
      obtain ⟨_, lo, vs, ra, da⟩ := (show ObjOk X.prog X.w H s.heap a (.dK kvs) from I.hok a _ hs)
      obtain ⟨ep, o, es, ho, hx, hdat, _, pr, _⟩ := da.dictAt
      obtain ⟨bs, hr, q⟩ := Da.readsKv I ds kvs _ vs ha ra pr
      refine ⟨_, Reads.dict (as := []) ho hx.1 hdat (kv_keys rfl ha ra pr) hr, fun z => ?_⟩
      rcases List.mem_append.mp z with e | e
      · have e := List.mem_singleton.mp e
        rw [← e] at lo
        simp at lo
      · exact q e
theorem Da.readsAll (I : Inv X pins σ H s) : ∀ (ds : List PyData) (vs : List V) (us : List Value), DaAll t H vs ds → Vals vs us → ∃ as, ReadsAll s.heap us ds as ∧ sysModules ∉ as
  | [], _, _, h, r => by
    cases h
    cases r
    exact ⟨_, ReadsAll.nil, List.not_mem_nil⟩
  | d :: ds, _, _, h, r => by
    cases h with
    | cons h1 h2 =>
      cases r with
      | cons r1 r2 =>
        obtain ⟨as, q1, n1⟩ := Da.reads I d _ _ h1 r1
        obtain ⟨bs, q2, n2⟩ := Da.readsAll I ds _ _ h2 r2
        exact ⟨_, ReadsAll.cons q1 q2, fun z => (List.mem_append.mp z).elim n1 n2⟩
theorem Da.readsKv (I : Inv X pins σ H s) {knd : KeyKind X.prog X.w Key} : ∀ (ds : List (PyData × PyData)) (kvs : List (Key × V)) (es : List DictEntry) (vs : List (Key × Value)), DaKv t H kvs ds → KV kvs vs → Pairs knd es vs → ∃ as, ReadsAll s.heap (es.map (·.val)) (ds.map (·.2)) as ∧ sysModules ∉ as
  | [], _, _, _, h, h2, h3 => by
    cases h
    cases h2
    cases h3
    exact ⟨_, ReadsAll.nil, List.not_mem_nil⟩
  | (q, d) :: ds, _, [], _, h, h2, h3 => by
    cases h3
    cases h2
    cases h
  | (q, d) :: ds, _, e :: es', _, h, h2, h3 => by
    cases h with
    | @cons x v vs d' ds' g1 g2 =>
      cases h2 with
      | cons e2 t2 =>
        cases h3 with
        | cons p1 p2 t3 =>
          obtain ⟨_, r⟩ := e2
          obtain ⟨as, q1, n1⟩ := Da.reads I d _ _ g1 r
          obtain ⟨bs, q2, n2⟩ := Da.readsKv I ds _ es' _ g2 t2 t3
          have h2' : e.val = _ := p2
          refine ⟨_, ?_, fun z => (List.mem_append.mp z).elim n1 n2⟩
          show ReadsAll s.heap (e.val :: es'.map (·.val)) (d :: _) _
          rw [h2']
          exact ReadsAll.cons q1 q2
end
/-- repr of a list, a tuple or a dict of such values -/
def rReprA (t : Addr) : List V → Hp → VK → Prop := fun xs H Q => ∃ (a : Addr) (d : PyData), xs = [.ref a] ∧ Da t H (.ref a) d ∧ d.showable = true ∧ d.depth ≤ 60 ∧ d.shown.length ≤ sizeLine ∧ Q (.str d.shown) H
theorem call_reprA (t : Addr) (hg : X.A.guards = some []) (hu : X.A.units + 64 < cLine) : CallR X (.builtin "repr") (rReprA t) := by
  intro pins s σ H xs us Q I r h
  obtain ⟨a, d, rfl, hd, hs, hdep, hsz, q⟩ := h
  obtain ⟨u, rfl, rx⟩ := vals1 r
  obtain rfl : u = Value.ref a := rx
  obtain ⟨as, hr, n⟩ := Da.reads I d _ _ hd (show RelV (.ref a) (.ref a) from rfl)
  exact repr_of_reads' hr hs (fun _ => n) hg (by omega) (fun _ _ e => e) (fun h' u tk hk => ⟨.str d.shown, H, I.kept (t' := tk) hk, ⟨u, rfl⟩, q⟩) hsz
end
/-! ### literals -/
section
variable {X : Cx} {e : Expr} {es : List Expr} {pos : Pos} {t : Addr}
theorem _root_.L2.PE.weak {te te' : TE} (h : PE X e te) (m : ∀ σ H Q, te' σ H Q → te σ H Q) : PE X e te' := ⟨fun pins s σ H Q I q => h.run pins s σ H Q I (m σ H Q q)⟩
theorem _root_.L2.PA.weak {te te' : TA} (h : PA X es te) (m : ∀ σ H Q, te' σ H Q → te σ H Q) : PA X es te' := ⟨fun pos pins s σ H Q I q => h.run pos pins s σ H Q I (m σ H Q q)⟩
/-- a value that is d, all else is kept -/
def tLit (t : Addr) (d : PyData) : TE := fun _ H Q => (∃ o, H t = some o) ∧ ∀ H' v, Same H H' → Da t H' v d → Q v H'
def tLits (t : Addr) (ds : List PyData) : TA := fun _ H Q => (∃ o, H t = some o) ∧ ∀ H' vs, Same H H' → DaAll t H' vs ds → Q vs H'
/-- a new list of such values -/
def tLitL (t : Addr) (ds : List PyData) : TE := fun _ H Q => (∃ o, H t = some o) ∧ ∀ H' l vs, Same H H' → l ≠ sysModules → H' l = some (.lst vs) → DaAll t H' vs ds → Q (.ref l) H'
theorem pl_nil : PA X [] (tLits t []) := pa_nil.weak fun σ H Q h => h.2 H [] (Same.refl H) .nil
theorem pl_cons {d : PyData} {ds : List PyData} (ha : PE X e (tLit t d)) (hr : PA X es (tLits t ds)) (hs : starEach (e :: es) X.env = (false, eval e X.env) :: starEach es X.env := by rfl) : PA X (e :: es) (tLits t (d :: ds)) :=
  (pa_cons ha hr hs).weak fun σ H Q ⟨⟨o, ho⟩, h⟩ => ⟨⟨o, ho⟩, fun H1 v s1 d1 => ⟨⟨o, s1 _ _ ho⟩, fun H2 vs s2 d2 => h H2 (v :: vs) (s1.trans s2) (.cons (d1.kp (kp_same s2)) d2)⟩⟩
theorem pl_tup {x1} {ds : List PyData} (h : PA X es (tLits t ds)) (hz : ds.length ≤ 1000 := by decide) : PE X (.Tuple es x1 pos) (tLit t (.tuple ds)) :=
  (pe_tup h).weak fun σ H Q ⟨⟨o, ho⟩, h⟩ => ⟨⟨o, ho⟩, fun H1 vs s1 d1 => ⟨by rw [d1.len, sizeLine_eq]; omega, fun p hp => h _ _ (s1.trans (same_new hp)) (.tup upd_same (d1.kp (kp_same (same_new hp))))⟩⟩
theorem pl_lstL {ds : List PyData} (h : PA X es (tLits t ds)) (hz : ds.length ≤ 1000 := by decide) : PE X (.List es pos) (tLitL t ds) := by
  refine ⟨fun pins s σ H Q I hq => ?_⟩
  obtain ⟨ho, hq⟩ := hq
  refine wpAny_List_spliced (thn (h.run pos pins s σ H (fun vs H1 => Same H H1 ∧ DaAll t H1 vs ds) I ⟨ho, fun H1 vs s1 d1 => ⟨s1, d1⟩⟩) fun us s1 ⟨xs, H1, I1, r, sm, dd⟩ => ⟨by rw [← r.length, dd.len, sizeLine_eq]; omega, ?_⟩)
  have hf : H1 s1.heap.objs.size = none := I1.hok.fresh (Nat.le_refl _)
  refine ⟨.ref s1.heap.objs.size, upd H1 s1.heap.objs.size (.lst xs), I1.laid (t' := s1.toks) (fun b u e => Heap.get?_push_of_some _ e) (Nat.le_refl _) ?_, rfl, hq _ _ xs (sm.trans (same_new hf)) (Nat.ne_of_gt I1.big) upd_same (dd.kp (kp_same (same_new hf)))⟩
  exact ⟨by rw [dd.len, sizeLine_eq]; omega, us, 0, r, Heap.get?_push_size _ rfl⟩
theorem pl_lst {ds : List PyData} (h : PA X es (tLits t ds)) (hz : ds.length ≤ 1000 := by decide) : PE X (.List es pos) (tLit t (.list ds)) :=
  (pl_lstL h hz).weak fun σ H Q ⟨ho, h⟩ => ⟨ho, fun H1 l vs s1 n1 g1 d1 => h _ _ s1 (.lst g1 n1 d1)⟩
theorem pl_c {x : V} {d : PyData} (h : PE X e (tC x)) (m : ∀ H, Da t H x d) : PE X e (tLit t d) := h.weak fun σ H Q ⟨_, h⟩ => h H x (Same.refl H) (m H)
theorem pl_d0 : PE X (.Dict [] [] pos) (tLit t (.dict [])) :=
  pe_dnewK.weak fun σ H Q ⟨⟨o, ho⟩, h⟩ p hp => h _ _ (same_new hp) (.dct upd_same (fun e => by rw [e, ho] at hp; cases hp) .nil)
theorem pl_neg {i : Int} (h : PE X e (tC (.int i))) : PE X (.UnaryOp .USub e pos) (tLit t (.int (-i))) :=
  (pe_un un_neg h).weak fun σ H Q ⟨_, q⟩ => ⟨_, rfl, q H _ (Same.refl H) (.int _)⟩
theorem pl_pow {e2 : Expr} {i j : Int} (h : PE X e (tC (.int i))) (h2 : PE X e2 (tC (.int j))) (hc : CPow i j := by decide) : PE X (.BinOp e .Pow e2 pos) (tLit t (.int (i ^ j.toNat))) :=
  (pe_op op_pow h h2).weak fun σ H Q ⟨_, q⟩ => ⟨_, _, rfl, rfl, hc, q H _ (Same.refl H) (.int _)⟩
theorem pl_d1 {x : Str} {i : Int} {p1 p2 : Pos} {k1 k2} : PE X (.Dict [some (.Constant (.str x) k1 p1)] [.Constant (.int i) k2 p2] pos) (tLit t (.dict [(.str x, .int i)])) :=
  (pe_disp (pps_cons pe_str pe_int pps_nil) (by rfl) (by rfl) (fun z => by cases z) (by show 1 ≤ 15; decide)).weak fun σ H Q ⟨⟨o, ho⟩, h⟩ p hp => ⟨upd_same, [(.inr x, .int i)], rfl, by show 1 ≤ 15; decide, h _ _ (fun b o' e => by
    rw [upd_ne (ne_of_none e hp), upd_ne (ne_of_none e hp)]
    exact e) (.dct upd_same (fun e => by rw [e, ho] at hp; cases hp) (.cons (.int i) .nil))⟩
end
end L3

/-! a value of any kind: its type; beside a text -/
namespace L3
open PySem PySem.Spec PyProof.Rows L2
open PySem.SeqAt
theorem dict_eq_declines_str (a : Addr) (es : Array DictEntry) (n : Nat) (dd : Option Addr) (sl : Array (Option Value)) (b : Str) (u : Tok) :
    Meets (Builtin.«dict.__eq__» ⟨[.ref a, .str b u], []⟩) (fun _ R s => s.heap.get? a = some { cls := .type "dict", dict := dd, data := .dict es n, slots := sl } ∧ R (.ok (.ret .notImplemented)) s) :=
  .of_wp fun prog w A R s h => by
    obtain ⟨hl, h⟩ := h
    have tA : s.TypeIs (.ref a) "dict" := ⟨_, hl, rfl⟩
    show wpAny _ _ (Builtin.Dict.dictSlotArgs "__eq__" ⟨[.ref a, .str b u], []⟩ >>= _) _ _ s
    refine wpAny_bind ?_
    unfold Builtin.Dict.dictSlotArgs
    refine wpAny_bind (wpAny_notOrdered_dict tA ?_)
    show wpAny _ _ (pure (Value.ref a, Value.str b u)) _ _ s
    refine wpAny_pure ?_
    refine wpAny_bind (wpAny_isInstance (T := "str") (typeIs_str s b u) F.sub_str_dict ?_)
    simp only [Bool.not_false, if_true]
    exact wpAny_bind (wpAny_rule (wpAny_pure ⟨_, rfl, h⟩))
theorem str_eq_declines_dict (b : Str) (u : Tok) (l : Addr) (c : Value) (es : Array DictEntry) (n : Nat) (dd : Option Addr) (sl : Array (Option Value)) :
    Meets (Builtin.«str.__eq__» ⟨[.str b u, .ref l], []⟩) (fun _ R s => s.heap.get? l = some { cls := c, dict := dd, data := .dict es n, slots := sl } ∧ R (.ok (.ret .notImplemented)) s) :=
  .of_wp fun prog w A R s h => by obtain ⟨hp, g, d, tk, os⟩ := s; obtain ⟨hl, h⟩ := h; wp_walk using wpAny_loadPart' hl, wpAny_load hl; exact ⟨_, rfl, h⟩
section
variable {A : Around} {s : Shared}
theorem rc_dict_str {l : Addr} {o : Obj} {es : Array DictEntry} {n : Nat} (b : Str) (u : Tok) (ho : s.heap.get? l = some o) (hc : o.cls = .type "dict") (hd : o.data = .dict es n) (hu : A.units < cLine) : RcAt A s (.ref l) (.str b u) false := fun prog w E Q h => by
  obtain ⟨cls, dd, data, sl⟩ := o
  simp only at hc hd
  subst hc hd
  exact rc_eq_decline_or (k := false) ⟨_, ho, rfl⟩ (typeIs_str s b u) (by decide) F.sub_str_dict F.slot_dict_eq F.slot_str_eq_refl
    (fun _ hq => call_meets F.slot_dict_eq ⟨_, ho, rfl⟩ F.entry_dict_eq (F.args_dict_eq_2 _ _) (dict_eq_declines_str l es n dd sl b u) ⟨ho, hq⟩)
    (fun _ hq => call_meets F.slot_str_eq_refl (typeIs_str s b u) F.entry_str_eq (F.args_str_eq_2 _ _) (str_eq_declines_dict b u l (.type "dict") es n dd sl) ⟨ho, hq⟩)
    (fun _ hq => wpAny_of_eq (rfl : isSame (.ref l) (.str b u) = pure false) hq) (.inr hu) h
end
/-- whether a value is this text -/
def isS (x : Str) : PyData → Bool
  | .str y => decide (y = x)
  | _ => false
def tyName : PyData → String
  | .none => "NoneType"
  | .bool _ => "bool"
  | .int _ => "int"
  | .str _ => "str"
  | .list _ => "list"
  | .tuple _ => "tuple"
  | .dict _ => "dict"
section
variable {X : Cx} {pins : List (Addr × Obj)} {σ : L2.St} {H : Hp} {s : Shared}
def rEqStr (t : Addr) : R2 := fun x y H Q => ∃ (d : PyData) (z : Str), y = .str z ∧ Da t H x d ∧ Q (.bl (isS z d)) H
theorem op_eqStr {t : Addr} (hu : X.A.units + 64 < cLine) : OpR X (compareOp .Eq) (rEqStr t) := by
  intro pins s σ H x y v u Q I rx ry h
  obtain ⟨d, z, rfl, hd, q⟩ := h
  obtain ⟨tk, rfl⟩ := (show ∃ k, u = Value.str z k from ry)
  have hu' : X.A.units < cLine := by omega
  have fin : ∀ b : Bool, b = isS z d → EP X pins σ Q (.bool b) s := fun b e => ⟨.bl b, H, I, rfl, by rw [e]; exact q⟩
  cases d with
  | none =>
    cases hd
    cases (show v = Value.none from rx)
    exact RcAt.none_str z tk _ _ _ _ (fin _ rfl)
  | bool b =>
    cases hd
    cases (show v = Value.bool b from rx)
    exact RcAt.bool_str b z tk _ _ _ _ (fin _ rfl)
  | int i =>
    cases hd
    obtain ⟨k, rfl⟩ := (show ∃ k, v = Value.int i k from rx)
    exact RcAt.int_str i k z tk _ _ _ _ (fin _ rfl)
  | str y =>
    cases hd
    obtain ⟨k, rfl⟩ := (show ∃ k, v = Value.str y k from rx)
    exact RcAt.str_str y k z tk _ _ _ _ (fin _ (str_beq y z))
  | list ds =>
    cases hd with
    | @lst a xs _ hs ns ha =>
      obtain rfl : v = Value.ref a := rx
      obtain ⟨its, rv, ⟨o, n, ho, hc, _, hd⟩, _⟩ := I.list (SqL.of hs)
      exact RcAt.list_str z tk ⟨o, ho, hc, n, hd⟩ hu' _ _ _ _ (fin _ rfl)
  | tuple ds =>
    cases hd with
    | @tup a xs _ hs ha =>
      obtain rfl : v = Value.ref a := rx
      obtain ⟨its, rv, ⟨o, ho, hc, n, hd⟩, _⟩ := I.tuple (SqT.of hs)
      exact RcAt.tuple_str z tk ⟨o, ho, hc, n, hd⟩ hu' _ _ _ _ (fin _ rfl)
  | dict ds =>
    cases hd with
    | @dct a kvs _ hs na ha =>
      obtain rfl : v = Value.ref a := rx
      obtain ⟨_, lo, vs, ra, da⟩ := (show ObjOk X.prog X.w H s.heap a (.dK kvs) from I.hok a _ hs)
      obtain ⟨ep, o, es, ho, hx, hdat, _, pr, _⟩ := da.dictAt
      exact rc_dict_str z tk ho hx.1 hdat hu' _ _ _ _ (fin _ rfl)
theorem Da.ty {K : PySem.W.Frag} {t : Addr} {v : V} {d : PyData} (h : Da t H v d) : TyX K H v (.type (tyName d)) := by
  cases d with
  | none => cases h; exact .base .non
  | bool b => cases h; exact .base (.bl b)
  | int i => cases h; exact .base (.int i)
  | str y => cases h; exact .base (.str y)
  | list ds =>
    cases h with
    | lst h1 _ _ => exact .base (.lst h1)
  | tuple ds =>
    cases h with
    | tup h1 _ => exact .base (.tup h1)
  | dict ds =>
    cases h with
    | dct h1 _ _ => exact .base (.dK h1)
def isStr : PyData → Bool
  | .str _ => true
  | _ => false
def isTup : PyData → Bool
  | .tuple _ => true
  | _ => false
theorem kit_str {K : PySem.W.Frag} (d : PyData) : PySem.W.kitOne K (.type (tyName d)) (.type "str") = some (isStr d) := by
  cases d with
  | none => exact kit_ty (show kitB "NoneType" "str" = some false by decide +kernel)
  | bool _ => exact kit_ty (show kitB "bool" "str" = some false by decide +kernel)
  | int _ => exact kit_ty (show kitB "int" "str" = some false by decide +kernel)
  | str _ => exact kit_ty (show kitB "str" "str" = some true by decide +kernel)
  | list _ => exact kit_ty (show kitB "list" "str" = some false by decide +kernel)
  | tuple _ => exact kit_ty (show kitB "tuple" "str" = some false by decide +kernel)
  | dict _ => exact kit_ty (show kitB "dict" "str" = some false by decide +kernel)
theorem kit_tup {K : PySem.W.Frag} (d : PyData) : PySem.W.kitOne K (.type (tyName d)) (.type "tuple") = some (isTup d) := by
  cases d with
  | none => exact kit_ty (show kitB "NoneType" "tuple" = some false by decide +kernel)
  | bool _ => exact kit_ty (show kitB "bool" "tuple" = some false by decide +kernel)
  | int _ => exact kit_ty (show kitB "int" "tuple" = some false by decide +kernel)
  | str _ => exact kit_ty (show kitB "str" "tuple" = some false by decide +kernel)
  | list _ => exact kit_ty (show kitB "list" "tuple" = some false by decide +kernel)
  | tuple _ => exact kit_ty (show kitB "tuple" "tuple" = some true by decide +kernel)
  | dict _ => exact kit_ty (show kitB "dict" "tuple" = some false by decide +kernel)
end
end L3

/-! names, wholes, texts among values of any kind -/
namespace L3
open PySem L2
theorem szl {n : Nat} (h : n ≤ 1000000) : n < sizeLine := Nat.lt_of_le_of_lt h (by decide)
structure Bl9 (mg : Str → Option Value) : Prop where
  isinstance : mg "isinstance" = none
  all : mg "all" = none
  str_ : mg "str" = none
  tuple : mg "tuple" = none
  bool : mg "bool" = none
  int : mg "int" = none
  ord : mg "ord" = none
  abs : mg "abs" = none
  max : mg "max" = none
def barL : List Str := ["data", "role", "case", "define", "derive", "picks", "above", "settles", "member", "as", "if", "given", "let", "and", "in", "match", "end"]
theorem pe_gc {X : Cx} {x : Str} {v : V} {pos : Pos} (hg : Gl X x) (h : ∃ u, X.mg x = some u ∧ RelV v u) (hd : (x == ("__debug__" : Str)) = false := by decide) : PE X (.Name x pos) (tC v) := by
  obtain ⟨u, e, r⟩ := h
  exact pe_glob hg e r hd
/-- a sign from a to z -/
def lo (c : Nat) : Bool := decide (97 ≤ c) && decide (c ≤ 122)
/-- 1 to 8 letters -/
def wok (x : Str) : Bool := decide (1 ≤ x.length) && decide (x.length ≤ 8) && x.cps.all lo
def isWordD : PyData → Bool
  | .str x => wok x
  | _ => false
def isNameD : PyData → Bool
  | .str x => wok x && !decide (x ∈ barL)
  | _ => false
def isIntD : PyData → Bool
  | .int _ => true
  | _ => false
def isWholeD : PyData → Bool
  | .int i => decide (-(10 ^ 30) ≤ i) && decide (i ≤ 10 ^ 30)
  | _ => false
/-- a sign that a text may have -/
def sgnT (c : Nat) : Bool := decide (32 ≤ c) && decide (c ≤ 126) && !decide (c = 37)
def isTextD : PyData → Bool
  | .str x => decide (x.length ≤ 200) && x.cps.all sgnT
  | _ => false
theorem lo_tab : ∀ c, c < 128 → (Unicode.isAlpha c && Unicode.isUpper c) = (decide (65 ≤ c) && decide (c ≤ 90)) ∧ Unicode.isAlpha c = (decide (65 ≤ c) && decide (c ≤ 90) || lo c) ∧ Unicode.isLower c = lo c ∧ (Unicode.isUpper c || Unicode.isTitle c) = (decide (65 ≤ c) && decide (c ≤ 90)) := by decide +kernel
theorem asc_low {x : Str} (h1 : 1 ≤ x.length) : (Txt.isascii x && (Txt.isalpha x && Txt.islower x)) = x.cps.all lo := by
  have hl : ∀ p : Nat → Bool, x.cps.all p = x.cps.toList.all p := fun p => (Array.all_toList).symm
  have hn : ∀ p : Nat → Bool, x.cps.any p = x.cps.toList.any p := fun p => (Array.any_toList).symm
  unfold Txt.isascii Txt.isalpha Txt.islower
  have e1 : decide (x.length > 0) = true := decide_eq_true h1
  rw [e1, hl, hl, hl, hn, hn]
  have h1 : 0 < x.cps.toList.length := by
    rw [Array.length_toList]
    exact h1
  generalize x.cps.toList = l at h1 ⊢
  rw [Bool.eq_iff_iff]
  simp only [Bool.true_and, Bool.and_eq_true, List.all_eq_true, List.any_eq_true, Bool.not_eq_true', List.any_eq_false, decide_eq_true_eq]
  constructor
  · rintro ⟨ha, hb, _, hc⟩ c m
    obtain ⟨_, t2, _, t4⟩ := lo_tab c (ha c m)
    have b := hb c m
    have u := hc c m
    rw [t4] at u
    rw [t2, Bool.or_eq_true] at b
    rcases b with b | b
    · exact absurd b u
    · exact b
  · intro h
    have small : ∀ c ∈ l, c < 128 := fun c m => by
      have := h c m
      unfold lo at this
      simp only [Bool.and_eq_true, decide_eq_true_eq] at this
      omega
    refine ⟨small, fun c m => ?_, ?_, fun c m => ?_⟩
    · rw [(lo_tab c (small c m)).2.1, h c m, Bool.or_true]
    · obtain ⟨c, m⟩ := List.exists_mem_of_length_pos h1
      exact ⟨c, m, by rw [(lo_tab c (small c m)).2.2.1]; exact h c m⟩
    · rw [(lo_tab c (small c m)).2.2.2]
      have := h c m
      unfold lo at this
      simp only [Bool.and_eq_true, decide_eq_true_eq] at this ⊢
      omega
end L3

namespace L3
open PySem L2
/-- all names in a kind are names -/
def Kd.nmd : Kd → Prop
  | .var x => isNameD (.str x) = true
  | .con x => isNameD (.str x) = true
  | .app a b => a.nmd ∧ b.nmd
theorem nmd_fold : ∀ {ks : List Kd} {h : Kd}, h.nmd → (∀ k ∈ ks, k.nmd) → (ks.foldl Kd.app h).nmd
  | [], _, h1, _ => h1
  | k :: r, h, h1, h2 => nmd_fold (ks := r) (h := .app h k) ⟨h1, h2 k List.mem_cons_self⟩ fun y hy => h2 y (List.mem_cons_of_mem _ hy)
theorem nmd_conK {x : Str} {ks : List Kd} (hx : isNameD (.str x) = true) (h : ∀ k ∈ ks, k.nmd) : (conK x ks).nmd := nmd_fold (h := .con x) hx h
/-- rows (name, how many parts) -/
def ConsN (K : PySem.W.Frag) (H : Hp) (l : Addr) : Prop := ∃ xs, SqL K H l xs ∧ 0 < xs.length ∧ xs.length < 1000 ∧ ∀ v ∈ xs, ∃ (a : Addr) (x : Str) (m : Nat), v = .ref a ∧ H a = some (.tup [.str x, .int (m : Int)]) ∧ m ≤ 2 ∧ Wok x ∧ isNameD (.str x) = true
theorem ConsN.ext {K : PySem.W.Frag} {t c : Addr} {b : Nat} {H H' : Hp} {l : Addr} (h : ConsN K H l) (hT : Tape K H t c b) (e : Ext t H H') : ConsN K H' l := by
  obtain ⟨xs, h1, h2, h3, h4⟩ := h
  refine ⟨xs, SqL.extT h1 hT e, h2, h3, fun v hv => ?_⟩
  obtain ⟨a, x, m, e1, e2, e3, e4⟩ := h4 v hv
  exact ⟨a, x, m, e1, Ext.tups e hT _ _ e2, e3, e4⟩
section
variable {P : Program} {w : World} {K : PySem.W.Frag} {mg : Str → Option Value} {base : Heap}
abbrev s__law_letter_kind : Stmt := topS 60
abbrev N__law_letter_kind : List Str := ["_law_tape", "_law_names", "_law_cons", "_law_deep", "_law_name", "_law_many", "_law_parts", "_law_k"]
theorem sc__law_letter_kind : FnScope N__law_letter_kind ["_law_tape", "_law_names", "_law_cons", "_law_deep"] (defScope s__law_letter_kind) := ⟨rfl, rfl, rfl, by decide +kernel, rfl, by decide +kernel, by decide +kernel⟩
def cost : Nat → Nat
  | 0 => 3
  | n + 1 => 5 + 2 * cost n
def spLK (K : PySem.W.Frag) (n : Nat) : Sp := fun vs H Q _ => ∃ (t c ln lc : Addr) (ws : List Str) (b : Nat), vs = [.ref t, .ref ln, .ref lc, .int (n : Int)] ∧ SqL K H ln (ws.map V.str) ∧ (∀ x ∈ ws, Wok x ∧ isNameD (.str x) = true) ∧ ws.length < 1000 ∧ ConsN K H lc ∧ Tape K H t c (b + cost n) ∧
  ∀ (H' : Hp) (v : V) (k : Kd), Ext t H H' → Tape K H' t c b → KdAt H' v k → k.fit (2 * n) → Kd.of ws k → k.nmd → Q v H'
theorem ok_letter_step {n : Nat} {f : Addr} {fd : FuncData} (F : Fun K "_law_letter_kind" "_law_letter_kind" s__law_letter_kind f fd) (B : Bl mg) (D__law_draw : Kn P w K mg base 1 "_law_draw" ["_law_tape", "_law_many"] (spDraw K)) (D__law_pick : Kn P w K mg base 2 "_law_pick" ["_law_tape", "_law_items"] (spPick K))
    (D__law_con : Kn P w K mg base 1 "_law_con" ["_law_name", "_law_parts"] (spCon K)) (D__law_letter_kind : Kn P w K mg base (n + 2) "_law_letter_kind" ["_law_tape", "_law_names", "_law_cons", "_law_deep"] (spPrev (spLK K) n)) : FnOk P w K mg base CX0 (n + 3) f fd ["_law_tape", "_law_names", "_law_cons", "_law_deep"] (spLK K n) := by
  refine F.ok sc__law_letter_kind (fun vs H Q E h => ?_) (fun cdv A outer s H vs Q E hr h => ?_)
  · obtain ⟨t, c, ln, lc, ws, b, rfl, _⟩ := h
    rfl
  · obtain ⟨t, c, ln, lc, ws, b, rfl, h1, h2, h3, h4, hT, k⟩ := h
    have hr__law_draw : Room 1 _ := hr.mono (by omega)
    have hr__law_con : Room 1 _ := hr.mono (by omega)
    have hr__law_pick : Room 2 _ := hr.mono (by omega)
    have hr__law_letter_kind := hr
    have hu64 := hr.units
    have c3 : 3 ≤ cost n := by cases n <;> simp only [cost] <;> omega
    refine ⟨_, (pss_cons (ps_if (PW.pt (pw_or (pt_cmpR op_eq (pv 3) pe_int (nomark _)) (pw_or1 (pt_cmpR op_eq (pe_kn D__law_draw hr__law_draw (pa_cons (pv 0) (pa_cons pe_int pa_nil))) pe_int (nomark _)))))
  (pss_one (ps_ret (pe_ifExp (PW.pt (pw_and (pt_cmpR (op_neD hu64) (pv 1) (pe_lst pa_nil) (nomark _)) (pw_and1 (pt_cmpR op_eq (pe_kn D__law_draw hr__law_draw (pa_cons (pv 0) (pa_cons pe_int pa_nil))) pe_int (nomark _))))) (pe_tup (pa_cons pe_str (pa_cons (pe_kn D__law_pick hr__law_pick (pa_cons (pv 0) (pa_cons (pv 1) pa_nil))) pa_nil))) (pe_tup (pa_cons pe_str (pa_cons (pe_ix ix_tup (pe_kn D__law_pick hr__law_pick (pa_cons (pv 0) (pa_cons (pv 2) pa_nil))) pe_int (fun _ _ => rfl)) pa_nil))))))
  pss_nil)
  (pss_cons (ps_asg (pe_kn D__law_pick hr__law_pick (pa_cons (pv 0) (pa_cons (pv 2) pa_nil))) (pg_tup (by rfl) (pgs_cons (pg_name (i := 4) sc__law_letter_kind.nd rfl (Or.inl rfl)) (pgs_cons (pg_name (i := 5) sc__law_letter_kind.nd rfl (Or.inl rfl)) pgs_nil))))
  (pss_cons (ps_setLc (i := 6) (own := [("_law_k", 7)]) rfl sc__law_letter_kind.nd rfl rfl (sw_true rfl rfl rfl (by decide +kernel)) (pi_range1 (by rfl) B.range (pa_cons (pv 5) pa_nil)) (blkOk_by (N := N__law_letter_kind) (sc := (defScope s__law_letter_kind)) (own := [("_law_k", 7)]) (by decide +kernel)) (fun _ _ _ _ _ => (pg_name (i := 7) sc__law_letter_kind.nd rfl (Or.inl rfl))) (fun _ _ _ _ _ => pts_nil) (fun _ _ _ _ _ => (pe_kn D__law_letter_kind hr__law_letter_kind (pa_cons (pv 0) (pa_cons (pv 1) (pa_cons (pv 2) (pa_cons (pe_op op_sub (pv 3) pe_int) pa_nil)))))))
  (pss_cons (ps_if (PW.pt (pw_and (pt_cmpR (op_neD hu64) (pv 1) (pe_lst pa_nil) (nomark _)) (pw_and (pt_cmpR op_eq (pv 5) pe_int (nomark _)) (pw_and1 (pt_cmpR op_eq (pe_kn D__law_draw hr__law_draw (pa_cons (pv 0) (pa_cons pe_int pa_nil))) pe_int (nomark _))))))
  (pss_one (ps_ret (pe_tup (pa_cons pe_str (pa_cons (pe_tup (pa_cons pe_str (pa_cons (pe_kn D__law_pick hr__law_pick (pa_cons (pv 0) (pa_cons (pv 1) pa_nil))) pa_nil))) (pa_cons (pe_ix ix_list (pv 6) pe_int (fun _ _ => rfl)) pa_nil))))))
  pss_nil)
  (pss_one (ps_ret (pe_kn D__law_con hr__law_con (pa_cons (pv 4) (pa_cons (pv 6) pa_nil))))))))), ?_⟩
    -- the leaf ("con", pick(cons)[0])
    have con_leaf : ∀ H3 : Hp, Ext t H H3 → Tape K H3 t c (b + 1) → tTup (tCons (tC (.str "con")) (tCons (tOp (rIxT K) (tCall (spPick K) [] E0 (tCons (tVar 0) (tCons (tVar 2) tNil))) (tC (.int 0))) tNil)) [some (.ref t), some (.ref ln), some (.ref lc), some (.int (n : Int)), none, none, none, none] H3 Q := by
      intro H3 E3 T3
      obtain ⟨xs, h41, h42, h43, h44⟩ := h4.ext hT E3
      refine ⟨_, rfl, _, rfl, t, c, lc, xs, b, rfl, h41, h42, by omega, T3, fun H4 v E4 T4 hv => ?_⟩
      obtain ⟨a, x, m, rfl, ha, _, wx⟩ := h44 v hv
      refine ⟨_, _, _, _, rfl, rfl, SqT.of (Ext.tups E4 T3 _ _ ha), rfl, slz rfl, fun q hq => ?_⟩
      exact k _ _ (.con x) ((E3.trans E4).trans (Ext.new hq)) (T4.new hq) ⟨q, rfl, upd_same⟩ (fitC wx.1) trivial wx.2
    refine ⟨_, rfl, rfl, _, rfl, ite2 (fun z => ?g1) (fun hn0 => ?g2)⟩
    case' g1 =>
      refine iteT ?_
      have E1 : Ext t H H := Ext.refl _ _
      have T1 : Tape K H t c (b + 2) := hT.less (by omega)
    case' g2 =>
      refine ⟨_, rfl, t, c, 3, b + (cost n - 1), rfl, by decide, by decide, hT.less (by omega), fun H1 r1 E1 T1 hr1 hr2 => ⟨rfl, _, rfl, ite2 (fun z => ?g3) (fun z => ?g4)⟩⟩
    case' g3 => replace T1 := T1.less (show b + 2 ≤ _ by omega)
    case g1 | g3 =>
      refine ⟨_, rfl, slz rfl, fun e he => ?_⟩
      have E2 := E1.trans (Ext.new (o := .lst []) he)
      have T2 := T1.new (o := .lst []) he
      refine ⟨_, _, .lst (SqL.extT h1 hT E2) (dp_words ws), .lst (SqL.of upd_same) .nil, shaped_words fun x hx => (h2 x hx).1, shaped_nil, _, rfl, ?_⟩
      rw [words_ne]
      refine ite2 (fun hws => ?_) (fun hws => ?_)
      · have ne : 0 < ws.length := by
          cases ws with
          | nil => cases hws
          | cons x r => exact Nat.zero_lt_succ _
        refine ⟨_, rfl, t, c, 2, b + 1, rfl, by decide, by decide, T2, fun H3 r3 E3 T3 hr31 hr32 => ⟨rfl, _, rfl, ite2 (fun z => ?_) (fun z => ?_)⟩⟩
        · refine ⟨_, rfl, _, rfl, t, c, ln, ws.map V.str, b, rfl, SqL.extT h1 hT (E2.trans E3), by rw [List.length_map]; exact ne, by rw [List.length_map]; omega, T3, fun H4 v E4 T4 hv => ?_⟩
          obtain ⟨x, hx, rfl⟩ := List.mem_map.mp hv
          refine ⟨slz rfl, fun q hq => ?_⟩
          exact k _ _ (.var x) (((E2.trans E3).trans E4).trans (Ext.new hq)) (T4.new hq) ⟨q, rfl, upd_same⟩ (fitV (h2 x hx).1) hx (h2 x hx).2
        · exact con_leaf H3 (E2.trans E3) (T3.less (by omega))
      · exact iteF (con_leaf _ E2 (T2.less (by omega)))
    case g4 =>
      obtain ⟨j, rfl⟩ : ∃ j, n = j + 1 := by
        cases n with
        | zero => exact absurd rfl hn0
        | succ j => exact ⟨j, rfl⟩
      obtain ⟨xs, h41, h42, h43, h44⟩ := h4.ext hT E1
      refine ⟨_, rfl, _, rfl, t, c, lc, xs, b + 3 + 2 * cost j, rfl, h41, h42, by omega, T1.less (by simp only [cost]; omega), fun H2 v E2 T2 hv => ?_⟩
      obtain ⟨a, x, m, rfl, ha, hm, wx⟩ := h44 v hv
      have EE := E1.trans E2
      refine ⟨a, _, rfl, SqT.of (Ext.tups E2 T1 _ _ ha), rfl, _, _, rfl, _, _, rfl, rfl, ?_⟩
      refine ⟨_, rfl, (m : Int), rfl, by omega, by omega, fun D hD => ?_⟩
      refine lc_range (lo := 0) (n := m) (fun i H' => Ext t H2 H' ∧ Tape K H' t c (b + 2 + (m - i) * cost j) ∧ ∃ (vs : List V) (ks : List Kd), H' D = some (.lst vs) ∧ KdsAt H' vs ks ∧ vs.length = i ∧ ∀ k ∈ ks, k.fit (2 * j) ∧ Kd.of ws k ∧ k.nmd)
        ⟨Ext.new hD, (T2.new hD).less ?_, [], [], upd_same, .nil, rfl, fun _ q => nomatch q⟩ (fun i H' hi ⟨e1, t1, vs, ks, g1, g2, g3, g4⟩ => ⟨rfl, ?_⟩) (fun H3 ⟨e1, t1, vs, ks, g1, g2, g3, g4⟩ => ?_)
      · have : m * cost j ≤ 2 * cost j := Nat.mul_le_mul_right _ hm
        rw [Nat.sub_zero]
        omega
      · have em : (m - i) * cost j = (m - (i + 1)) * cost j + cost j := by
          rw [show m - i = (m - (i + 1)) + 1 by omega, Nat.succ_mul]
        refine ⟨_, rfl, _, rfl, _, rfl, _, rfl, _, _, rfl, rfl, ?_⟩
        refine ⟨t, c, ln, lc, ws, b + 2 + (m - (i + 1)) * cost j, congrArg (fun z : Int => [V.ref t, V.ref ln, V.ref lc, V.int z]) (by omega), SqL.extT h1 hT (EE.trans e1), h2, h3, h4.ext hT (EE.trans e1), t1.less (by omega), fun H4 v k4 e4 t4 f1 f2 f3 f4 => ?_⟩
        have nD : D ≠ t := T2.ne hD
        refine ⟨vs, e4 _ _ nD g1, small1000 (by omega), (e1.trans e4).upd hD, Tape.put T2 (e1.trans e4) t4 hD, vs ++ [v], ks ++ [k4], upd_same, ?_, by rw [List.length_append, g3]; rfl, ?_⟩
        · have tu : Tups H4 (upd H4 D (.lst (vs ++ [v]))) := Tups.put (e4 _ _ nD g1) (by intro xs z; cases z)
          exact Paired.snoc (KdsAt.tups ((Ext.tups e4 t1).trans tu) g2) (KdAt.tups tu f1)
        · intro k hk
          rcases List.mem_append.mp hk with q | q
          · exact g4 k q
          · rw [List.mem_singleton.mp q]
            exact ⟨f2, f3, f4⟩
      · have EE3 := EE.trans e1
        have lks : ks.length = m := by rw [← Paired.length g2, g3]
        -- the kind with its parts
        have con_all : ∀ H5 : Hp, Ext t H3 H5 → Tape K H5 t c b → tRet (tCall (spCon K) [] E0 (tCons (tVar 4) (tCons (tVar 6) tNil))) { nx := fun _ H' => Q .non H', rt := Q } [some (.ref t), some (.ref ln), some (.ref lc), some (.int ((j + 1 : Nat) : Int)), some (.str x), some (.int (m : Int)), some (.ref D), none] H5 := by
          intro H5 e5 t5
          refine ⟨_, rfl, _, rfl, x, D, vs, ks, rfl, SqL.of (e5 _ _ (T2.ne hD) g1), KdsAt.tups (Ext.tups e5 t1) g2, fun H6 v s6 f6 => ?_⟩
          exact k _ _ _ ((EE3.trans e5).trans (same_ext s6)) (t5.same s6) f6 (Kd.fit_mono (by omega) (fit_conK wx.1 fun q hq => (g4 q hq).1)) (of_conK fun q hq => (g4 q hq).2.1) (nmd_conK wx.2 fun q hq => (g4 q hq).2.2)
        refine ⟨_, rfl, slz rfl, fun e he => ?_⟩
        have e6 := Ext.new (t := t) (o := .lst []) he
        have t6 := t1.new (o := .lst []) he
        refine ⟨_, _, .lst (SqL.extT h1 hT (EE3.trans e6)) (dp_words ws), .lst (SqL.of upd_same) .nil, shaped_words fun x hx => (h2 x hx).1, shaped_nil, _, rfl, ?_⟩
        rw [words_ne]
        refine ite2 (fun hws => ?_) (fun hws => ?_)
        · refine ⟨_, rfl, rfl, _, rfl, ite2 (fun hm1 => ?_) (fun hm1 => ?_)⟩
          · have m1 : m = 1 := by
              have q := V.int.inj (of_decide_eq_true hm1)
              omega
            refine ⟨_, rfl, t, c, 4, b + 1, rfl, by decide, by decide, t6.less (by omega), fun H7 r7 e7 t7 hr71 hr72 => ⟨rfl, _, rfl, ite2 (fun z => ?_) (fun z => ?_)⟩⟩
            · have ne : 0 < ws.length := by
                cases ws with
                | nil => cases hws
                | cons x r => exact Nat.zero_lt_succ _
              refine ⟨_, rfl, _, rfl, t, c, ln, ws.map V.str, b, rfl, SqL.extT h1 hT ((EE3.trans e6).trans e7), by rw [List.length_map]; exact ne, by rw [List.length_map]; omega, t7, fun H8 v e8 t8 hv => ?_⟩
              obtain ⟨y, hy, rfl⟩ := List.mem_map.mp hv
              refine ⟨slz rfl, fun q hq => ?_⟩
              subst m1
              obtain ⟨v0, rfl⟩ : ∃ v0, vs = [v0] := by
                match vs, g3 with
                | [v0], _ => exact ⟨v0, rfl⟩
              obtain ⟨k0, rfl⟩ : ∃ k0, ks = [k0] := by
                match ks, lks with
                | [k0], _ => exact ⟨k0, rfl⟩
              have gD : H8 D = some (.lst [v0]) := e8 _ _ (T2.ne hD) (e7 _ _ (T2.ne hD) (e6 _ _ (T2.ne hD) g1))
              have nq : D ≠ q := ne_of_none gD hq
              refine ⟨_, rfl, _, _, _, _, rfl, rfl, SqL.of (by rw [upd_ne nq]; exact gD), rfl, slz rfl, fun q2 hq2 => ?_⟩
              have k0at : KdAt H3 v0 k0 := by cases g2 with | cons r _ => exact r
              have e9 : Ext t H8 (upd H8 q (.tup [.str "var", .str y])) := Ext.new hq
              have t9 := t8.new (o := .tup [.str "var", .str y]) hq
              have e10 := Ext.new (t := t) (o := .tup [.str "apply", .ref q, v0]) hq2
              have up : Tups H3 _ := Ext.tups (((e6.trans e7).trans e8).trans (e9.trans e10)) t1
              refine k _ _ (.app (.var y) k0) (((((EE3.trans e6).trans e7).trans e8).trans e9).trans e10) (t9.new hq2) ⟨q2, .ref q, v0, rfl, upd_same, ⟨q, rfl, Ext.tups e10 t9 _ _ upd_same⟩, KdAt.tups up k0at⟩ ?_ ⟨hy, (g4 k0 List.mem_cons_self).2.1⟩ ⟨(h2 y hy).2, (g4 k0 List.mem_cons_self).2.2⟩
              exact ⟨fitV (h2 y hy).1, show Kd.fit (2 * j + 1) k0 from Kd.fit_mono (by omega) (g4 k0 List.mem_cons_self).1⟩
            · exact con_all H7 (e6.trans e7) (t7.less (by omega))
          · exact iteF (con_all _ e6 (t6.less (by omega)))
        · exact iteF (con_all _ e6 (t6.less (by omega)))
theorem ok_letter {f : Addr} {fd : FuncData} (F : Fun K "_law_letter_kind" "_law_letter_kind" s__law_letter_kind f fd) (hm : mg "_law_letter_kind" = some (.ref f)) (B : Bl mg) (D1 : Kn P w K mg base 1 "_law_draw" ["_law_tape", "_law_many"] (spDraw K)) (D2 : Kn P w K mg base 2 "_law_pick" ["_law_tape", "_law_items"] (spPick K))
    (D3 : Kn P w K mg base 1 "_law_con" ["_law_name", "_law_parts"] (spCon K)) : ∀ n, FnOk P w K mg base CX0 (n + 3) f fd ["_law_tape", "_law_names", "_law_cons", "_law_deep"] (spLK K n)
  | 0 => ok_letter_step F B D1 D2 D3 ⟨f, fd, fn_false.mono (by decide), hm, F.kp, F.binds fun _ _ _ _ _ _ us hl => match us, hl with | [_, _, _, _], _ => rfl⟩
  | n + 1 => ok_letter_step F B D1 D2 D3 ⟨f, fd, ok_letter F hm B D1 D2 D3 n, hm, F.kp, F.binds fun _ _ _ _ _ _ us hl => match us, hl with | [_, _, _, _], _ => rfl⟩
end
end L3

/-! a tuple of anything beside a tuple of one text -/
namespace L3
open PySem PySem.Spec PyProof.Rows L2
open PySem.SeqAt
theorem eqAt_rc {A : Around} {s : Shared} {v : Value} {z : Str} {tk : Tok} {b : Bool} (hf : ∀ x y, v ≠ .float x y) (h : RcAt A s v (.str z tk) b) (e : v = .str z tk → b = true) : EqAt A s v (.str z tk) b := fun prog w E Q hq => by
  by_cases c : v = .str z tk
  · have eb := e c
    subst c eb
    exact EqAt.same _ prog w E Q hq
  · unfold eqBool
    refine wpAny_holding ?_
    refine wpAny_ite_split (fun hab => absurd (eq_of_beq hab) c) (fun _ => ?_)
    cases v with
    | float x y => exact absurd rfl (hf x y)
    | _ => exact wpAny_bind (h prog w E _ (wpAny_truthy_bool hq))
section
variable {X : Cx} {pins : List (Addr × Obj)} {σ : L2.St} {H : Hp} {s : Shared}
theorem rc_any_str {t : Addr} {A : Around} (I : Inv X pins σ H s) (hu' : A.units < cLine) {d : PyData} {x : V} {v : Value} {z : Str} {tk : Tok} (hd : Da t H x d) (rx : RelV x v) : RcAt A s v (.str z tk) (isS z d) ∧ (v = .str z tk → isS z d = true) ∧ (∀ x y, v ≠ .float x y) := by
  cases d with
  | none =>
    cases hd
    cases (show v = Value.none from rx)
    exact ⟨RcAt.none_str z tk, nofun, nofun⟩
  | bool b =>
    cases hd
    cases (show v = Value.bool b from rx)
    exact ⟨RcAt.bool_str b z tk, nofun, nofun⟩
  | int i =>
    cases hd
    obtain ⟨k, rfl⟩ := (show ∃ k, v = Value.int i k from rx)
    exact ⟨RcAt.int_str i k z tk, nofun, nofun⟩
  | str y =>
    cases hd
    obtain ⟨k, rfl⟩ := (show ∃ k, v = Value.str y k from rx)
    have e : isS z (.str y) = (y == z) := by
      show decide (y = z) = (y == z)
      rw [Bool.eq_iff_iff, decide_eq_true_eq, beq_iff_eq]
    rw [e]
    refine ⟨RcAt.str_str y k z tk, fun h => ?_, nofun⟩
    injection h with h _
    rw [h]
    exact beq_self_eq_true z
  | list ds =>
    cases hd with
    | @lst a xs _ hs ns ha =>
      obtain rfl : v = Value.ref a := rx
      obtain ⟨its, rv, ⟨o, n, ho, hc, _, hd⟩, _⟩ := I.list (SqL.of hs)
      exact ⟨RcAt.list_str z tk ⟨o, ho, hc, n, hd⟩ hu', nofun, nofun⟩
  | tuple ds =>
    cases hd with
    | @tup a xs _ hs ha =>
      obtain rfl : v = Value.ref a := rx
      obtain ⟨its, rv, ⟨o, ho, hc, n, hd⟩, _⟩ := I.tuple (SqT.of hs)
      exact ⟨RcAt.tuple_str z tk ⟨o, ho, hc, n, hd⟩ hu', nofun, nofun⟩
  | dict ds =>
    cases hd with
    | @dct a kvs _ hs na ha =>
      obtain rfl : v = Value.ref a := rx
      obtain ⟨_, lo, vs, ra, da⟩ := (show ObjOk X.prog X.w H s.heap a (.dK kvs) from I.hok a _ hs)
      obtain ⟨ep, o, es, ho, hx, hdat, _, pr, _⟩ := da.dictAt
      exact ⟨rc_dict_str z tk ho hx.1 hdat hu', nofun, nofun⟩
/-- one value, this text -/
def isOne (z : Str) : List PyData → Bool
  | [d] => isS z d
  | _ => false
def rEqOne (t : Addr) : R2 := fun x y H Q => ∃ (a b : Addr) (ds : List PyData) (z : Str), x = .ref a ∧ y = .ref b ∧ Da t H (.ref a) (.tuple ds) ∧ H b = some (.tup [.str z]) ∧ Q (.bl (isOne z ds)) H
theorem op_eqOne {t : Addr} (hu : X.A.units + 64 < cLine) : OpR X (compareOp .Eq) (rEqOne t) := by
  intro pins s σ H x y v u Q I rx ry h
  obtain ⟨a, b, ds, z, rfl, rfl, hd, hb, q⟩ := h
  obtain rfl : v = Value.ref a := rx
  obtain rfl : u = Value.ref b := ry
  cases hd with
  | @tup _ xs _ ha da =>
    obtain ⟨its, rv, ⟨o, ho, hc, n, hd⟩, _⟩ := I.tuple (SqT.of ha)
    obtain ⟨its2, rv2, ⟨o2, ho2, hc2, n2, hd2⟩, _⟩ := I.tuple (SqT.of hb)
    obtain ⟨u2, rfl, r2⟩ := vals1 rv2
    obtain ⟨tk, rfl⟩ := (show ∃ k, u2 = Value.str z k from r2)
    have fin : ∀ b : Bool, b = isOne z ds → EP X pins σ Q (.bool b) s := fun b e => ⟨.bl b, H, I, rfl, by rw [e]; exact q⟩
    cases da with
    | nil =>
      cases rv
      exact RcAt.tuples (e := fun _ => true) ⟨o, ho, hc, n, hd⟩ ⟨o2, ho2, hc2, n2, hd2⟩ (by omega) (fun j h1 h2 => absurd h1 (by simp)) _ _ _ _ (fin _ rfl)
    | @cons v1 vs1 d ds' q1 t1 =>
      cases rv with
      | @cons _ u1 _ us1 r1 rr =>
        obtain ⟨c1, c2, c3⟩ := rc_any_str (A := X.A.in1) (z := z) (tk := tk) I (by show X.A.units + 1 < cLine; omega) q1 r1
        refine RcAt.tuples (e := fun _ => isS z d) ⟨o, ho, hc, n, hd⟩ ⟨o2, ho2, hc2, n2, hd2⟩ (by omega) (fun j h1 h2 => ?_) _ _ _ _ (fin _ ?_)
        · obtain rfl : j = 0 := by
            have : j < 1 := h2
            omega
          exact eqAt_rc c3 c1 c2
        · have l1 := t1.len
          have l2 := rr.length
          cases t1 with
          | nil =>
            cases rr
            show (isS z d && true && true) = isS z d
            simp
          | cons _ _ =>
            cases rr
            show (_ && _) = false
            simp
end
end L3

/-! places: tuples of numbers; x in l, x in t for data -/
namespace L3
open PySem L2
theorem Same.seqT {K : PySem.W.Frag} {H H' : Hp} {a : Addr} {xs : List V} (e : Same H H') (h : SqT K H a xs) : SqT K H' a xs := by
  rcases h with h | h
  · rcases h with h | ⟨o, h⟩
    · exact .inl (.inl (e _ _ h))
    · exact .inl (.inr ⟨o, e _ _ h⟩)
  · exact .inr h
mutual
theorem Dp.same {K : PySem.W.Frag} {H H' : Hp} (e : Same H H') {v : V} : ∀ {d : PyData}, Dp K H v d → Dp K H' v d
  | _, .non => .non
  | _, .bl b => .bl b
  | _, .int i => .int i
  | _, .str x => .str x
  | _, .lst h hs => .lst (e.seq h) (DpAll.same e hs)
  | _, .tup h hs => .tup (Same.seqT e h) (DpAll.same e hs)
theorem DpAll.same {K : PySem.W.Frag} {H H' : Hp} (e : Same H H') : ∀ {vs : List V} {ds : List PyData}, DpAll K H vs ds → DpAll K H' vs ds
  | _, _, .nil => .nil
  | _, _, .cons a b => .cons (Dp.same e a) (DpAll.same e b)
end
mutual
theorem Da.dp {K : PySem.W.Frag} {t : Addr} {H : Hp} {v : V} : ∀ {d : PyData}, Da t H v d → d.hasDict = false → Dp K H v d
  | _, .non, _ => .non
  | _, .bl b, _ => .bl b
  | _, .int i, _ => .int i
  | _, .str x, _ => .str x
  | _, .lst h _ hs, n => .lst (SqL.of h) (DaAll.dp hs (by simpa only [PyData.hasDict] using n))
  | _, .tup h hs, n => .tup (SqT.of h) (DaAll.dp hs (by simpa only [PyData.hasDict] using n))
  | _, .dct _ _ _, n => by simp [PyData.hasDict] at n
theorem DaAll.dp {K : PySem.W.Frag} {t : Addr} {H : Hp} : ∀ {vs : List V} {ds : List PyData}, DaAll t H vs ds → PyData.hasDictAll ds = false → DpAll K H vs ds
  | _, _, .nil, _ => .nil
  | _, _, .cons a b, n => by
    simp only [PyData.hasDictAll, Bool.or_eq_false_iff] at n
    exact .cons (Da.dp a n.1) (DaAll.dp b n.2)
end
mutual
def noList : PyData → Bool
  | .list _ => false
  | .tuple ds => noListA ds
  | _ => true
def noListA : List PyData → Bool
  | [] => true
  | d :: ds => noList d && noListA ds
end
mutual
/-- data without lists stays where the tuples stay -/
theorem Dp.tups {K : PySem.W.Frag} {H H' : Hp} (k : ∀ a xs, SqT K H a xs → SqT K H' a xs) {v : V} : ∀ {d : PyData}, Dp K H v d → noList d = true → Dp K H' v d
  | _, .non, _ => .non
  | _, .bl b, _ => .bl b
  | _, .int i, _ => .int i
  | _, .str x, _ => .str x
  | _, .lst _ _, n => by simp [noList] at n
  | _, .tup h hs, n => .tup (k _ _ h) (DpAll.tups k hs (by simpa only [noList] using n))
theorem DpAll.tups {K : PySem.W.Frag} {H H' : Hp} (k : ∀ a xs, SqT K H a xs → SqT K H' a xs) : ∀ {vs : List V} {ds : List PyData}, DpAll K H vs ds → noListA ds = true → DpAll K H' vs ds
  | _, _, .nil, _ => .nil
  | _, _, .cons a b, n => by
    simp only [noListA, Bool.and_eq_true] at n
    exact .cons (Dp.tups k a n.1) (DpAll.tups k b n.2)
end
mutual
theorem Da.tups {t : Addr} {H H' : Hp} (k : ∀ a xs, H a = some (.tup xs) → H' a = some (.tup xs)) {v : V} : ∀ {d : PyData}, Da t H v d → noList d = true → d.hasDict = false → Da t H' v d
  | _, .non, _, _ => .non
  | _, .bl b, _, _ => .bl b
  | _, .int i, _, _ => .int i
  | _, .str x, _, _ => .str x
  | _, .lst _ _ _, n, _ => by simp [noList] at n
  | _, .tup h hs, n, m => .tup (k _ _ h) (DaAll.tups k hs (by simpa only [noList] using n) (by simpa only [PyData.hasDict] using m))
  | _, .dct _ _ _, _, m => by simp [PyData.hasDict] at m
theorem DaAll.tups {t : Addr} {H H' : Hp} (k : ∀ a xs, H a = some (.tup xs) → H' a = some (.tup xs)) : ∀ {vs : List V} {ds : List PyData}, DaAll t H vs ds → noListA ds = true → PyData.hasDictAll ds = false → DaAll t H' vs ds
  | _, _, .nil, _, _ => .nil
  | _, _, .cons a b, n, m => by
    simp only [noListA, Bool.and_eq_true] at n
    simp only [PyData.hasDictAll, Bool.or_eq_false_iff] at m
    exact .cons (Da.tups k a n.1 m.1) (DaAll.tups k b n.2 m.2)
end
/-- tuples stay when a list is changed -/
theorem tups_upd {K : PySem.W.Frag} {H : Hp} {l : Addr} {xs ys : List V} (h : H l = some (.lst xs)) : ∀ a zs, SqT K H a zs → SqT K (upd H l (.lst ys)) a zs := fun a zs q => by
  rcases q with q | q
  · have ne : a ≠ l := fun z => by
      rw [z] at q
      rcases q with q | ⟨o, q⟩
      · rw [h] at q
        cases q
      · rw [h] at q
        cases q
    rcases q with q | ⟨o, q⟩
    · exact .inl (.inl (by rw [upd_ne ne]; exact q))
    · exact .inl (.inr ⟨o, by rw [upd_ne ne]; exact q⟩)
  · exact .inr q
def rInDA (K : PySem.W.Frag) : R2 := fun x y H Q => ∃ d ds, Dp K H x d ∧ ((Dp K H y (.list ds) ∧ SeqAt.shaped (.list ds) = true) ∨ (Dp K H y (.tuple ds) ∧ SeqAt.shaped (.tuple ds) = true)) ∧ SeqAt.shaped d = true ∧ Q (.bl (ds.any fun z => PyData.eqv z d)) H
theorem op_inDA {X : Cx} (hu : X.A.units + 65 < cLine) : OpR X (compareOp .In) (rInDA X.K) := by
  intro pins s σ H x y v u Q I rx ry h
  obtain ⟨d, ds, hd, he, sd, q⟩ := h
  obtain ⟨as, r1⟩ := Dp.reads I d x v hd rx
  rcases he with ⟨he, se⟩ | ⟨he, se⟩
  · obtain ⟨bs, r2⟩ := Dp.reads I (.list ds) y u he ry
    exact SeqAt.in_list_reads r2 r1 (SeqAt.canLay_of_shaped se) (SeqAt.canLay_of_shaped sd) (PyProof.Rows.room_in_shaped sd hu) ⟨.bl _, H, I, rfl, q⟩
  · obtain ⟨bs, r2⟩ := Dp.reads I (.tuple ds) y u he ry
    exact SeqAt.in_tuple_reads r2 r1 (SeqAt.canLay_of_shaped se) (SeqAt.canLay_of_shaped sd) (PyProof.Rows.room_in_shaped sd hu) ⟨.bl _, H, I, rfl, q⟩
/-- a place -/
def plD (ns : List Nat) : PyData := .tuple (ns.map fun n : Nat => .int (n : Int))
def plV (ns : List Nat) : List V := ns.map fun n : Nat => .int (n : Int)
def PlAt (H : Hp) (v : V) (ns : List Nat) : Prop := ∃ a, v = .ref a ∧ H a = some (.tup (plV ns))
theorem PlAt.same {H H' : Hp} {v : V} {ns : List Nat} (h : PlAt H v ns) (s : Same H H') : PlAt H' v ns := by
  obtain ⟨a, rfl, g⟩ := h
  exact ⟨a, rfl, s _ _ g⟩
theorem dp_ints {K : PySem.W.Frag} {H : Hp} : ∀ ns : List Nat, DpAll K H (plV ns) (ns.map fun n : Nat => PyData.int (n : Int))
  | [] => .nil
  | n :: ns => .cons (.int _) (dp_ints ns)
theorem PlAt.dp {K : PySem.W.Frag} {H : Hp} {v : V} {ns : List Nat} (h : PlAt H v ns) : Dp K H v (plD ns) := by
  obtain ⟨a, rfl, g⟩ := h
  exact .tup (SqT.of g) (dp_ints ns)
theorem eqv_ints : ∀ a b : List Nat, PyData.eqvAll (a.map fun n : Nat => PyData.int (n : Int)) (b.map fun n : Nat => PyData.int (n : Int)) = decide (a = b)
  | [], [] => by simp [PyData.eqvAll]
  | [], _ :: _ => by simp [PyData.eqvAll]
  | _ :: _, [] => by simp [PyData.eqvAll]
  | m :: a, n :: b => by
    simp only [List.map_cons, PyData.eqvAll, PyData.eqv, eqv_ints a b]
    by_cases h : m = n
    · subst h
      simp
    · have : ¬ ((m : Int) = (n : Int)) := fun z => h (by omega)
      simp [h, this]
theorem eqv_pl (a b : List Nat) : PyData.eqv (plD a) (plD b) = decide (a = b) := by
  unfold plD
  simp only [PyData.eqv, eqv_ints]
/-- enumerate(l) -/
theorem walk_enumL {K : PySem.W.Frag} {a : Addr} {xs : List V} : Walk (Ite K a) xs.length (fun H => SqL K H a xs) (YPair (fun i => some (.int (i : Nat))) (fun i => xs[i]?)) := by
  refine ⟨fun i _ hi q => ⟨xs, xs[i], q, by simp [hi]⟩, fun _ q => ⟨xs, q, Nat.le_refl _⟩, fun i H v H' _ q y => ?_⟩
  obtain ⟨T, x, h1, h2, h3, h4⟩ := y
  exact ⟨T, .int (i : Nat), x, h1, h2, h3, rfl, h4 xs q⟩
theorem canLay_ints : ∀ ns : List Nat, PyData.canLayAll0 (ns.map fun n : Nat => PyData.int (n : Int)) = true
  | [] => by simp [PyData.canLayAll0]
  | n :: ns => by simp [PyData.canLayAll0, PyData.canLay0, canLay_ints ns]
theorem depth_ints : ∀ ns : List Nat, PyData.depthAll (ns.map fun n : Nat => PyData.int (n : Int)) ≤ 1
  | [] => by simp [PyData.depthAll]
  | n :: ns => by
    have := depth_ints ns
    simp only [List.map_cons, PyData.depthAll, PyData.depth]
    omega
theorem shaped_pl (ns : List Nat) : SeqAt.shaped (plD ns) = true := by
  unfold SeqAt.shaped plD
  have := depth_ints ns
  rw [Bool.and_eq_true]
  refine ⟨?_, decide_eq_true ?_⟩
  · simp only [PyData.canLay0]
    exact canLay_ints ns
  · simp only [PyData.depth]
    omega
theorem cut_take (xs : List V) (n : Nat) : cutV xs none (some (n : Int)) = xs.take n := by
  unfold cutV
  rw [HT.sIx_none, HT.sIx_nat, List.drop_zero, Nat.sub_zero]
  by_cases h : n ≤ xs.length
  · rw [Nat.min_eq_left h]
  · rw [Nat.min_eq_right (by omega), List.take_of_length_le (Nat.le_refl _), List.take_of_length_le (by omega)]
theorem cut_tail (xs : List V) : cutV xs (some 1) none = xs.tail := by
  unfold cutV
  rw [show (1 : Int) = ((1 : Nat) : Int) from rfl, HT.sIx_none, HT.sIx_nat]
  cases xs with
  | nil => rfl
  | cons x xs =>
    rw [List.length_cons, Nat.min_eq_left (by omega)]
    show xs.take _ = xs
    rw [List.take_of_length_le (by omega)]
/-- a slice of a tuple -/
theorem slA {K : PySem.W.Frag} {H : Hp} {Q : VK} {a : Addr} {xs : List V} {lo hi : Option Int} (ha : H a = some (.tup xs)) (k : ∀ H' q, Same H H' → H' q = some (.tup (cutV xs lo hi)) → Q (.ref q) H') : rSlA K (.ref a) lo hi H Q := by
  refine ⟨a, xs, rfl, SqT.of ha, fun e => k H a (Same.refl H) ?_, fun _ p hp => k _ p (same_new hp) upd_same⟩
  have z : cutV xs lo hi = xs := by
    unfold cutV
    rw [e.1, e.2, List.drop_zero, Nat.sub_zero, List.take_length]
  rw [z]
  exact ha
end L3

namespace L3
open PySem L2
structure Mn (K : PySem.W.Frag) (w : World) (mg : Str → Option Value) (bA : Addr) (es : Array DictEntry) (nb : Nat) : Prop where
  LONGEST : ∃ u, mg "LONGEST" = some u ∧ RelV (.int 8) u
  BARRED : ∃ u, mg "BARRED" = some u ∧ RelV (.ref bA) u
  kd : KDict K w bA es nb
  has : ∀ z : Str, ∃ r, PySem.W.nsIn K bA z = some r ∧ r.isSome = decide (z ∈ barL)
  LETTERS : ∃ u, mg "LETTERS" = some u ∧ RelV (.str "abcdefghijklmnopqrstuvwxyz") u
  divmod : mg "divmod" = none
/-- the index-th word of letters -/
def lw (n : Nat) : Str := if n = 0 then "" else lw ((n - 1) / 26) ++ sgn ((n - 1) % 26)
termination_by n
decreasing_by omega
def letA (i : Nat) : Str := if i < 26 then sgn i else sgn (i / 26 - 1) ++ sgn (i % 26)
theorem sgn_len (j : Nat) : (sgn j).length = 1 := rfl
theorem nil_app (x : Str) : ("" : Str) ++ x = x := by
  show (⟨#[] ++ x.cps⟩ : Str) = x
  simp
theorem app_asc (x y z : Str) : x ++ y ++ z = x ++ (y ++ z) := by
  show (⟨x.cps ++ y.cps ++ z.cps⟩ : Str) = ⟨x.cps ++ (y.cps ++ z.cps)⟩
  rw [Array.append_assoc]
theorem lw_zero : lw 0 = "" := by
  unfold lw
  rfl
theorem lw_small {n : Nat} (h : n < 26) : lw (n + 1) = sgn n := by
  rw [lw, if_neg (by omega), show (n + 1 - 1) / 26 = 0 by omega, lw_zero, nil_app, show (n + 1 - 1) % 26 = n by omega]
theorem lw_let {i : Nat} (h : i < 700) : lw (i + 1) = letA i := by
  unfold letA
  by_cases c : i < 26
  · rw [if_pos c, lw_small c]
  · rw [if_neg c, lw, if_neg (by omega), show i + 1 - 1 = i by omega, show i / 26 = (i / 26 - 1) + 1 by omega, lw_small (by omega), show i / 26 - 1 + 1 - 1 = i / 26 - 1 by omega]
/-- the names among the first words -/
def nmsTo (i : Nat) : List Str := ((List.range i).map letA).filter fun x => isNameD (.str x)
theorem nms_succ (i : Nat) : nmsTo (i + 1) = nmsTo i ++ (if isNameD (.str (letA i)) = true then [letA i] else []) := by
  unfold nmsTo
  rw [List.range_succ, List.map_append, List.filter_append]
  congr 1
  cases h : isNameD (.str (letA i)) <;> simp [List.filter_cons, h]
theorem nms_many : ∀ i ≤ 80, i ≤ (nmsTo i).length + 1 := by
  intro i hi
  have key : ∀ i : Fin 81, i.val ≤ (nmsTo i.val).length + 1 := by decide +kernel
  exact key ⟨i, by omega⟩
/-- the first names -/
def fstN (n : Nat) : List Str := (nmsTo 80).take n
theorem nms_pre {i j : Nat} (h : i ≤ j) : nmsTo i = (nmsTo j).take (nmsTo i).length := by
  induction j with
  | zero =>
    obtain rfl : i = 0 := by omega
    rfl
  | succ j ih =>
    by_cases c : i ≤ j
    · have := ih c
      rw [nms_succ]
      have l : (nmsTo i).length ≤ (nmsTo j).length := by
        rw [this, List.length_take]
        omega
      rw [List.take_append_of_le_length l]
      exact this
    · obtain rfl : i = j + 1 := by omega
      rw [List.take_length]
section
variable {P : Program} {w : World} {K : PySem.W.Frag} {mg : Str → Option Value} {base : Heap} {bA : Addr} {es : Array DictEntry} {nb : Nat}
abbrev s_is_word : Stmt := topS 8
abbrev N_is_word : List Str := ["value"]
theorem sc_is_word : FnScope N_is_word ["value"] (defScope s_is_word) := ⟨rfl, rfl, rfl, by decide +kernel, rfl, by decide +kernel, by decide +kernel⟩
def spWord : Sp := fun vs H Q _ => ∃ (t : Addr) (v : V) (d : PyData), vs = [v] ∧ Da t H v d ∧ (∀ x, d = .str x → x.length ≤ 1000) ∧ Q (.bl (isWordD d)) H
theorem ok_word {f : Addr} {fd : FuncData} (F : Fun K "is_word" "is_word" s_is_word f fd) (B : Bl mg) (B9 : Bl9 mg) (M : Mn K w mg bA es nb) : FnOk P w K mg base CX0 1 f fd ["value"] spWord := by
  refine F.ok sc_is_word (fun vs H Q E h => ?_) (fun cdv A outer s H vs Q E hr h => ?_)
  · obtain ⟨t, v, d, rfl, _⟩ := h
    rfl
  · obtain ⟨t, v, d, rfl, hd, hx, k⟩ := h
    refine ⟨_, (pss_cons (ps_if (PW.pt (pw_or (pt_not (pt_val (pe_callB call_isi (by rfl) B9.isinstance PyProof.Rows.boot_isinstance (pa_cons (pv 0) (pa_cons (pe_bltn (v := .ty "str") (by rfl) B9.str_ (by decide +kernel) rfl) pa_nil))))) (pw_or1 (pt_not (pt_chain op_le op_le pe_int (pe_callB call_len (by rfl) B.len PySem.boot_len (pa_cons (pv 0) pa_nil)) (pe_gc (by rfl) M.LONGEST))))))
  (pss_one (ps_ret pe_bl))
  pss_nil)
  (pss_one (ps_ret (pe_and (pe_bm0 PySem.F.plainAttrs_str PySem.F.slot_str_isascii PySem.F.type_str_isascii mt_isascii (pv 0)) (pe_and (pe_bm0 PySem.F.plainAttrs_str PySem.F.slot_str_isalpha PySem.F.type_str_isalpha mt_isalpha (pv 0)) (pe_one (pe_bm0 PySem.F.plainAttrs_str PySem.F.slot_str_islower PySem.F.type_str_islower mt_islower (pv 0)))))))), ?_⟩
    refine ⟨_, rfl, v, .ty "str", .type (tyName d), .type "str", isStr d, rfl, .ty "str", hd.ty, kit_str d, _, rfl, ?_⟩
    cases hs : isStr d with
    | false =>
      have e : isWordD d = false := by cases d <;> first | rfl | cases hs
      rw [e] at k
      refine iT rfl ?_
      exact iT rfl k
    | true =>
      obtain ⟨x, rfl⟩ : ∃ x, d = .str x := by
        cases d with
        | str x => exact ⟨x, rfl⟩
        | _ => cases hs
      cases hd
      have lx := hx x rfl
      refine iF rfl ?_
      refine ⟨_, rfl, .str x, x.length, rfl, ⟨by rw [sizeLine_eq]; omega, rfl⟩, _, _, rfl, rfl, _, rfl, ?_⟩
      by_cases h1 : (1 : Int) ≤ (x.length : Int)
      · refine iT (decide_eq_true h1) ?_
        refine ⟨_, _, rfl, rfl, _, rfl, ?_⟩
        by_cases h2 : (x.length : Int) ≤ 8
        · refine iF (by rw [decide_eq_true h2]; rfl) ?_
          have ew : isWordD (.str x) = (Txt.isascii x && (Txt.isalpha x && Txt.islower x)) := by
            rw [asc_low (by omega)]
            show wok x = _
            unfold wok
            rw [decide_eq_true (by omega : 1 ≤ x.length), decide_eq_true (by omega : x.length ≤ 8)]
            rfl
          rw [ew] at k
          refine ⟨_, rfl, rfl, x, rfl, rfl, trivial, _, rfl, ?_⟩
          cases h3 : Txt.isascii x with
          | false =>
            rw [h3] at k
            exact iF rfl k
          | true =>
            rw [h3] at k
            refine iT rfl ?_
            refine ⟨_, rfl, rfl, x, rfl, rfl, trivial, _, rfl, ?_⟩
            cases h4 : Txt.isalpha x with
            | false =>
              rw [h4] at k
              exact iF rfl k
            | true =>
              rw [h4] at k
              refine iT rfl ?_
              exact ⟨_, rfl, rfl, x, rfl, rfl, trivial, k⟩
        · refine iT (by rw [decide_eq_false h2]; rfl) ?_
          have e : isWordD (.str x) = false := by
            show wok x = false
            unfold wok
            rw [decide_eq_false (by omega : ¬ x.length ≤ 8)]
            simp
          rw [e] at k
          exact k
      · refine iF (decide_eq_false h1) ?_
        have e : isWordD (.str x) = false := by
          show wok x = false
          unfold wok
          rw [decide_eq_false (by omega : ¬ 1 ≤ x.length)]
          rfl
        rw [e] at k
        exact ⟨_, rfl, iT rfl k⟩
/-! ### names -/
abbrev s_is_name : Stmt := topS 9
abbrev N_is_name : List Str := ["value"]
theorem sc_is_name : FnScope N_is_name ["value"] (defScope s_is_name) := ⟨rfl, rfl, rfl, by decide +kernel, rfl, by decide +kernel, by decide +kernel⟩
def spName : Sp := fun vs H Q _ => ∃ (t : Addr) (v : V) (d : PyData), vs = [v] ∧ Da t H v d ∧ (∀ x, d = .str x → x.length ≤ 1000) ∧ Q (.bl (isNameD d)) H
theorem ok_name {f : Addr} {fd : FuncData} (F : Fun K "is_name" "is_name" s_is_name f fd) (M : Mn K w mg bA es nb) (D_is_word : Kn P w K mg base 1 "is_word" ["value"] spWord) : FnOk P w K mg base CX0 2 f fd ["value"] spName := by
  refine F.ok sc_is_name (fun vs H Q E h => ?_) (fun cdv A outer s H vs Q E hr h => ?_)
  · obtain ⟨t, v, d, rfl, _⟩ := h
    rfl
  · obtain ⟨t, v, d, rfl, hd, hx, k⟩ := h
    have hr_is_word : Room 1 _ := hr
    refine ⟨_, (pss_one (ps_ret (pe_and (pe_kn D_is_word hr_is_word (pa_cons (pv 0) pa_nil)) (pe_one (pe_cmpR (op_notIn_kd M.kd) (pv 0) (pe_gc (by rfl) M.BARRED) (by rfl)))))), ?_⟩
    refine ⟨_, rfl, t, v, d, rfl, hd, hx, ?_⟩
    refine ⟨_, rfl, ?_⟩
    cases hw : isWordD d with
    | false =>
      have e : isNameD d = false := by
        cases d with
        | str x =>
          have hw' : wok x = false := hw
          show (wok x && _) = false
          rw [hw']
          rfl
        | _ => rfl
      rw [e] at k
      exact iF rfl k
    | true =>
      obtain ⟨x, rfl⟩ : ∃ x, d = .str x := by
        cases d with
        | str x => exact ⟨x, rfl⟩
        | _ => cases hw
      cases hd
      refine iT rfl ?_
      obtain ⟨r, er, hr2⟩ := M.has x
      refine ⟨_, rfl, x, r, rfl, rfl, er, ?_⟩
      have hw' : wok x = true := hw
      have e : isNameD (.str x) = !r.isSome := by
        show (wok x && _) = _
        rw [hw', hr2]
        rfl
      rw [e] at k
      exact k
/-! ### words of letters -/
abbrev s_letters_at : Stmt := topS 10
abbrev N_letters_at : List Str := ["index", "word", "left", "letter"]
theorem sc_letters_at : FnScope N_letters_at ["index"] (defScope s_letters_at) := ⟨rfl, rfl, rfl, by decide +kernel, rfl, by decide +kernel, by decide +kernel⟩
def spLetters : Sp := fun vs H Q _ => ∃ i : Nat, vs = [.int (i : Int)] ∧ i < 700 ∧ ∀ H', Same H H' → Q (.str (letA i)) H'
theorem ok_letters {f : Addr} {fd : FuncData} (F : Fun K "letters_at" "letters_at" s_letters_at f fd) (B : Bl mg) (M : Mn K w mg bA es nb) : FnOk P w K mg base CX0 1 f fd ["index"] spLetters := by
  refine F.ok sc_letters_at (fun vs H Q E h => ?_) (fun cdv A outer s H vs Q E hr h => ?_)
  · obtain ⟨i, rfl, _⟩ := h
    rfl
  · obtain ⟨i, rfl, hi, k⟩ := h
    refine ⟨_, (pss_cons (ps_set (i := 1) sc_letters_at.nd rfl (Or.inl rfl) pe_str)
  (pss_cons (ps_set (i := 2) sc_letters_at.nd rfl (Or.inl rfl) (pe_op op_add (pv 0) pe_int))
  (pss_cons (ps_while PassesOwn.never (pt_cmpR op_gt (pv 2) pe_int (nomark _))
  (pss_cons (ps_asg (pe_callB call_divmod (by rfl) M.divmod (by decide +kernel) (pa_cons (pe_op op_sub (pv 2) pe_int) (pa_cons (pe_callB call_len (by rfl) B.len PySem.boot_len (pa_cons (pe_gc (by rfl) M.LETTERS) pa_nil)) pa_nil))) (pg_tup (by rfl) (pgs_cons (pg_name (i := 2) sc_letters_at.nd rfl (Or.inl rfl)) (pgs_cons (pg_name (i := 3) sc_letters_at.nd rfl (Or.inl rfl)) pgs_nil))))
  (pss_one (ps_set (i := 1) sc_letters_at.nd rfl (Or.inl rfl) (pe_op op_add_str (pe_ix ix_str (pe_gc (by rfl) M.LETTERS) (pv 3) (fun _ _ => rfl)) (pv 1))))))
  (pss_one (ps_ret (pv 1)))))), ?_⟩
    refine ⟨_, rfl, _, _, rfl, rfl, ?_⟩
    refine ⟨fun m σ H' => ∃ (n : Nat) (x : Str) (v3 : Option V), σ = [some (.int (i : Int)), some (.str x), some (.int (n : Int)), v3] ∧ Same H H' ∧ lw n ++ x = letA i ∧ x.length + n ≤ 1000 ∧ m = n, ⟨i + 1, i + 1, "", none, ?_, Same.refl H, ?_, ?_, rfl⟩, ?_⟩
    · show [some (V.int (i : Int)), some (V.str ""), some (V.int ((i : Int) + 1)), none] = _
      rw [show ((i + 1 : Nat) : Int) = (i : Int) + 1 by omega]
    · rw [lw_let hi]
      show (⟨(letA i).cps ++ #[]⟩ : Str) = letA i
      simp
    · show 0 + (i + 1) ≤ 1000
      omega
    rintro m σ H2 ⟨n, x, v3, rfl, s2, hw, hl, rfl⟩
    refine ⟨_, rfl, _, _, rfl, rfl, _, rfl, ?_⟩
    by_cases c : m = 0
    · subst c
      refine iF (by decide) ?_
      rw [lw_zero, nil_app] at hw
      refine ⟨_, rfl, ?_⟩
      rw [hw]
      exact k H2 s2
    · refine iT (decide_eq_true (by omega)) ?_
      refine ⟨fun σ' H' => ∃ (n' : Nat) (x : Str) (v3 : Option V), σ' = [some (.int (i : Int)), some (.str x), some (.int (n' : Int)), v3] ∧ Same H H' ∧ lw n' ++ x = letA i ∧ x.length + n' ≤ 1000 ∧ n' < m, ?_, ?_⟩
      · rintro σ' H' ⟨n', x', v3', e1, e2, e3, e4, e5⟩
        exact ⟨n', e5, n', x', v3', e1, e2, e3, e4, rfl⟩
      · refine ⟨_, rfl, _, _, rfl, rfl, _, _, rfl, ⟨by decide, rfl⟩, _, _, rfl, ⟨by decide, by decide⟩, fun p hp => ?_⟩
        refine ⟨p, _, rfl, SqT.of upd_same, rfl, _, _, rfl, _, _, rfl, rfl, ?_⟩
        refine ⟨_, rfl, "abcdefghijklmnopqrstuvwxyz", _, _, rfl, rfl, slz rfl, at_ofG (show ((m : Int) - 1) % 26 = (((m - 1) % 26 : Nat) : Int) by omega) (abc_at _ (by omega)), _, rfl, _, _, rfl, rfl, ?_, ?_⟩
        · rw [sizeLine_eq]
          show 1 + x.length ≤ _
          omega
        have em : ((m : Int) - 1) / 26 = (((m - 1) / 26 : Nat) : Int) := by omega
        refine ⟨(m - 1) / 26, sgn ((m - 1) % 26) ++ x, some (.int (((m : Int) - 1) % 26)), ?_, s2.trans (same_new hp), ?_, ?_, by omega⟩
        · rw [← em]
          rfl
        · rw [← hw, ← app_asc]
          congr 1
          rw [lw.eq_1 m, if_neg c]
        · rw [Str.length_append, sgn_len]
          omega
/-! ### the first names -/
abbrev s_names_beside : Stmt := topS 12
abbrev N_names_beside : List Str := ["count", "taken", "found", "index", "word"]
theorem sc_names_beside : FnScope N_names_beside ["count", "taken"] (defScope s_names_beside) := ⟨rfl, rfl, rfl, by decide +kernel, rfl, by decide +kernel, by decide +kernel⟩
def spBeside (K : PySem.W.Frag) : Sp := fun vs H Q _ => ∃ (n : Nat) (a : Addr), vs = [.int (n : Int), .ref a] ∧ n ≤ 64 ∧ SqT K H a [] ∧ ∀ H' q, Same H H' → H' q = some (.tup ((fstN n).map V.str)) → Q (.ref q) H'
theorem ok_beside {f : Addr} {fd : FuncData} (F : Fun K "names_beside" "names_beside" s_names_beside f fd) (B : Bl mg) (D_letters_at : Kn P w K mg base 1 "letters_at" ["index"] spLetters) (D_is_name : Kn P w K mg base 2 "is_name" ["value"] spName) : FnOk P w K mg base CX0 3 f fd ["count", "taken"] (spBeside K) := by
  refine F.ok sc_names_beside (fun vs H Q E h => ?_) (fun cdv A outer s H vs Q E hr h => ?_)
  · obtain ⟨n, a, rfl, _⟩ := h
    rfl
  · obtain ⟨n, a, rfl, hn, ha, k⟩ := h
    have hr_letters_at : Room 1 _ := hr.mono (by decide)
    have hr_is_name : Room 2 _ := hr
    refine ⟨_, (pss_cons (ps_set (i := 2) sc_names_beside.nd rfl (Or.inl rfl) (pe_lst pa_nil))
  (pss_cons (ps_set (i := 3) sc_names_beside.nd rfl (Or.inl rfl) pe_int)
  (pss_cons (ps_while PassesOwn.never (pt_cmpR op_lt (pe_callB call_len (by rfl) B.len PySem.boot_len (pa_cons (pv 2) pa_nil)) (pv 0) (nomark _))
  (pss_cons (ps_set (i := 4) sc_names_beside.nd rfl (Or.inl rfl) (pe_kn D_letters_at hr_letters_at (pa_cons (pv 3) pa_nil)))
  (pss_cons (ps_if (PW.pt (pw_and (pt_val (pe_kn D_is_name hr_is_name (pa_cons (pv 4) pa_nil))) (pw_and1 (pt_cmpR op_notIn_seq (pv 4) (pv 1) (by rfl)))))
  (pss_one (ps_expr (pe_bm PySem.F.plainAttrs_list PySem.F.slot_list_append PySem.F.type_list_append mt_append (pv 2) (pa_cons (pv 4) pa_nil))))
  pss_nil)
  (pss_one (ps_aug (i := 3) sc_names_beside.nd rfl (Or.inl rfl) pe_int ip_add)))))
  (pss_one (ps_ret (pe_callTy call_tuple_of (by rfl) B.tuple (by decide +kernel) (pa_cons (pv 2) pa_nil))))))), ?_⟩
    refine ⟨slz rfl, fun D hD => ?_⟩
    refine ⟨fun m σ H' => ∃ (i : Nat) (v4 : Option V), σ = [some (.int (n : Int)), some (.ref a), some (.ref D), some (.int (i : Int)), v4] ∧ Same H H' ∧ H' D = some (.lst ((nmsTo i).map V.str)) ∧ (nmsTo i).length ≤ n ∧ i ≤ 80 ∧ m = 100 - i, ⟨100, 0, none, rfl, same_new hD, upd_same, Nat.zero_le _, Nat.zero_le _, rfl⟩, ?_⟩
    rintro m σ H2 ⟨i, v4, rfl, s2, g2, l2, i80, rfl⟩
    refine ⟨_, rfl, .ref D, (nmsTo i).length, rfl, .inl ⟨_, SqL.of g2, by rw [List.length_map]⟩, _, rfl, _, _, rfl, rfl, _, rfl, ?_⟩
    by_cases c : (nmsTo i).length < n
    · refine iT (decide_eq_true (by omega)) ?_
      have im := nms_many i i80
      refine ⟨fun σ' H' => ∃ (v4 : Option V), σ' = [some (.int (n : Int)), some (.ref a), some (.ref D), some (.int ((i + 1 : Nat) : Int)), v4] ∧ Same H H' ∧ H' D = some (.lst ((nmsTo (i + 1)).map V.str)) ∧ (nmsTo (i + 1)).length ≤ n, ?_, ?_⟩
      · rintro σ' H' ⟨v4', e1, e2, e3, e4⟩
        exact ⟨100 - (i + 1), by omega, i + 1, v4', e1, e2, e3, e4, by omega, rfl⟩
      · refine ⟨_, rfl, i, rfl, by omega, fun H3 s3 => ?_⟩
        have g3 := s3 _ _ g2
        have S3 := s2.trans s3
        refine ⟨_, rfl, 0, .str (letA i), .str (letA i), rfl, .str _, fun x z => ?_, ?_⟩
        · cases z
          unfold letA
          split
          · show 1 ≤ 1000
            omega
          · show 1 + 1 ≤ 1000
            omega
        refine ⟨_, rfl, ?_⟩
        have ei : (i : Int) + 1 = ((i + 1 : Nat) : Int) := by omega
        cases hnm : isNameD (.str (letA i)) with
        | false =>
          refine iF rfl (iF rfl ?_)
          refine ⟨_, rfl, _, _, rfl, rfl, ?_⟩
          refine ⟨_, by rw [← ei]; rfl, S3, ?_, ?_⟩
          · rw [nms_succ, hnm, if_neg (by decide), List.append_nil]
            exact g3
          · rw [nms_succ, hnm, if_neg (by decide), List.append_nil]
            exact l2
        | true =>
          refine iT rfl ?_
          refine ⟨_, rfl, _, rfl, a, [], rfl, .inr (Same.seqT S3 ha), rfl, rfl, _, rfl, iT rfl ?_⟩
          refine ⟨_, rfl, .inl ⟨rfl, _, SqL.of g3⟩, _, rfl, D, _, _, rfl, rfl, g3, szl (by rw [List.length_map]; omega), ?_⟩
          refine ⟨_, rfl, _, _, rfl, rfl, ?_⟩
          refine ⟨_, by rw [← ei]; rfl, fun b o e => ?_, ?_, ?_⟩
          · rw [upd_ne (ne_of_none e hD)]
            exact S3 _ _ e
          · rw [upd_same, nms_succ, if_pos hnm, List.map_append]
            rfl
          · rw [nms_succ, if_pos hnm, List.length_append]
            show _ + 1 ≤ n
            omega
    · refine iF (decide_eq_false (by omega)) ?_
      refine ⟨_, rfl, D, _, rfl, .inl ⟨SqL.of g2, fun q hq => ?_⟩⟩
      have en : (nmsTo i).length = n := by omega
      have e : (nmsTo i).map V.str = (fstN n).map V.str := by
        unfold fstN
        rw [nms_pre i80, en]
      rw [e]
      exact k _ q (s2.trans (same_new hq)) upd_same
abbrev s_first_names : Stmt := topS 11
abbrev N_first_names : List Str := ["count"]
theorem sc_first_names : FnScope N_first_names ["count"] (defScope s_first_names) := ⟨rfl, rfl, rfl, by decide +kernel, rfl, by decide +kernel, by decide +kernel⟩
def spFirst : Sp := fun vs H Q _ => ∃ n : Nat, vs = [.int (n : Int)] ∧ n ≤ 64 ∧ ∀ H' q, Same H H' → H' q = some (.tup ((fstN n).map V.str)) → Q (.ref q) H'
theorem ok_first {f : Addr} {fd : FuncData} (F : Fun K "first_names" "first_names" s_first_names f fd) (D_names_beside : Kn P w K mg base 3 "names_beside" ["count", "taken"] (spBeside K)) : FnOk P w K mg base CX0 4 f fd ["count"] spFirst := by
  refine F.ok sc_first_names (fun vs H Q E h => ?_) (fun cdv A outer s H vs Q E hr h => ?_)
  · obtain ⟨n, rfl, _⟩ := h
    rfl
  · obtain ⟨n, rfl, hn, k⟩ := h
    have hr_names_beside : Room 3 _ := hr
    refine ⟨_, (pss_one (ps_ret (pe_kn D_names_beside hr_names_beside (pa_cons (pv 0) (pa_cons (pe_tup pa_nil) pa_nil))))), ?_⟩
    refine ⟨_, rfl, slz rfl, fun q hq => ⟨n, q, rfl, hn, SqT.of upd_same, fun H' r s1 g => ?_⟩⟩
    exact k H' r ((same_new hq).trans s1) g
end
end L3

/-! values: what stands within, how many parts, how deep -/
namespace L3
open PySem L2
--PURE
/-- what stands within a value; none for what is none -/
def innerD : PyData → Option (List PyData)
  | .tuple [m, n, .tuple ds] => if isS "made" m && isNameD n then some ds else none
  | .tuple [a, b] => if (isS "whole" a && isWholeD b) || (isS "text" a && isTextD b) then some [] else none
  | .tuple [a] => if isS "function" a then some [] else none
  | _ => none
mutual
/-- parts and depth -/
def meas : PyData → Option (Nat × Nat)
  | .tuple ds => measT ds
  | _ => none
def measT : List PyData → Option (Nat × Nat)
  | [a] => if isS "function" a then some (1, 1) else none
  | [a, b] => if (isS "whole" a && isWholeD b) || (isS "text" a && isTextD b) then some (1, 1) else none
  | [m, n, e] => if isS "made" m && isNameD n then (measE e).map fun p => (1 + p.1, 1 + p.2) else none
  | _ => none
def measE : PyData → Option (Nat × Nat)
  | .tuple ds => measL ds
  | _ => none
/-- parts together, the deepest -/
def measL : List PyData → Option (Nat × Nat)
  | [] => some (0, 0)
  | d :: ds => match meas d, measL ds with
    | some p, some q => some (p.1 + q.1, max p.2 q.2)
    | _, _ => none
end
theorem meas_inner : ∀ (d : PyData), meas d = (innerD d).bind fun ds => (measL ds).map fun p => (1 + p.1, 1 + p.2)
  | .tuple [m, n, .tuple ds] => by
    simp only [meas, measT, measE, innerD]
    split <;> rfl
  | .tuple [a, b] => by
    simp only [meas, measT, innerD]
    split <;> simp [measL]
  | .tuple [a] => by
    simp only [meas, measT, innerD]
    split <;> simp [measL]
  | .tuple [m, n, .none] | .tuple [m, n, .bool _] | .tuple [m, n, .int _] | .tuple [m, n, .str _] | .tuple [m, n, .list _] | .tuple [m, n, .dict _] => by
    simp only [meas, measT, measE, innerD, Option.map_none, ite_self, Option.bind_none]
  | .tuple [] => by simp only [meas, measT, innerD, Option.bind_none]
  | .tuple (_ :: _ :: _ :: _ :: _) => by simp only [meas, measT, innerD, Option.bind_none]
  | .none => by simp only [meas, innerD, Option.bind_none]
  | .bool _ => by simp only [meas, innerD, Option.bind_none]
  | .int _ => by simp only [meas, innerD, Option.bind_none]
  | .str _ => by simp only [meas, innerD, Option.bind_none]
  | .list _ => by simp only [meas, innerD, Option.bind_none]
  | .dict _ => by simp only [meas, innerD, Option.bind_none]
theorem meas_low {d : PyData} {p : Nat × Nat} (h : meas d = some p) : 1 ≤ p.1 ∧ 1 ≤ p.2 := by
  rw [meas_inner] at h
  cases hi : innerD d with
  | none => rw [hi] at h; cases h
  | some ds =>
    rw [hi] at h
    have h : (measL ds).map (fun p => (1 + p.1, 1 + p.2)) = some p := h
    cases hm : measL ds with
    | none => rw [hm] at h; cases h
    | some q =>
      rw [hm] at h
      have h := Option.some.inj h
      rw [← h]
      exact ⟨by show 1 ≤ 1 + _; omega, by show 1 ≤ 1 + _; omega⟩
/-- all are values, none reaches below 101; how many parts -/
def sumM : List (PyData × Nat) → Option Nat
  | [] => some 0
  | (d, n) :: ps => match meas d, sumM ps with
    | some p, some s => if n + p.2 ≤ 101 then some (p.1 + s) else none
    | _, _ => none
theorem sumM_app : ∀ (a b : List (PyData × Nat)), sumM (a ++ b) = (sumM a).bind fun s => (sumM b).map fun r => s + r
  | [], b => by simp [sumM]
  | (d, n) :: a, b => by
    rw [List.cons_append]
    simp only [sumM, sumM_app a b]
    cases meas d with
    | none => rfl
    | some p =>
      cases sumM a with
      | none => rfl
      | some s =>
        cases sumM b with
        | none => simp
        | some r =>
          simp
          split
          · simp; omega
          · simp
/-- whether the stack comes to a good end -/
def chk (ps : List (PyData × Nat)) (many : Nat) : Bool := match sumM ps with
  | some s => decide (many + s ≤ 1000)
  | none => false
theorem sumM_inner {n : Nat} : ∀ (ds : List PyData), sumM (ds.map fun d => (d, n + 1)) = match measL ds with
    | some p => if p.2 = 0 ∨ n + 1 + p.2 ≤ 101 then some p.1 else none
    | none => none
  | [] => by simp [sumM, measL]
  | d :: ds => by
    simp only [List.map_cons, sumM, measL, sumM_inner ds]
    cases hm : meas d with
    | none => rfl
    | some p =>
      have hl := meas_low hm
      cases hq : measL ds with
      | none => rfl
      | some q =>
        simp only []
        by_cases h2 : q.2 = 0 ∨ n + 1 + q.2 ≤ 101
        · rw [if_pos h2]
          simp only []
          by_cases h1 : n + 1 + p.2 ≤ 101
          · rw [if_pos h1, if_pos (.inr (by rcases h2 with h2 | h2 <;> omega))]
          · rw [if_neg h1, if_neg (by omega)]
        · rw [if_neg h2, if_neg (by omega)]
theorem sumM_one (d : PyData) (n : Nat) : sumM [(d, n)] = match meas d with
    | some p => if n + p.2 ≤ 101 then some p.1 else none
    | none => none := by
  simp only [sumM]
  cases meas d with
  | none => rfl
  | some p => simp
/-- what the law wants of is_value -/
def due (d : PyData) : Bool := match meas d with
  | some p => decide (p.1 ≤ 1000) && decide (p.2 ≤ 100)
  | none => false
theorem chk_first (d : PyData) : chk [(d, 1)] 0 = due d := by
  unfold chk due
  rw [sumM_one]
  cases meas d with
  | none => rfl
  | some p =>
    simp only []
    by_cases h : 1 + p.2 ≤ 101
    · rw [if_pos h, decide_eq_true (by omega : p.2 ≤ 100), Bool.and_true]
      simp
    · rw [if_neg h, decide_eq_false (by omega : ¬ p.2 ≤ 100), Bool.and_false]
theorem chk_last {ps : List (PyData × Nat)} {d : PyData} {n many : Nat} : chk (ps ++ [(d, n)]) many = match innerD d with
    | none => false
    | some ds => decide (many + 1 ≤ 1000) && decide (n ≤ 100) && chk (ps ++ ds.map fun e => (e, n + 1)) (many + 1) := by
  unfold chk
  rw [sumM_app, sumM_one, meas_inner]
  cases hi : innerD d with
  | none => cases sumM ps <;> rfl
  | some ds =>
    simp only [Option.bind_some]
    rw [sumM_app, sumM_inner]
    cases hm : measL ds with
    | none => cases sumM ps <;> simp
    | some q =>
      simp only [Option.map_some]
      cases hs : sumM ps with
      | none => simp
      | some s =>
        simp only [Option.bind_some]
        by_cases h1 : n + (1 + q.2) ≤ 101
        · rw [if_pos h1, if_pos (.inr (by omega))]
          simp only [Option.map_some]
          rw [Bool.eq_iff_iff]
          simp only [Bool.and_eq_true, decide_eq_true_eq]
          omega
        · rw [if_neg h1]
          simp only [Option.map_none]
          by_cases h2 : q.2 = 0 ∨ n + 1 + q.2 ≤ 101
          · rw [if_pos h2, decide_eq_false (by omega : ¬ n ≤ 100)]
            simp
          · rw [if_neg h2]
            simp
theorem measL_app : ∀ (a b : List PyData), measL (a ++ b) = (measL a).bind fun p => (measL b).map fun q => (p.1 + q.1, max p.2 q.2)
  | [], b => by simp [measL]
  | d :: a, b => by
    rw [List.cons_append]
    simp only [measL, measL_app a b]
    cases meas d with
    | none => rfl
    | some p =>
      cases measL a with
      | none => rfl
      | some s =>
        cases measL b with
        | none => simp
        | some r => simp; omega
theorem parts_step {ds0 : List PyData} {e : PyData} {q : Nat × Nat} (h : measL (ds0 ++ [e]) = some q) : ∃ es q', innerD e = some es ∧ measL (ds0 ++ es) = some q' ∧ q.1 = q'.1 + 1 := by
  rw [measL_app] at h
  cases h0 : measL ds0 with
  | none => rw [h0] at h; cases h
  | some p =>
    rw [h0] at h
    simp only [Option.bind_some, measL] at h
    rw [meas_inner] at h
    cases hi : innerD e with
    | none => rw [hi] at h; cases h
    | some es =>
      rw [hi] at h
      simp only [Option.bind_some] at h
      cases hm : measL es with
      | none => rw [hm] at h; cases h
      | some r =>
        rw [hm] at h
        simp only [Option.map_some] at h
        have h := Option.some.inj h
        refine ⟨es, (p.1 + r.1, max p.2 r.2), rfl, ?_, ?_⟩
        · rw [measL_app, h0, hm]
          rfl
        · rw [← h]
          show p.1 + (1 + r.1 + 0) = p.1 + r.1 + 1
          omega
mutual
def psz : PyData → Nat
  | .tuple ds => 1 + pszL ds
  | _ => 1
def pszL : List PyData → Nat
  | [] => 0
  | d :: ds => psz d + pszL ds
end
theorem psz_pos (d : PyData) : 1 ≤ psz d := by
  cases d <;> simp only [psz] <;> omega
theorem pszL_app : ∀ (a b : List PyData), pszL (a ++ b) = pszL a + pszL b
  | [], b => by simp [pszL]
  | d :: a, b => by simp only [List.cons_append, pszL, pszL_app a b]; omega
theorem pszL_len : ∀ (a : List PyData), a.length ≤ pszL a
  | [] => Nat.le_refl _
  | d :: a => by
    have := psz_pos d
    have := pszL_len a
    simp only [List.length_cons, pszL]
    omega
theorem inner_less {d : PyData} {ds : List PyData} (h : innerD d = some ds) : pszL ds < psz d := by
  unfold innerD at h
  split at h
  · split at h
    · have h := Option.some.inj h
      subst h
      simp only [psz, pszL]
      omega
    · cases h
  · split at h
    · have h := Option.some.inj h
      subst h
      simp only [psz, pszL]
      omega
    · cases h
  · split at h
    · have h := Option.some.inj h
      subst h
      simp only [psz, pszL]
      omega
    · cases h
  · cases h
end L3

set_option maxRecDepth 900000
namespace L3
open PySem L2
section
variable {P : Program} {w : World} {K : PySem.W.Frag} {mg : Str → Option Value} {base : Heap} {bA : Addr} {es : Array DictEntry} {nb : Nat}
/-! ### leaves, kinds -/
def isLeafD : List PyData → Bool
  | [a, b] => (isS "var" a || isS "con" a) && isNameD b
  | _ => false
/-- every text that is looked at is short -/
def sOk : PyData → Bool
  | .str x => decide (x.length ≤ 100)
  | _ => true
abbrev s_is_leaf : Stmt := topS 16
abbrev N_is_leaf : List Str := ["value"]
theorem sc_is_leaf : FnScope N_is_leaf ["value"] (defScope s_is_leaf) := ⟨rfl, rfl, rfl, by decide +kernel, rfl, by decide +kernel, by decide +kernel⟩
def spLeaf : Sp := fun vs H Q _ => ∃ (t : Addr) (v : V) (ds : List PyData), vs = [v] ∧ Da t H v (.tuple ds) ∧ (∀ e ∈ ds, ∀ x, e = .str x → x.length ≤ 100) ∧ ∀ H', Same H H' → Q (.bl (isLeafD ds)) H'
theorem ok_leaf {f : Addr} {fd : FuncData} (F : Fun K "is_leaf" "is_leaf" s_is_leaf f fd) (B : Bl mg) (D_is_name : Kn P w K mg base 2 "is_name" ["value"] spName) : FnOk P w K mg base CX0 3 f fd ["value"] spLeaf := by
  refine F.ok sc_is_leaf (fun vs H Q E h => ?_) (fun cdv A outer s H vs Q E hr h => ?_)
  · obtain ⟨t, v, ds, rfl, _⟩ := h
    rfl
  · obtain ⟨t, v, ds, rfl, hd, hx, k⟩ := h
    have hr_is_name : Room 2 _ := hr
    have hu64 := hr.units
    refine ⟨_, (pss_one (ps_ret (pe_and (pe_cmpR op_eq (pe_callB call_len (by rfl) B.len PySem.boot_len (pa_cons (pv 0) pa_nil)) pe_int (nomark _)) (pe_and (pe_or (pe_cmpR (op_eqStr (t := t) hu64) (pe_ix ix_tup (pv 0) pe_int (fun _ _ => rfl)) pe_str (nomark _)) (pe_one (pe_cmpR (op_eqStr (t := t) hu64) (pe_ix ix_tup (pv 0) pe_int (fun _ _ => rfl)) pe_str (nomark _)))) (pe_one (pe_kn D_is_name hr_is_name (pa_cons (pe_ix ix_tup (pv 0) pe_int (fun _ _ => rfl)) pa_nil))))))), ?_⟩
    cases hd with
    | @tup a xs _ ga da =>
      have le := da.len
      refine ⟨_, rfl, .ref a, xs.length, rfl, .inr ⟨xs, SqT.of ga, rfl⟩, ?_⟩
      refine ⟨rfl, _, rfl, ?_⟩
      by_cases h2 : ds.length = 2
      · match ds, h2, da, hx, k with
        | [d1, d2], _, da, hx, k =>
          cases da with
          | @cons v1 _ _ _ q1 t1 =>
            cases t1 with
            | @cons v2 _ _ _ q2 t2 =>
              cases t2
              refine iT rfl ?_
              have fin : ∀ c : Bool, c = (isS "var" d1 || isS "con" d1) → (c = true → ∀ H', Same H H' → Q (.bl (isNameD d2)) H') ∧ (c = false → Q (.bl false) H) := fun c e => ⟨fun z H' s' => by
                have this : Q (.bl ((isS "var" d1 || isS "con" d1) && isNameD d2)) H' := k H' s'
                rw [← e, z] at this
                exact this, fun z => by
                have this : Q (.bl ((isS "var" d1 || isS "con" d1) && isNameD d2)) H := k H (Same.refl H)
                rw [← e, z] at this
                exact this⟩
              refine ⟨_, rfl, a, _, 0, _, rfl, rfl, SqT.of ga, rfl, d1, _, rfl, q1, _, rfl, ?_⟩
              have cal := fun (z : (isS "var" d1 || isS "con" d1) = true) => (⟨_, rfl, a, _, 1, _, rfl, rfl, SqT.of ga, rfl, t, v2, d2, rfl, q2, fun x e => Nat.le_trans (hx d2 (by simp) x e) (by decide), (fin _ rfl).1 z H (Same.refl H)⟩ : tCall spName [] E0 (tCons (tOp (rIxT K) (tVar 0) (tC (V.int 1))) tNil) [some (V.ref a)] H Q)
              cases h3 : isS "var" d1 with
              | true =>
                exact ⟨_, rfl, iT rfl (cal (by rw [h3]; rfl))⟩
              | false =>
                refine iF rfl ?_
                refine ⟨_, rfl, a, _, 0, _, rfl, rfl, SqT.of ga, rfl, d1, _, rfl, q1, _, rfl, ?_⟩
                cases h4 : isS "con" d1 with
                | true => exact iT rfl (cal (by rw [h4]; simp))
                | false => exact iF rfl ((fin _ rfl).2 (by rw [h3, h4]; rfl))
      · have e0 : isLeafD ds = false := by
          match ds, h2 with
          | [], _ => rfl
          | [_], _ => rfl
          | [_, _], h2 => exact absurd rfl h2
          | _ :: _ :: _ :: _, _ => rfl
        rw [e0] at k
        refine iF (decide_eq_false fun z => h2 (by rw [← le]; exact Int.ofNat.inj (V.int.inj z))) ?_
        exact k H (Same.refl H)
mutual
def isKindD : PyData → Bool
  | .tuple ds => isKindL ds
  | _ => false
def isKindL : List PyData → Bool
  | [h, a, b] => isS "apply" h && isKindD a && isKindD b
  | ds => isLeafD ds
end
end
mutual
/-- texts are short, all can be shown -/
def okD : PyData → Bool
  | .str x => decide (x.length ≤ 100) && PyData.strOk x
  | .tuple ds => okL ds
  | .int i => decide (i.natAbs.log2 < 1920)
  | .list ds => PyData.showableAll ds
  | .dict kvs => PyData.showableKv kvs
  | .none => true
  | .bool _ => true
def okL : List PyData → Bool
  | [] => true
  | d :: ds => okD d && okL ds
end
theorem okL_mem : ∀ {ds : List PyData} {d : PyData}, okL ds = true → d ∈ ds → okD d = true
  | e :: ds, d, h, hd => by
    simp only [okL, Bool.and_eq_true] at h
    rcases List.mem_cons.mp hd with rfl | hd
    · exact h.1
    · exact okL_mem h.2 hd
theorem okL_app : ∀ (a b : List PyData), okL (a ++ b) = (okL a && okL b)
  | [], b => by simp [okL]
  | d :: a, b => by simp only [List.cons_append, okL, okL_app a b, Bool.and_assoc]
theorem okD_str {x : Str} (h : okD (.str x) = true) : x.length ≤ 100 := by
  simp only [okD, Bool.and_eq_true, decide_eq_true_eq] at h
  exact h.1
theorem okD_sign {x : Str} (h : okD (.str x) = true) : PyData.strOk x = true := by
  simp only [okD, Bool.and_eq_true] at h
  exact h.2
theorem daAll_last {t : Addr} {H : Hp} {d : PyData} : ∀ {ds : List PyData} {vs : List V}, DaAll t H vs (ds ++ [d]) → ∃ vs0 v, vs = vs0 ++ [v] ∧ DaAll t H vs0 ds ∧ Da t H v d
  | [], _, h => by
    cases h with
    | cons h1 h2 =>
      cases h2
      exact ⟨[], _, rfl, .nil, h1⟩
  | e :: ds, _, h => by
    cases h with
    | cons h1 h2 =>
      obtain ⟨vs0, v, rfl, g1, g2⟩ := daAll_last (ds := ds) h2
      exact ⟨_, v, rfl, .cons h1 g1, g2⟩
theorem isKindL_three (h a b : PyData) : isKindL [h, a, b] = (isS "apply" h && isKindD a && isKindD b) := by
  simp only [isKindL]
theorem isKindL_else {ds : List PyData} (h : ds.length ≠ 3) : isKindL ds = isLeafD ds := by
  match ds, h with
  | [], _ => simp only [isKindL]
  | [_], _ => simp only [isKindL]
  | [_, _], _ => simp only [isKindL]
  | [_, _, _], h => exact absurd rfl h
  | _ :: _ :: _ :: _ :: _, _ => simp only [isKindL]
theorem isKindD_not {d : PyData} (h : isTup d = false) : isKindD d = false := by
  cases d with
  | tuple ds => cases h
  | _ => simp only [isKindD]
section
variable {P : Program} {w : World} {K : PySem.W.Frag} {mg : Str → Option Value} {base : Heap} {bA : Addr}
abbrev s_is_kind : Stmt := topS 15
abbrev N_is_kind : List Str := ["value", "waiting", "part"]
theorem sc_is_kind : FnScope N_is_kind ["value"] (defScope s_is_kind) := ⟨rfl, rfl, rfl, by decide +kernel, rfl, by decide +kernel, by decide +kernel⟩
def spKind : Sp := fun vs H Q _ => ∃ (t : Addr) (v : V) (d : PyData), vs = [v] ∧ Da t H v d ∧ okD d = true ∧ psz d ≤ 900000 ∧ ∀ H', Same H H' → Q (.bl (isKindD d)) H'
theorem ok_kind {f : Addr} {fd : FuncData} (F : Fun K "is_kind" "is_kind" s_is_kind f fd) (B : Bl mg) (B9 : Bl9 mg) (D_is_leaf : Kn P w K mg base 3 "is_leaf" ["value"] spLeaf) : FnOk P w K mg base CX0 4 f fd ["value"] spKind := by
  refine F.ok sc_is_kind (fun vs H Q E h => ?_) (fun cdv A outer s H vs Q E hr h => ?_)
  · obtain ⟨t, v, d, rfl, _⟩ := h
    rfl
  · obtain ⟨t, v, d, rfl, hd, hok, hsz, k⟩ := h
    have hr_is_leaf : Room 3 _ := hr
    have hu64 := hr.units
    refine ⟨_, (pss_cons (ps_set (i := 1) sc_is_kind.nd rfl (Or.inl rfl) (pe_lst (pa_cons (pv 0) pa_nil)))
  (pss_cons (ps_while PassesOwn.never (pt_truth (pv 1) (by intro _; rfl))
  (pss_cons (ps_set (i := 2) sc_is_kind.nd rfl (Or.inl rfl) (pe_bm0 PySem.F.plainAttrs_list PySem.F.slot_list_pop PySem.F.type_list_pop mt_pop (pv 1)))
  (pss_cons (ps_if (pt_not (pt_val (pe_callB call_isi (by rfl) B9.isinstance PyProof.Rows.boot_isinstance (pa_cons (pv 2) (pa_cons (pe_bltn (v := .ty "tuple") (by rfl) B9.tuple (by decide +kernel) rfl) pa_nil)))))
  (pss_one (ps_ret pe_bl))
  pss_nil)
  (pss_one (ps_if (PW.pt (pw_and (pt_cmpR op_eq (pe_callB call_len (by rfl) B.len PySem.boot_len (pa_cons (pv 2) pa_nil)) pe_int (nomark _)) (pw_and1 (pt_cmpR (op_eqStr (t := t) hu64) (pe_ix ix_tup (pv 2) pe_int (fun _ _ => rfl)) pe_str (nomark _)))))
  (pss_cons (ps_expr (pe_bm PySem.F.plainAttrs_list PySem.F.slot_list_append PySem.F.type_list_append mt_append (pv 1) (pa_cons (pe_ix ix_tup (pv 2) pe_int (fun _ _ => rfl)) pa_nil)))
  (pss_one (ps_expr (pe_bm PySem.F.plainAttrs_list PySem.F.slot_list_append PySem.F.type_list_append mt_append (pv 1) (pa_cons (pe_ix ix_tup (pv 2) pe_int (fun _ _ => rfl)) pa_nil)))))
  (pss_one (ps_if (pt_not (pt_val (pe_kn D_is_leaf hr_is_leaf (pa_cons (pv 2) pa_nil))))
  (pss_one (ps_ret pe_bl))
  pss_nil)))))))
  (pss_one (ps_ret pe_bl)))), ?_⟩
    refine ⟨_, rfl, slz rfl, fun lw hlw => ?_⟩
    have s1 : Same H (upd H lw (.lst [v])) := same_new hlw
    have g1 : (upd H lw (.lst [v])) lw = some (.lst [v]) := upd_same
    generalize upd H lw (.lst [v]) = H1 at s1 g1 ⊢
    refine ⟨fun m σ H' => ∃ (ds : List PyData) (vs : List V) (v3 : Option V), σ = [some v, some (.ref lw), v3] ∧ Same H H' ∧ H' lw = some (.lst vs) ∧ DaAll t H vs ds ∧ okL ds = true ∧ m = pszL ds ∧ pszL ds ≤ 900000 ∧ ds.all isKindD = isKindD d, ⟨pszL [d], [d], [v], none, rfl, s1, g1, .cons hd .nil, by simp only [okL, hok]; rfl, rfl, by simpa [pszL] using hsz, by simp⟩, ?_⟩
    rintro m σ H2 ⟨ds, vs, v3, rfl, s2, g2, da, ho, rfl, hz, hk⟩
    refine ⟨_, rfl, _, .inl ⟨vs, SqL.of g2, rfl⟩, ?_⟩
    rcases List.eq_nil_or_concat ds with rfl | ⟨ds0, d1, rfl⟩
    · cases da
      refine iteF ?_
      have e : isKindD d = true := by rw [← hk]; rfl
      rw [e] at k
      exact k H2 s2
    · rw [List.concat_eq_append] at *
      obtain ⟨vs0, v1, rfl, da0, dv⟩ := daAll_last da
      have hne : (!(vs0 ++ [v1]).isEmpty) = true := by cases vs0 <;> rfl
      refine iT hne ?_
      refine ⟨fun σ' H' => ∃ (ds : List PyData) (vs : List V) (v3 : Option V), σ' = [some v, some (.ref lw), v3] ∧ Same H H' ∧ H' lw = some (.lst vs) ∧ DaAll t H vs ds ∧ okL ds = true ∧ pszL ds < pszL (ds0 ++ [d1]) ∧ pszL ds ≤ 900000 ∧ ds.all isKindD = isKindD d, ?_, ?_⟩
      · rintro σ' H' ⟨ds, vs, v3, e1, e2, e3, e4, e5, e6, e7, e8⟩
        exact ⟨pszL ds, e6, ds, vs, v3, e1, e2, e3, e4, e5, rfl, e7, e8⟩
      · have lz : pszL (ds0 ++ [d1]) = pszL ds0 + psz d1 := by rw [pszL_app]; simp [pszL]
        have hp1 := psz_pos d1
        rw [okL_app, Bool.and_eq_true] at ho
        obtain ⟨ho0, ho1⟩ := ho
        have ho1 : okD d1 = true := okL_mem ho1 (List.mem_singleton.mpr rfl)
        rw [List.all_append] at hk
        have hk : (ds0.all isKindD && isKindD d1) = isKindD d := by rw [← hk]; simp
        have S3 : Same H (upd H2 lw (.lst vs0)) := fun b o z => by
          rw [upd_ne (ne_of_none z hlw)]
          exact s2 _ _ z
        refine ⟨_, rfl, .inl ⟨rfl, _, SqL.of g2⟩, lw, vs0 ++ [v1], v1, rfl, rfl, g2, by simp, ?_⟩
        rw [List.dropLast_concat]
        have g3 : (upd H2 lw (.lst vs0)) lw = some (.lst vs0) := upd_same
        generalize upd H2 lw (.lst vs0) = H3 at S3 g3 ⊢
        have dv3 := dv.kp (kp_same S3)
        refine ⟨_, rfl, v1, .ty "tuple", .type (tyName d1), .type "tuple", isTup d1, rfl, .ty "tuple", dv3.ty, kit_tup d1, ?_⟩
        refine ⟨_, rfl, ?_⟩
        cases ht : isTup d1 with
        | false =>
          have e : isKindD d = false := by rw [← hk, isKindD_not ht, Bool.and_false]
          rw [e] at k
          exact k H3 S3
        | true =>
          obtain ⟨es, rfl⟩ : ∃ es, d1 = .tuple es := by
            cases d1 with
            | tuple es => exact ⟨es, rfl⟩
            | _ => cases ht
          cases id dv with
          | @tup a xs _ ga0 daa0 =>
            have ga : H3 a = some (.tup xs) := S3 _ _ ga0
            have le := daa0.len
            refine iF rfl ?_
            refine ⟨_, rfl, .ref a, xs.length, rfl, .inr ⟨xs, SqT.of ga, rfl⟩, ?_⟩
            have ho2 : okL es = true := by simpa only [okD] using ho1
            have ps : psz (.tuple es) = 1 + pszL es := by simp only [psz]
            refine ⟨rfl, _, rfl, ?_⟩
            by_cases h3 : es.length = 3
            · match es, h3, daa0, ho2, dv, dv3, hk, ps, lz with
              | [d1, d2, d3], _, daa0, ho2, dv, dv3, hk, ps, lz =>
                cases daa0 with
                | @cons v1 _ _ _ q1 t1 =>
                  cases t1 with
                  | @cons v2 _ _ _ q2 t2 =>
                    cases t2 with
                    | @cons v3' _ _ _ q3 t3 =>
                      cases t3
                      refine iT rfl ?_
                      refine ⟨_, rfl, a, _, 0, _, rfl, rfl, SqT.of ga, rfl, d1, _, rfl, q1.kp (kp_same S3), _, rfl, ?_⟩
                      have e3 := isKindL_three d1 d2 d3
                      cases hap : isS "apply" d1 with
                      | false =>
                        have eL : isKindL [d1, d2, d3] = isLeafD [d1, d2, d3] := by
                          rw [e3, hap]
                          rfl
                        generalize hes : [d1, d2, d3] = es at daa0 ho2 dv dv3 hk ps lz hz eL ⊢
                        refine iF rfl ?_
                        refine ⟨_, rfl, t, .ref a, es, rfl, dv3, fun e he x ex => okD_str (by rw [← ex]; exact okL_mem ho2 he), fun H4 s4 => ⟨_, rfl, ?_⟩⟩
                        cases hlf : isLeafD es with
                        | false =>
                          have e : isKindD d = false := by
                            rw [← hk, show isKindD (.tuple es) = isKindL es by simp only [isKindD], eL, hlf, Bool.and_false]
                          rw [e] at k
                          exact k H4 (S3.trans s4)
                        | true =>
                          refine iF rfl ?_
                          exact ⟨ds0, vs0, _, rfl, S3.trans s4, s4 _ _ g3, da0, ho0, by rw [lz]; omega, by rw [lz] at hz; omega, by rw [← hk, show isKindD (.tuple es) = isKindL es by simp only [isKindD], eL, hlf, Bool.and_true]⟩
                      | true =>
                        refine iT rfl ?_
                        have lv0 : vs0.length ≤ 900000 := by
                          have := pszL_len ds0
                          rw [da0.len]
                          omega
                        refine ⟨_, rfl, .inl ⟨rfl, _, SqL.of g3⟩, _, rfl, _, _, 1, _, rfl, rfl, SqT.of ga, rfl, lw, _, _, rfl, rfl, g3, szl (by omega), ?_⟩
                        have S8 : Same H (upd H3 lw (.lst (vs0 ++ [v2]))) := fun b o zz => by
                          rw [upd_ne (ne_of_none zz hlw)]
                          exact S3 _ _ zz
                        have g8 : (upd H3 lw (.lst (vs0 ++ [v2]))) lw = some (.lst (vs0 ++ [v2])) := upd_same
                        generalize upd H3 lw (.lst (vs0 ++ [v2])) = H4 at S8 g8 ⊢
                        refine ⟨_, rfl, .inl ⟨rfl, _, SqL.of g8⟩, _, rfl, _, _, 2, _, rfl, rfl, SqT.of (S8 _ _ ga0), rfl, lw, _, _, rfl, rfl, g8, szl (by rw [List.length_append, List.length_singleton]; omega), ?_⟩
                        have pl : pszL [d1, d2, d3] = psz d1 + (psz d2 + psz d3) := by simp only [pszL]; omega
                        have hp2 := psz_pos d1
                        have ok3 : okD d2 = true ∧ okD d3 = true := ⟨okL_mem ho2 (by simp), okL_mem ho2 (by simp)⟩
                        have ln : pszL (ds0 ++ [d2] ++ [d3]) = pszL ds0 + psz d2 + psz d3 := by rw [pszL_app, pszL_app]; simp only [pszL]; omega
                        refine ⟨ds0 ++ [d2] ++ [d3], vs0 ++ [v2] ++ [v3'], _, rfl, fun b o zz => ?_, upd_same, (da0.app (.cons q2 .nil)).app (.cons q3 .nil), ?_, by rw [lz, ln, ps, pl]; omega, by rw [ln]; rw [lz, ps, pl] at hz; omega, ?_⟩
                        · rw [upd_ne (ne_of_none zz hlw)]
                          exact S8 _ _ zz
                        · rw [okL_app, okL_app, ho0]
                          simp only [okL, ok3.1, ok3.2]
                          rfl
                        · rw [← hk, show isKindD (.tuple [d1, d2, d3]) = isKindL [d1, d2, d3] by simp only [isKindD], e3, hap, List.all_append, List.all_append]
                          simp [Bool.and_assoc]
            · have eL := isKindL_else h3
              refine iF (decide_eq_false fun z => h3 (by rw [← le]; exact Int.ofNat.inj (V.int.inj z))) ?_
              refine iF rfl ?_
              refine ⟨_, rfl, t, .ref a, es, rfl, dv3, fun e he x ex => okD_str (by rw [← ex]; exact okL_mem ho2 he), fun H4 s4 => ⟨_, rfl, ?_⟩⟩
              cases hlf : isLeafD es with
              | false =>
                have e : isKindD d = false := by
                  rw [← hk, show isKindD (.tuple es) = isKindL es by simp only [isKindD], eL, hlf, Bool.and_false]
                rw [e] at k
                exact k H4 (S3.trans s4)
              | true =>
                refine iF rfl ?_
                exact ⟨ds0, vs0, _, rfl, S3.trans s4, s4 _ _ g3, da0, ho0, by rw [lz]; omega, by rw [lz] at hz; omega, by rw [← hk, show isKindD (.tuple es) = isKindL es by simp only [isKindD], eL, hlf, Bool.and_true]⟩
end
end L3

namespace L3
open PySem L2
section
variable {P : Program} {w : World} {K : PySem.W.Frag} {mg : Str → Option Value} {base : Heap}
/-! ### vars -/
abbrev s__law_vars : Stmt := topS 58
abbrev N__law_vars : List Str := ["_law_kinds", "_law_found", "_law_waiting", "_law_kind"]
theorem sc__law_vars : FnScope N__law_vars ["_law_kinds"] (defScope s__law_vars) := ⟨rfl, rfl, rfl, by decide +kernel, rfl, by decide +kernel, by decide +kernel⟩
def spVars (K : PySem.W.Frag) : Sp := fun vs H Q _ => ∃ (l : Addr) (xs : List V) (ks : List Kd), vs = [.ref l] ∧ SqL K H l xs ∧ KdsAt H xs ks ∧ (∀ k ∈ ks, k.fit 60) ∧ sizeL ks ≤ 100000 ∧
  ∀ (H' : Hp) (p : Addr), Same H H' → H p = none → H' p = some (.lst ((vsL ks []).map V.str)) → Q (.ref p) H'
theorem vsL_append : ∀ (a b : List Kd) (fs : List Str), vsL (a ++ b) fs = vsL b (vsL a fs)
  | [], _, _ => rfl
  | k :: r, b, fs => vsL_append r b (k.vs fs)
theorem sizeL_append : ∀ (a b : List Kd), sizeL (a ++ b) = sizeL a + sizeL b
  | [], b => (Nat.zero_add _).symm
  | k :: r, b => by
    show k.size + sizeL (r ++ b) = k.size + sizeL r + sizeL b
    rw [sizeL_append r b, Nat.add_assoc]
theorem sizeL_rev : ∀ (a : List Kd), sizeL a.reverse = sizeL a
  | [] => rfl
  | k :: r => by
    rw [List.reverse_cons, sizeL_append, sizeL_rev r]
    show sizeL r + (k.size + 0) = k.size + sizeL r
    omega
theorem sizeL_len : ∀ (a : List Kd), a.length ≤ sizeL a
  | [] => Nat.le_refl _
  | k :: r => by
    have := sizeL_len r
    have := k.size_pos
    simp only [List.length_cons, sizeL]
    omega
theorem size_line {n : Nat} (h : n ≤ 1000000) : n < sizeLine := Nat.lt_of_le_of_lt h (by decide)
theorem ok_vars {f : Addr} {fd : FuncData} (F : Fun K "_law_vars" "_law_vars" s__law_vars f fd) (B : Bl mg) : FnOk P w K mg base CX0 1 f fd ["_law_kinds"] (spVars K) := by
  refine F.ok sc__law_vars (fun vs H Q E h => ?_) (fun cdv A outer s H vs Q E hr h => ?_)
  · obtain ⟨l, xs, ks, rfl, _⟩ := h
    rfl
  · obtain ⟨l, xs, ks, rfl, h1, h2, h3, h4, k⟩ := h
    have hu64 := hr.units
    refine ⟨_, (pss_cons (ps_par (i := 1) (j := 2) (by rfl) sc__law_vars.nd rfl rfl (by decide) rfl rfl (pa_cons (pe_lst pa_nil) (pa_cons (pe_revL (pe_callTy call_list_of (by rfl) B.list (by decide +kernel) (pa_cons (pv 0) pa_nil))) pa_nil)) (by rfl))
  (pss_cons (ps_while PassesOwn.never (pt_cmpR (op_neD hu64) (pv 2) (pe_lst pa_nil) (nomark _))
  (pss_cons (ps_set (i := 3) sc__law_vars.nd rfl (Or.inl rfl) (pe_bm0 PySem.F.plainAttrs_list PySem.F.slot_list_pop PySem.F.type_list_pop mt_pop (pv 2)))
  (pss_one (ps_if (pt_cmpR op_eq (pe_ix ix_tup (pv 3) pe_int (fun _ _ => rfl)) pe_str (nomark _))
  (pss_one (ps_expr (pe_bm PySem.F.plainAttrs_list PySem.F.slot_list_extend PySem.F.type_list_extend mt_extend (pv 2) (pa_cons (pe_lst (pa_cons (pe_ix ix_tup (pv 3) pe_int (fun _ _ => rfl)) (pa_cons (pe_ix ix_tup (pv 3) pe_int (fun _ _ => rfl)) pa_nil))) pa_nil))))
  (pss_one (ps_if (PW.pt (pw_and (pt_cmpR op_eq (pe_ix ix_tup (pv 3) pe_int (fun _ _ => rfl)) pe_str (nomark _)) (pw_and1 (pt_cmpR op_notIn_seq (pe_ix ix_tup (pv 3) pe_int (fun _ _ => rfl)) (pv 1) (by rfl)))))
  (pss_one (ps_expr (pe_bm PySem.F.plainAttrs_list PySem.F.slot_list_append PySem.F.type_list_append mt_append (pv 1) (pa_cons (pe_ix ix_tup (pv 3) pe_int (fun _ _ => rfl)) pa_nil))))
  pss_nil))))))
  (pss_one (ps_ret (pv 1))))), ?_⟩
    refine ⟨slz rfl, fun lf hlf => ?_⟩
    have s1 : Same H (upd H lf (.lst [])) := same_new hlf
    refine ⟨_, rfl, l, xs, rfl, .inl (s1.seq h1), fun l2 hl2 => ?_⟩
    have s2 : Same (upd H lf (.lst [])) (upd (upd H lf (.lst [])) l2 (.lst xs)) := same_new hl2
    refine ⟨l2, xs, rfl, SqL.of upd_same, fun lw hlw => ?_⟩
    have s3 : Same (upd (upd H lf (.lst [])) l2 (.lst xs)) (upd (upd (upd H lf (.lst [])) l2 (.lst xs)) lw (.lst xs.reverse)) := same_new hlw
    have ss := (s1.trans s2).trans s3
    have nlw : H lw = none := (s1.trans s2).free hlw
    have nfw : lf ≠ lw := ne_of_none (s2 _ _ upd_same) hlw
    refine ⟨_, _, rfl, ?_⟩
    -- the loop
    refine ⟨fun m σ H' => ∃ (st : List Kd) (vs : List V) (fs : List Str) (v3 : Option V), σ = [some (.ref l), some (.ref lf), some (.ref lw), v3] ∧ Same H H' ∧ H' lf = some (.lst (fs.map V.str)) ∧ H' lw = some (.lst vs) ∧ KdsAt H' vs st ∧ m = sizeL st ∧
      (∀ k ∈ st, k.fit 60) ∧ fs.length + sizeL st ≤ 100000 ∧ vsL st.reverse fs = vsL ks [], ⟨sizeL ks, ks.reverse, xs.reverse, [], none, rfl, ss, ?_, upd_same, KdsAt.tups (same_tups ss) (paired_rev h2), (sizeL_rev ks).symm, fun q hq => h3 q (List.mem_reverse.mp hq), by rw [sizeL_rev]; simpa using h4, by rw [List.reverse_reverse]⟩, ?_⟩
    · rw [upd_ne nfw]
      exact s2 _ _ upd_same
    · rintro m σ H1 ⟨st, vs, fs, v3, rfl, s4, g1, g2, g3, rfl, g4, g5, g6⟩
      refine ⟨_, rfl, slz rfl, fun e he => ?_⟩
      have s5 : Same H1 (upd H1 e (.lst [])) := same_new he
      refine ⟨_, _, .lst (SqL.of (s5 _ _ g2)) (KdsAt.dp (KdsAt.tups (same_tups s5) g3)), .lst (SqL.of upd_same) .nil, shaped_kds g4, shaped_nil, _, rfl, ?_⟩
      rw [kds_ne]
      have S5 := s4.trans s5
      have g1' := s5 _ _ g1
      have g2' := s5 _ _ g2
      have g3' := KdsAt.tups (same_tups s5) g3
      generalize upd H1 e (.lst []) = H2 at S5 g1' g2' g3' ⊢
      clear g1 g2 g3 s5 s4
      by_cases hst : st = []
      · subst hst
        refine iteF ?_
        refine ⟨_, rfl, k H2 lf S5 hlf ?_⟩
        rw [g1']
        have : fs = vsL ks [] := g6
        rw [this]
      · have hne : (!st.isEmpty) = true := by
          cases st with
          | nil => exact absurd rfl hst
          | cons _ _ => rfl
        refine iT hne ?_
        obtain ⟨st0, kd, rfl⟩ := kds_snoc st hst
        obtain ⟨vs0, v, rfl, g31, g32⟩ := paired_last g3'
        refine ⟨fun σ' H' => ∃ (st : List Kd) (vs : List V) (fs : List Str) (v3 : Option V), σ' = [some (.ref l), some (.ref lf), some (.ref lw), v3] ∧ Same H H' ∧ H' lf = some (.lst (fs.map V.str)) ∧ H' lw = some (.lst vs) ∧ KdsAt H' vs st ∧ sizeL st < sizeL (st0 ++ [kd]) ∧
          (∀ k ∈ st, k.fit 60) ∧ fs.length + sizeL st ≤ 100000 ∧ vsL st.reverse fs = vsL ks [], ?_, ?_⟩
        · rintro σ' H' ⟨st, vs, fs, v3, e1, e2, e3, e4, e5, e6, e7, e8, e9⟩
          exact ⟨sizeL st, e6, st, vs, fs, v3, e1, e2, e3, e4, e5, rfl, e7, e8, e9⟩
        · have lsz : sizeL (st0 ++ [kd]) = sizeL st0 + kd.size := by rw [sizeL_append]; rfl
          rw [List.reverse_append] at g6
          have g6' : vsL st0.reverse (kd.vs fs) = vsL ks [] := g6
          have fitk := g4 kd (List.mem_append_right _ List.mem_cons_self)
          have fit0 : ∀ k ∈ st0, k.fit 60 := fun q hq => g4 q (List.mem_append_left _ hq)
          have S6 : Same H (upd H2 lw (.lst vs0)) := fun b o z => by
            rw [upd_ne (ne_of_none z nlw)]
            exact S5 _ _ z
          have tu : Tups H2 (upd H2 lw (.lst vs0)) := Tups.put g2' (by intro xs z; cases z)
          have gf : (upd H2 lw (.lst vs0)) lf = some (.lst (fs.map V.str)) := by rw [upd_ne nfw]; exact g1'
          refine ⟨_, rfl, .inl ⟨rfl, _, SqL.of g2'⟩, lw, vs0 ++ [v], v, rfl, rfl, g2', by simp, ?_⟩
          rw [List.dropLast_concat]
          have gw : (upd H2 lw (.lst vs0)) lw = some (.lst vs0) := upd_same
          have k1 := KdsAt.tups tu g31
          have k2 := KdAt.tups tu g32
          generalize upd H2 lw (.lst vs0) = H3 at S6 gf gw k1 k2 ⊢
          clear tu
          have hs1 := kd.size_pos
          cases kd with
          | app a d =>
            obtain ⟨p, u, z, rfl, hp, ha, hd⟩ := id k2
            obtain ⟨j, ej, fa, fd'⟩ := Kd.fit_app fitk
            have ej' : j = 59 := by omega
            subst ej'
            refine ⟨_, rfl, _, _, _, _, rfl, rfl, SqT.of hp, rfl, rfl, _, rfl, iT tg_aa ?_⟩
            refine ⟨_, rfl, .inl ⟨rfl, _, SqL.of gw⟩, _, rfl, _, _, _, _, rfl, rfl, SqT.of hp, rfl, _, rfl, _, _, _, _, rfl, rfl, SqT.of hp, rfl, slz rfl, fun q hq => ?_⟩
            have s7 : Same H3 (upd H3 q (.lst [z, u])) := same_new hq
            have nq : lw ≠ q := ne_of_none gw hq
            have lnv : vs0.length ≤ 100000 := by
              have := sizeL_len st0
              rw [Paired.length k1]
              omega
            refine ⟨lw, q, vs0, [z, u], rfl, rfl, s7 _ _ gw, upd_same, Nat.le_of_lt (size_line (by simp; omega)), ?_⟩
            have tu8 : Tups H3 (upd (upd H3 q (.lst [z, u])) lw (.lst (vs0 ++ [z, u]))) := (same_tups s7).trans (Tups.put (s7 _ _ gw) (by intro xs z; cases z))
            refine ⟨st0 ++ [d, a], vs0 ++ [z, u], fs, _, rfl, fun b o zz => ?_, ?_, upd_same, ?_, ?_, ?_, ?_, ?_⟩
            · rw [upd_ne (ne_of_none zz nlw)]
              exact s7 _ _ (S6 _ _ zz)
            · rw [upd_ne nfw]
              exact s7 _ _ gf
            · have q1 := KdsAt.tups tu8 k1
              have q2 := Paired.snoc (Paired.snoc q1 (KdAt.tups tu8 hd)) (KdAt.tups tu8 ha)
              rw [List.append_assoc, List.append_assoc] at q2
              exact q2
            · rw [sizeL_append, lsz]
              simp only [sizeL, Kd.size]
              omega
            · intro k hk
              rcases List.mem_append.mp hk with q | q
              · exact fit0 k q
              · rcases List.mem_cons.mp q with q | q
                · rw [q]; exact Kd.fit_mono (by omega) fd'
                · rw [List.mem_singleton.mp q]; exact Kd.fit_mono (by omega) fa
            · rw [sizeL_append]
              rw [lsz] at g5
              simp only [sizeL, Kd.size] at g5 ⊢
              omega
            · rw [List.reverse_append]
              exact g6'
          | var x =>
            obtain ⟨p, rfl, hp⟩ := id k2
            refine ⟨_, rfl, _, _, _, _, rfl, rfl, SqT.of hp, rfl, rfl, _, rfl, iF tg_va ?_⟩
            refine ⟨_, rfl, _, _, _, _, rfl, rfl, SqT.of hp, rfl, rfl, _, rfl, iT tg_vv ?_⟩
            refine ⟨_, rfl, _, _, _, _, rfl, rfl, SqT.of hp, rfl, _, rfl, lf, _, rfl, .inl (SqL.of gf), rfl, flat_words fs, _, rfl, ?_⟩
            show if (!inV (.str x) (fs.map V.str)) = true then _ else _
            rw [inV_words]
            by_cases hx : x ∈ fs
            · refine iF (by rw [decide_eq_true hx]; rfl) ?_
              refine ⟨st0, vs0, fs, _, rfl, S6, gf, gw, k1, by rw [lsz]; omega, fit0, by rw [lsz] at g5; omega, ?_⟩
              rw [← g6']
              show vsL st0.reverse fs = vsL st0.reverse (addV fs x)
              unfold addV
              rw [if_pos hx]
            · refine iT (by rw [decide_eq_false hx]; rfl) ?_
              have lnf : fs.length ≤ 100000 := by omega
              refine ⟨_, rfl, .inl ⟨rfl, _, SqL.of gf⟩, _, rfl, _, _, _, _, rfl, rfl, SqT.of hp, rfl, lf, _, _, rfl, rfl, gf, by rw [List.length_map]; exact size_line (by omega), ?_⟩
              have tu8 : Tups H3 (upd H3 lf (.lst (fs.map V.str ++ [V.str x]))) := Tups.put gf (by intro xs z; cases z)
              refine ⟨st0, vs0, fs ++ [x], _, rfl, fun b o zz => ?_, by rw [upd_same, List.map_append]; rfl, by rw [upd_ne nfw.symm]; exact gw, KdsAt.tups tu8 k1, by rw [lsz]; omega, fit0, ?_, ?_⟩
              · rw [upd_ne (ne_of_none zz hlf)]
                exact S6 _ _ zz
              · rw [lsz] at g5
                simp only [Kd.size, List.length_append, List.length_singleton] at g5 ⊢
                omega
              · rw [← g6']
                show vsL st0.reverse (fs ++ [x]) = vsL st0.reverse (addV fs x)
                unfold addV
                rw [if_neg hx]
          | con x =>
            obtain ⟨p, rfl, hp⟩ := id k2
            refine ⟨_, rfl, _, _, _, _, rfl, rfl, SqT.of hp, rfl, rfl, _, rfl, iF tg_ca ?_⟩
            refine ⟨_, rfl, _, _, _, _, rfl, rfl, SqT.of hp, rfl, rfl, _, rfl, iF tg_cv ?_⟩
            refine iteF ?_
            exact ⟨st0, vs0, fs, _, rfl, S6, gf, gw, k1, by rw [lsz]; omega, fit0, by rw [lsz] at g5; omega, g6'⟩
end
end L3

/-! list(reversed(t)) of a tuple -/
namespace L3
open PySem PySem.Spec PyProof.Rows L2 RT
theorem nolen_rt : typeLookup (.type "reversed") "__len__" = pure none := by rw [typeLookup_type, builtinLookup_eq_fast]; kernel_rfl
theorem hint_rt : typeLookup (.type "reversed") "__length_hint__" = pure (some (.builtin "reversed.__length_hint__")) := by rw [typeLookup_type, builtinLookup_eq_fast]; kernel_rfl
theorem walks_rt {prog : Program} {w : World} {A : Around} (hh : A.handled = none) (I t : Addr) (hne : t ≠ I) (items : Array Value) (hn : items.size ≤ sizeLine) :
    Walks prog w A I [I, t] [I] items.size (fun i v => items[items.size - 1 - i]? = some v) (fun i h => i ≤ items.size ∧ IsRt h I t ((items.size : Int) - 1 - (i : Int)) ∧ IsTup h t items) where
  sub := fun b hb => by simp at hb; simp [hb]
  frame := fun _ _ _ x hk => ⟨x.1, x.2.1.at fun o e => hk I (by simp) o e, by
    obtain ⟨o, ho, r⟩ := x.2.2
    exact ⟨o, hk t (by simp) o ho, r⟩⟩
  item := fun i s Q E hi x hQ => by
    have e : (items.size : Int) - 1 - (i : Int) = ((items.size - 1 - i : Nat) : Int) := by omega
    have hit := x.2.1
    rw [e] at hit
    have hx : items[items.size - 1 - i]? = some (items[items.size - 1 - i]'(by omega)) := Array.getElem?_eq_getElem (by omega)
    refine next_rt_item hit x.2.2 hx hn fun h' hit' hs' => ?_
    have e2 : ((items.size - 1 - i : Nat) : Int) - 1 = (items.size : Int) - 1 - ((i + 1 : Nat) : Int) := by omega
    rw [e2] at hit'
    refine hQ _ h' (s.toks + 1) hx ⟨hi, hit', ?_⟩ fun b o hb eo => hs'.extBut b o (fun h => hb (by simp [h])) eo
    obtain ⟨o, ho, r⟩ := x.2.2
    exact ⟨o, (hs'.2 t hne).trans ho, r⟩
  done := fun s Q E x hQ => by
    have e : (items.size : Int) - 1 - (items.size : Int) = -1 := by omega
    have hit := x.2.1
    rw [e] at hit
    exact next_rt_end hh hit fun h' he' => hQ h' s.toks fun b o hb eo => he' b o (fun h => hb (by simp [h])) eo
  self := fun _ _ _ _ x hQ => iter_rt x.2.1 hQ
theorem asInt_int (n : Int) (tk : Nat) : asInt? (Value.int n tk) = pure (some n) := rfl
theorem slot_rt_hint : Slot "reversed" "__length_hint__" "reversed.__length_hint__" :=
  .of (owner := "reversed") (n := "__length_hint__") (by rw [typeLookup_type, builtinLookup_eq_fast]; kernel_rfl) (by decide +kernel) (by decide +kernel) (by decide +kernel)
    (by first | exact .inl (by decide +kernel) | exact .inr (by decide +kernel)) (by rw [isSubtype_type]; kernel_rfl)
theorem entry_rt_hint : entryFor table "reversed.__length_hint__" = some Builtin.«reversed.__length_hint__» := entryFor_of_tree (by kernel_rfl)
theorem args_rt_hint (a : Value) : argsOk "reversed.__length_hint__" ⟨[a], []⟩ := by
  unfold argsOk; rw [signature?_of (id := "reversed.__length_hint__") (n := ['_', '_', 't', 'n', 'i', 'h', '_', 'h', 't', 'g', 'n', 'e', 'l', '_', '_']) (o := ['d', 'e', 's', 'r', 'e', 'v', 'e', 'r']) (by kernel_rfl) owner_rt]; kernel_rfl
section
variable {prog : Program} {w : World} {A : Around} {E : Value → Shared → Prop} {s : Shared}
theorem hint_rt_call {it t : Addr} {items : Array Value} {Q : Value → Shared → Prop} (hit : IsRt s.heap it t ((items.size : Int) - 1)) (ht : IsTup s.heap t items) (hn : items.size ≤ sizeLine)
    (q : ∀ tk tk', Q (.int (items.size : Int) tk) { s with toks := tk' }) : wpAny (model prog w) A (call (.builtin "reversed.__length_hint__") [.ref it]) Q E s := by
  obtain ⟨o, ho, hc, hd⟩ := id hit
  have hn' := hn
  rw [sizeLine_eq] at hn'
  refine wpAny_call_entry slot_rt_hint hit.typeIs entry_rt_hint ?_ (args_rt_hint _)
  unfold Builtin.«reversed.__length_hint__»
  refine wpAny_bind (wpAny_of_eq (a := Value.ref it) rfl ?_)
  try dsimp only
  refine wpAny_bind (wpAny_field ho hd (x := .ref t) rfl ?_)
  rw [if_neg (show ¬ ((Value.ref t == Value.none) = true) from Bool.false_ne_true)]
  try dsimp only
  refine wpAny_bind (len_tuple ht (by omega) ?_)
  refine wpAny_bind (wpAny_of_eq (a := some ((items.size : Nat) : Int)) rfl ?_)
  try dsimp only
  refine wpAny_bind (wpAny_field (s := { s with toks := s.toks + 1 + 1 }) ho hd (x := rawInt ((items.size : Int) - 1)) rfl ?_)
  show wpAny _ _ (if ((items.size : Nat) : Int) < (items.size : Int) - 1 + 1 then _ else _) _ _ _
  rw [if_neg (by omega)]
  unfold retInt
  refine wpAny_bind (wpAny_mkInt ?_)
  refine wpAny_pure ⟨_, rfl, ?_⟩
  rw [show (items.size : Int) - 1 + 1 = (items.size : Int) by omega]
  exact q _ _
theorem call_list_rt {it t : Addr} {items : Array Value} {Q : Value → Shared → Prop} (hh : A.handled = none) (hit : IsRt s.heap it t ((items.size : Int) - 1)) (ht : IsTup s.heap t items) (hne : t ≠ it) (hn : items.size ≤ sizeLine)
    (q : ∀ h' tk acc c, (∀ b o, b ≠ it → s.heap.get? b = some o → h'.get? b = some o) → h'.get? s.heap.objs.size = some { cls := .type "list", dict := none, data := .seq acc c, slots := #[] } → ItemsOf (fun i v => items[items.size - 1 - i]? = some v) acc items.size →
      Q (.ref s.heap.objs.size) { s with heap := h', toks := tk }) : wpAny (model prog w) A (call (.type "list") [.ref it]) Q E s := by
  have W := (walks_rt (prog := prog) (w := w) (A := A.in1.in1) hh it t hne items hn).toS
  obtain ⟨oi, hoi, _⟩ := id hit
  obtain ⟨ot, hot, _⟩ := id ht
  have zlt : it < s.heap.objs.size := Heap.lt_size hoi
  have tlt : t < s.heap.objs.size := Heap.lt_size hot
  refine callType_codes (Q₁ := fun obj s' => obj = .ref s.heap.objs.size ∧ s' = { s with heap := s.heap.push { cls := .type "list", data := .seq #[] } }) PySem.F.called_list (PySem.F.typeCall_list_1 _) PySem.F.entry_list_init (code_list_new _ ⟨rfl, rfl⟩) ?_
  rintro obj s' ⟨rfl, rfl⟩
  have at0 : (s.heap.push { cls := .type "list", data := .seq #[] }).get? s.heap.objs.size = some { cls := .type "list", data := .seq #[] } := Heap.get?_push_size _ rfl
  refine ⟨⟨_, at0, rfl⟩, PySem.F.args_list_init_2 _ _, ?_⟩
  show wpAny _ A.in1.in1 (do let old ← Builtin.List.listItems (.ref s.heap.objs.size); Builtin.List.listUpdate (.ref s.heap.objs.size) (fun _ => #[]); letGo old.toList.reverse; Builtin.List.listExtendWith (.ref s.heap.objs.size) (.ref it) .none) _ _ _
  refine wpAny_bind ?_
  unfold Builtin.List.listItems
  refine wpAny_bind (wpAny_seqItems at0 rfl (wpAny_pure ?_))
  show wpAny _ A.in1.in1 (updateSeq s.heap.objs.size (fun _ => #[]) >>= fun _ => letGo (#[] : Array Value).toList.reverse >>= fun _ => Builtin.List.listExtendWith (.ref s.heap.objs.size) (.ref it) .none) _ _ _
  refine wpAny_bind (wpAny_updateSeq at0 rfl (wpAny_bind (wpAny_letGo ?_)))
  have at1 := Heap.get?_update_self (Obj.mapSeq (fun _ => (#[] : Array Value))) at0 rfl
  have k1 : ∀ b o, s.heap.get? b = some o → ((s.heap.push { cls := .type "list", data := .seq #[] }).update s.heap.objs.size (Obj.mapSeq (fun _ => (#[] : Array Value)))).get? b = some o :=
    fun b o e => (Heap.get?_update_other _ _ (Nat.ne_of_gt (Heap.lt_size e))).trans (Heap.get?_push_of_some _ e)
  generalize (s.heap.push { cls := .type "list", data := .seq #[] }).update s.heap.objs.size (Obj.mapSeq (fun _ => (#[] : Array Value))) = g1 at at1 k1 ⊢
  have hit1 : IsRt g1 it t ((items.size : Int) - 1) := hit.at fun o e => k1 _ o e
  have ht1 : IsTup g1 t items := by
    obtain ⟨o, ho, r⟩ := ht
    exact ⟨o, k1 _ _ ho, r⟩
  have isz : ({ s with heap := g1 } : Shared).TypeIs (.ref it) "reversed" := IsRt.typeIs (s := { s with heap := g1 }) hit1
  have nsame : Builtin.List.listSameRef (.ref s.heap.objs.size) (.ref it) = false := by simp [Builtin.List.listSameRef, Nat.ne_of_gt zlt]
  have zz : (Value.type "reversed" == Value.type "list") = false := by decide
  have zt : (Value.type "reversed" == Value.type "tuple") = false := by decide
  unfold Builtin.List.listExtendWith
  refine wpAny_bind (wpAny_typeOf isz ?_)
  simp only [nsame, zz, zt, Bool.or_false, Bool.false_eq_true, if_false]
  refine wpAny_bind (iter_rt (s := { s with heap := g1 }) hit1 (wpAny_bind (wpAny_holding ?_)))
  unfold Builtin.List.listLengthHint
  refine wpAny_bind (wpAny_specialOf isz nolen_rt ?_)
  show wpAny _ A.in1.in1 (specialOf (Value.ref it) (Str.ofString "__length_hint__") >>= _) _ _ _
  refine wpAny_bind (wpAny_specialOf isz hint_rt ?_)
  generalize hid : ("reversed.__length_hint__" : String) = id0
  wp_delta
  rw [show splitId id0 = some ("reversed", "__length_hint__") from by subst hid; decide +kernel]
  subst hid
  refine wpAny_bind (wpAny_isInstance (b := true) isz (by rw [isSubtype_type]; kernel_rfl) ?_)
  rw [if_neg (by decide)]
  try dsimp only
  rw [if_neg (by decide +kernel)]
  refine wpAny_bind (wpAny_rule ?_)
  refine wpAny_bind (wpAny_of_eq (slot_rt_hint.bind _) ?_)
  try dsimp only
  refine wpAny_bind (wpAny_attempt (hint_rt_call (s := { s with heap := g1 }) hit1 ht1 hn fun tk tk' => ?_))
  try dsimp only
  have hS : ∀ (g2 : Heap) (c : Nat) (tk2 : Nat), (∀ b o, s.heap.get? b = some o → g2.get? b = some o) → g2.get? s.heap.objs.size = some { cls := .type "list", dict := none, data := .seq #[] c, slots := #[] } →
      codeAny (model prog w) A.in1 (.builtin "list.extend.loop" ⟨[.ref s.heap.objs.size, .ref it, .none], []⟩) (wants (fun r s₂ => r = Value.none ∧ Q (Value.ref s.heap.objs.size) s₂) E) { s with heap := g2, toks := tk2 } := by
    intro g2 c tk2 k2 at2
    have e0 : ((items.size : Nat) : Int) - 1 - ((0 : Nat) : Int) = (items.size : Int) - 1 := by omega
    refine codeAny_extend_loopS W hn _ ?_ .none items.size 0 { s with heap := g2, toks := tk2 } #[] c rfl (Nat.zero_le _) ⟨Nat.zero_le _, by rw [e0]; exact hit.at fun o e => k2 _ o e, by
      obtain ⟨o, ho, r⟩ := ht
      exact ⟨o, k2 _ _ ho, r⟩⟩ at2 (ItemsOf.nil _) fun s' acc' c' hm hS' hacc => ?_
    · simp only [List.mem_cons, List.not_mem_nil, or_false, not_or]
      exact ⟨Nat.ne_of_gt zlt, Nat.ne_of_gt tlt⟩
    · refine ⟨rfl, ?_⟩
      rw [Moved.eq_with hm]
      refine q s'.heap s'.toks acc' c' (fun b o hb e => hm.heap b o (fun hmem => ?_) (k2 _ _ e)) hS' hacc
      rcases List.mem_cons.mp hmem with e' | hmem
      · exact absurd (Heap.lt_size e) (by rw [e']; exact Nat.lt_irrefl _)
      · exact hb (List.mem_singleton.mp hmem)
  have hz0 : 0 ≤ (items.size : Int) := by omega
  have hz1 : (items.size : Int) < 2 ^ 63 := by
    rw [sizeLine_eq] at hn
    omega
  have hz2 : (items.size : Int).toNat ≤ sizeLine := by
    rw [Int.toNat_natCast]
    exact hn
  generalize ((items.size : Nat) : Int) = z at hz0 hz1 hz2 ⊢
  refine wpAny_bind (wpAny_of_eq (asInt_int z tk) ?_)
  try dsimp only
  rw [if_neg (by
    have : Builtin.List.listFitsIndex z = true := by
      unfold Builtin.List.listFitsIndex
      simp only [Bool.and_eq_true, decide_eq_true_eq]
      omega
    rw [this]; decide), if_neg (by omega), if_neg (by
    unfold Builtin.List.listTooLong
    simp only [decide_eq_true_eq]
    omega)]
  refine wpAny_pure ?_
  split
  · refine wpAny_bind (wpAny_rule (wpAny_bind ?_))
    show wpAny _ A.in1.in1 (updateSeq s.heap.objs.size (·.push .none) >>= fun _ => updateSeq s.heap.objs.size (·.pop)) _ _ _
    refine wpAny_bind (wpAny_updateSeq at1 rfl ?_)
    have at2 := Heap.get?_update_self (Obj.mapSeq (·.push Value.none)) at1 rfl
    refine wpAny_updateSeq (hz := by seq_fits) at2 rfl ?_
    have at3 := Heap.get?_update_self (Obj.mapSeq (·.pop)) at2 rfl
    refine wpAny_pure ⟨plainId_quiet F.plain_extend_loop _, ?_⟩
    refine hS _ _ tk' (fun b o e => ?_) at3
    have nb := Nat.ne_of_gt (Heap.lt_size e)
    exact (Heap.get?_update_other _ _ nb).trans ((Heap.get?_update_other _ _ nb).trans (k1 b o e))
  · refine wpAny_pure ⟨plainId_quiet F.plain_extend_loop _, ?_⟩
    exact hS g1 _ tk' k1 at1
end
/-- list(reversed(t)), t a tuple -/
def tListRevT (K : PySem.W.Frag) (te : TE) : TE := fun σ H Q => te σ H fun v H1 => ∃ (a : Addr) (xs : List V), v = .ref a ∧ SqT K H1 a xs ∧ ∀ q, H1 q = none → Q (.ref q) (upd H1 q (.lst xs.reverse))
theorem pe_listRevT {X : Cx} {e : Expr} {te : TE} {p p2 pos pos2 : Pos} (hc : X.calm = true) (hg : Gl X "list") (hm : X.mg "list" = none) (hg2 : Gl X "reversed") (hm2 : X.mg "reversed" = none) (he : PE X e te)
    (hs : starEach [e] X.env = (false, eval e X.env) :: starEach [] X.env := by rfl)
    (hs2 : starEach [.Call (.Name "reversed" p2) [e] [] pos2] X.env = (false, eval (.Call (.Name "reversed" p2) [e] [] pos2) X.env) :: starEach [] X.env := by rfl) :
    PE X (.Call (.Name "list" p) [.Call (.Name "reversed" p2) [e] [] pos2] [] pos) (tListRevT X.K te) := by
  refine ⟨fun pins s σ H Q I h => ?_⟩
  refine Call_ (ld_blt I hg hm (show bootBuiltins "list" = some (Value.type "list") by decide +kernel) (PyProof.Rows.callWith_type1 (args_cons (Call_ (ld_blt I hg2 hm2 PyProof.Rows.boot_reversed (PyProof.Rows.callWith_type1 (args_cons (thn (he.run pins s σ H _ I h) fun u s1 ⟨v, H1, I1, r1, q1⟩ => args_nil ?_) hs) hs rfl))) hs2) hs2 rfl))
  obtain ⟨a, xs, ev, hq, q⟩ := q1
  subst ev
  obtain rfl : u = Value.ref a := r1
  obtain ⟨its, rv, p', hz⟩ := I1.tuple hq
  have hl := rv.length
  have hn63 := line63
  have hn : its.toArray.size ≤ sizeLine := by rw [List.size_toArray, ← rv.length]; exact hz
  refine call_reversed_tup p' (fun A E Q k => len_tuple p' (by simp only [List.size_toArray] <;> omega) k) (args_nil ?_)
  have k0 : ∀ b o, s1.heap.get? b = some o → (s1.heap.push (rtObj a ((its.toArray.size : Int) - 1))).get? b = some o := fun b o e => Heap.get?_push_of_some _ e
  obtain ⟨ol, hol, _⟩ := id p'
  have hne : a ≠ s1.heap.objs.size := Nat.ne_of_lt (Heap.lt_size hol)
  refine call_list_rt (s := { s1 with heap := s1.heap.push (rtObj a ((its.toArray.size : Int) - 1)), toks := s1.toks + 1 + 1 }) (I1.ok.hd hc) ⟨_, Heap.get?_push_size _ rfl, rfl, rfl⟩ (by
    obtain ⟨o, ho, r⟩ := p'
    exact ⟨o, k0 _ _ ho, r⟩) hne hn fun h' tk acc c hk at' hi => ?_
  have kk : ∀ b o, s1.heap.get? b = some o → h'.get? b = some o := fun b o e => hk b o (Nat.ne_of_lt (Heap.lt_size e)) (k0 b o e)
  have le : s1.heap.objs.size ≤ (s1.heap.push (rtObj a ((its.toArray.size : Int) - 1))).objs.size := by
    have z : (s1.heap.push (rtObj a ((its.toArray.size : Int) - 1))).get? s1.heap.objs.size = some (rtObj a ((its.toArray.size : Int) - 1)) := Heap.get?_push_size _ rfl
    exact Nat.le_of_lt (Heap.lt_size z)
  exact ⟨.ref _, upd H1 _ (.lst xs.reverse), I1.laid (t' := tk) kk le (show ObjOk X.prog X.w _ h' _ (.lst xs.reverse) from ⟨by rw [List.length_reverse]; exact hz, acc.toList, c, vals_rev rv hi, by rw [Array.toArray_toList]; exact at'⟩), rfl, q _ (I1.hok.fresh le)⟩
end L3

/-! defs with a star parameter, known by their names -/
namespace L3
open PySem PySem.Spec PyProof.Rows L2 StX
structure KnR (P : Program) (w : World) (K : PySem.W.Frag) (mg : Str → Option Value) (base : Heap) (k : Nat) (x : Str) (sp : Sp) : Prop where
  ex : ∃ (f : Addr), FnR P w K mg base CX0 k f sp ∧ mg x = some (.ref f) ∧ PySem.W.keepIn K (.ref f) = true
def tCallR (sp : Sp) (t : TA) : TE := fun σ H Q => t σ H fun vs H1 => sp vs H1 Q E0
def tCallS (K : PySem.W.Frag) (sp : Sp) (te : TE) : TE := fun σ H Q => te σ H fun y H1 => ∃ a xs, y = V.ref a ∧ (SqT K H1 a xs ∨ SqL K H1 a xs) ∧ sp xs H1 Q E0
section
variable {X : Cx} {x : Str} {k : Nat} {sp : Sp} {e : Expr} {es : List Expr} {te : TE} {t : TA} {p sp_ pos : Pos}
theorem pe_ks (D : KnR X.prog X.w X.K X.mg X.base k x sp) (hr : Room k X.A) (ha : PA X (e :: es) t) (hg : Gl X x := by rfl) (hdb : (x == ("__debug__" : Str)) = false := by decide)
    (he : starEach (e :: es) X.env = (false, eval e X.env) :: starEach es X.env := by rfl) (hpl : (backTo pos (starEach es X.env)).any (·.1) = false := by rfl) :
    PE X (.Call (.Name x p) (e :: es) [] pos) (tCallR sp t) := by
  obtain ⟨f, F, hm, hk⟩ := D.ex
  refine ⟨fun pins s σ H Q I h => ?_⟩
  refine wpAny_Call_Name_kw (ld_glob I hg hm ?_ hdb)
  refine PySem.W.callWith_K (h₀ := X.base) I.ok.mod.kin hk (thn (ha.run pos pins s σ H _ I h) fun us s1 ⟨vs, H1, I1, r, q⟩ => ⟨I1.kIn, ?_⟩) he hpl
  exact wpAny_call (run_fnR F hr pass0 I1 r q)
theorem pe_ks0 (D : KnR X.prog X.w X.K X.mg X.base k x sp) (hr : Room k X.A) (hg : Gl X x := by rfl) (hdb : (x == ("__debug__" : Str)) = false := by decide) : PE X (.Call (.Name x p) [] [] pos) (tCallR sp tNil) := by
  obtain ⟨f, F, hm, hk⟩ := D.ex
  refine ⟨fun pins s σ H Q I h => ?_⟩
  refine wpAny_Call_Name_kw (ld_glob I hg hm ?_ hdb)
  exact PySem.W.callWith_K0 I.kIn hk (wpAny_call (run_fnR (us := []) F hr pass0 I .nil h))
theorem pe_ks1 (D : KnR X.prog X.w X.K X.mg X.base k x sp) (hr : Room k X.A) (he : PE X e te) (hg : Gl X x := by rfl) (hd : (x == ("__debug__" : Str)) = false := by decide)
    (hst : starEach [.Starred e sp_] X.env = [(true, eval e X.env)] := by rfl) :
    PE X (.Call (.Name x p) [.Starred e sp_] [] pos) (tCallS X.K sp te) := by
  obtain ⟨f, F, hm, hk⟩ := D.ex
  exact pe_callS1 F hr hk hg hm pass0 he hd hst
end
section
variable {P : Program} {w : World} {K : PySem.W.Frag} {mg : Str → Option Value} {base : Heap}
/-- what a def with a star parameter is promised, by what it is promised of the tuple -/
def spStar (n : Nat) (sp : Sp) : Sp := fun vs H Q E => ∃ ws rest, vs = ws ++ rest ∧ ws.length = n ∧ rest.length ≤ sizeLine ∧ ∀ p, H p = none → sp (ws ++ [V.ref p]) (upd H p (.tup rest)) Q E
theorem fn_starK {x qual pv : Str} {st : Stmt} {f : Addr} {fd : FuncData} {N ps : List Str} {k : Nat} {sp : Sp} (F : Fun K x qual st f fd) (S : FnScope N (ps ++ [pv]) (defScope st))
    (hb : ∀ (kV doc pm : Value) (an : Option Addr) (cdv ct : Value) (us rest : List Value), us.length = ps.length → bindArgs (PySem.W.fnOf x qual (defArgs st) (defBody st) (defScope st) .none kV doc pm an cdv ct) ⟨us ++ rest, []⟩ = (newTuple rest >>= fun t => pure (ps.zip us ++ [(pv, t)])))
    (hbody : ∀ (cdv : Value) (A : Around) (outer : List Env) (s : Shared) (H : Hp) (vs : List V) (Q : VK) (E : XK), Room k (A.deeper (envOfC qual (defScope st) s.heap.objs.size f cdv)) → sp vs H Q E →
      ∃ t, PSs (cxOf CX0 P w K mg base N qual (defScope st) f cdv A outer s H E).nox (defBody st) t ∧ t { nx := fun _ H' => Q .non H', rt := Q } (start N vs) H) : FnR P w K mg base CX0 (k + 1) f (spStar ps.length sp) := by
  obtain ⟨oc, od, kV, doc, pm, an, cdv, ct, osl, rfl, lk, hcd⟩ := F.ex
  exact fn_star lk hcd S (fun _ _ _ _ _ _ _ _ _ _ _ z => z) (hb kV doc pm an cdv ct) fun A outer s H vs Q E hr h => by
    obtain ⟨t, ht, q⟩ := hbody cdv A outer s H vs Q E hr h
    exact ⟨t, PSs.nox ht, q⟩
end
end L3

/-! tuple(d) of a dict: its keys -/
namespace L3
open PySem PySem.Spec PyProof.Rows L2
section
variable {prog : Program} {w : World} {A : Around} {E : Value → Shared → Prop} {s : Shared} {T : String} {r d : Addr} {n : Nat} {P : Nat → Value → Prop} {OK : Heap → Prop}
/-- what is collected, and what else is there -/
abbrev Got (P : Nat → Value → Prop) (n : Nat) (s : Shared) (Q : List Value → Shared → Prop) : Prop := ∀ (h' : Heap) (tk : Nat) (acc : Array Value), (∀ b o, s.heap.get? b = some o → h'.get? b = some o) → ItemsOf P acc n → Q acc.toList { s with heap := h', toks := tk }
theorem collect_src {Q : List Value → Shared → Prop} (K : PySem.W.KdlSrc prog w T r d n P OK) (hh : A.handled = none) (hok : OK s.heap) (hn : n ≤ sizeLine) (hQ : Got P n s Q) : wpAny (model prog w) A (collect (.ref r)) Q E s := by
  unfold collect
  refine wpAny_bind (wpAny_runValue (codeAny_builtin F.entry_proto_collect ?_))
  rw [Around.under_plainId F.plain_proto_collect _]
  show wpAny _ A.in1 (newList [] >>= fun l => again (.builtin "list.__iadd__" ⟨[l, .ref r], []⟩)) _ _ s
  refine wpAny_bind (wpAny_newObj_type ?_)
  refine wpAny_pure ⟨plainId_quiet F.plain_list_iadd _, codeAny_builtin F.entry_list_iadd ?_⟩
  rw [Around.under_plainId F.plain_list_iadd _]
  show wpAny _ A.in1 (Builtin.List.listExtendWith (.ref s.heap.objs.size) (.ref r) (.ref s.heap.objs.size)) _ _ _
  have hS : (s.heap.push { cls := .type "list", data := .seq ([] : List Value).toArray }).get? s.heap.objs.size = some { cls := .type "list", data := .seq #[] 0 } := Heap.get?_push_size _ rfl
  obtain ⟨lr, ld⟩ := K.there _ hok
  refine wpAny_mono (PySem.W.kdl_extend (A := A) (R := fun rr s' => rr = .ok (.ret (.ref s.heap.objs.size)) ∧ ∃ (h' : Heap) (tk : Nat) (acc : Array Value) (c' : Nat), s' = { s with heap := h', toks := tk } ∧
      (∀ b o, s.heap.get? b = some o → h'.get? b = some o) ∧ h'.get? s.heap.objs.size = some { cls := .type "list", dict := none, data := .seq acc c', slots := #[] } ∧ ItemsOf P acc n)
    (s := { s with heap := s.heap.push { cls := .type "list", data := .seq ([] : List Value).toArray } }) K hh (K.keep _ _ hok fun b _ o e => Heap.get?_push_of_some _ e) _ (Nat.ne_of_gt lr) (Nat.ne_of_gt ld) _ 0 hS
    (fun h' tk acc c' hk e hi => ⟨rfl, h', tk, acc, c', rfl, fun b o q => hk b o (Nat.ne_of_lt (Heap.lt_size q)) (Heap.get?_push_of_some _ q), e, hi⟩) hn) (fun fin s' h => ?_) (fun e s' h => ?_)
  · cases fin with
    | done f =>
      obtain ⟨e, h', tk, acc, c', rfl, hk, hS', hi⟩ := h
      cases e
      show wpAny _ A (load s.heap.objs.size >>= _) _ _ _
      exact wpAny_bind (wpAny_load hS' (wpAny_pure (hQ h' tk acc hk hi)))
    | again c' =>
      refine ⟨h.1, codeAny_mono h.2 fun rr s'' hr' => ?_⟩
      obtain ⟨rfl, h', tk, acc, c', rfl, hk, hS', hi⟩ := hr'
      show wpAny _ A (load s.heap.objs.size >>= _) _ _ _
      exact wpAny_bind (wpAny_load hS' (wpAny_pure (hQ h' tk acc hk hi)))
  · exact absurd h.1 (by simp)
theorem call_tuple_src {Q : Value → Shared → Prop} (K : PySem.W.KdlSrc prog w T r d n P OK) (hh : A.handled = none) (hok : OK s.heap) (hn : n ≤ sizeLine) (hT : s.TypeIs (.ref r) "dict")
    (hQ : ∀ (h' : Heap) (tk : Nat) (acc : Array Value), (∀ b o, s.heap.get? b = some o → h'.get? b = some o) → ItemsOf P acc n → Q (.ref h'.objs.size) { s with heap := h'.push { cls := .type "tuple", data := .seq acc }, toks := tk }) :
    wpAny (model prog w) A (call (.type "tuple") [.ref r]) Q E s := by
  refine callType_codes (Q₁ := fun obj s₁ => s₁.TypeIs obj "tuple" ∧ Q obj s₁) F.called_tuple (F.typeCall_tuple_1 _) F.entry_object_init ?_ fun obj s₁ h₁ => ?_
  · refine codeAny_of_tree ?_
    show wpAny _ A.in1.in1 (do checkBuiltinCall "tuple.__new__" ⟨[.type "tuple", .ref r], []⟩; again (.builtin "tuple.__new__" ⟨[.type "tuple", .ref r], []⟩)) _ _ s
    refine wpAny_bind (wpAny_of_eq (F.newCall_tuple_1 _) (wpAny_pure ⟨plainId_quiet F.plain_tuple_new _, codeAny_builtin F.entry_tuple_new ?_⟩))
    rw [Around.under_plainId F.plain_tuple_new _]
    have hsub := sub_tuple_self
    have hinit := init_tuple_lookup
    have hmh := madeHere_tuple
    have hh1 : A.in1.in1.handled = none := hh
    wp_walk using wpAny_typeOf hT, collect_src (A := A.in1.in1) K hh1 hok hn
    intro h' tk acc hk hacc
    show wpAny _ _ (Builtin.Tuple.tupleExact acc.toList.toArray >>= fun v => ret v) _ _ _
    unfold Builtin.Tuple.tupleExact
    refine wpAny_bind (wpAny_newObj_type ?_ (by show acc.toList.toArray.size ≤ sizeLine; simp only [Array.toArray_toList]; rw [hacc.1]; exact hn))
    refine wpAny_pure ?_
    have e : acc.toList.toArray = acc := by simp
    rw [e]
    exact ⟨⟨_, Heap.get?_push_size _ rfl, rfl⟩, hQ h' tk acc hk hacc⟩
  · exact ⟨h₁.1, F.args_object_init_2 obj _, object_init_meets F.called_tuple.init.lookup F.called_tuple.made (by decide) prog w A.in1 _ s₁ ⟨h₁.1, rfl, h₁.2⟩⟩
end
def rTupD : List V → Hp → VK → Prop := fun xs H Q => ∃ p kvs, xs = [.ref p] ∧ H p = some (.dK kvs) ∧ ∀ q, H q = none → Q (.ref q) (upd H q (.tup (kvs.map fun kv => kV kv.1)))
theorem call_tuple_dK {X : Cx} (hc : X.calm = true) : CallR X (.type "tuple") rTupD := by
  intro pins s σ H xs us Q I r h
  obtain ⟨p, kvs, e, hk, q⟩ := h
  subst e
  obtain ⟨u, eu, rx⟩ := vals1 r
  subst eu
  obtain rfl : u = Value.ref p := rx
  obtain ⟨z, lo, vs, rk, hd⟩ := (show ObjOk X.prog X.w H s.heap p (.dK kvs) from I.hok p _ hk)
  obtain ⟨ep, hat⟩ := hd.dictAt
  have hl : kvs.length = vs.length := Paired.length rk
  have K := PySem.W.kdl_dict (prog := X.prog) (w := X.w) (d := p) (knd := mixKind X.prog X.w) (kvs := vs) (ep := ep) lo
  refine call_tuple_src K (I.ok.hd hc) hat (by rw [← hl]; exact z) (K.type s hat) fun h' tk acc hkeep hacc => ?_
  have I2 : Inv X pins σ H { s with heap := h', toks := tk } := I.kept hkeep
  refine ⟨.ref h'.objs.size, upd H h'.objs.size (.tup (kvs.map fun kv => kV kv.1)), I2.laid (t' := tk) (fun c o e => Heap.get?_push_of_some _ e) (Nat.le_refl _) (show ObjOk X.prog X.w _ _ _ (.tup (kvs.map fun kv => kV kv.1)) from ⟨?_, acc.toList, ?_, ?_⟩), rfl, q _ (I2.hok.fresh (Nat.le_refl _))⟩
  · rw [List.length_map]; exact z
  · have el : acc.toList.length = acc.size := by simp
    refine vals_of_at (by rw [List.length_map, el, hacc.1, hl]) fun j x w h1 h2 => ?_
    obtain ⟨k, y, hky, hi⟩ := hacc.2 j w (by rw [← Array.getElem?_toList]; exact h2)
    have e1 : (kvs.map (·.1))[j]? = some k := by
      rw [KV.keys rk, List.getElem?_map, hky] <;> rfl
    have e2 : (kvs.map fun kv => kV kv.1)[j]? = some (kV k) := by
      have e3 : (kvs.map fun kv => kV kv.1) = (kvs.map (·.1)).map kV := by rw [List.map_map] <;> rfl
      rw [e3, List.getElem?_map, e1] <;> rfl
    rw [e2] at h1
    cases h1
    exact keyIs_rel hi
  · rw [Array.toArray_toList]; exact IsTup.new _ _
end L3

/-! enumerate(t), t a tuple -/
namespace L3
open PySem PySem.Spec PyProof.Rows L2
open Sem (wp)
/-- the pairs (i, t[i]), each new -/
def Iet (K : PySem.W.Frag) (a : Addr) : It :=
  ⟨fun i H => ∃ (xs : List V) (x : V), SqT K H a xs ∧ xs[i]? = some x, fun i H v H' => ∃ T x, v = .ref T ∧ H T = none ∧ H' = upd H T (.tup [.int (i : Nat), x]) ∧ ∀ xs, SqT K H a xs → xs[i]? = some x, fun i H => ∃ xs : List V, SqT K H a xs ∧ xs.length = i⟩
theorem turn_enumT {P : Program} {w : World} {K : PySem.W.Frag} {elts : List Expr} {kk : Nat} {tpos : Pos} (a e it : Addr) (na : a ≠ it) (nae : a ≠ e) :
    Turn P w K (.Tuple elts kk tpos) (Iet K a) [e, it] e (fun i h => (∃ old, IsEnum h e it ((i : Nat) : Int) old) ∧ h.IsTupleIter it a i ∧ e ≠ it) where
  mem := List.mem_cons_self ..
  obj := by
    rintro i h ⟨⟨old, he⟩, ⟨o, ho, hc, hd⟩, _⟩ b hb
    rcases List.mem_cons.mp hb with z | z
    · rw [z]; exact ⟨_, he, fun v q => nomatch q⟩
    · have z := List.mem_singleton.mp z
      rw [z]; exact ⟨o, ho, fun v q => by rw [hd] at q; cases q⟩
  keep := by
    rintro i h h' ⟨⟨old, he⟩, hi, hne⟩ k
    exact ⟨⟨old, k e (by simp) _ he⟩, hi.at fun o q => k it (by simp) o q, hne⟩
  item := by
    intro X hP hw hK hc i pins s σ H E I hf st hg
    subst hP hw hK
    obtain ⟨⟨old, he⟩, hit, hne⟩ := st
    obtain ⟨xs, x, hq, hx⟩ := hg
    obtain ⟨its, rv, p, hz⟩ := I.tuple hq
    obtain ⟨u, hu, ru⟩ := rv.get hx
    have ht : s.heap.IsTuple a its.toArray := p
    have hel : e < s.heap.objs.size := Heap.lt_size he
    have hil : it < s.heap.objs.size := by obtain ⟨_, q, _⟩ := hit; exact Heap.lt_size q
    have lt : i < its.toArray.size := by
      obtain ⟨q, _⟩ := List.getElem?_eq_some_iff.mp hu
      simpa using q
    refine wpAny_pyNext_enum_itemD (Draws.tuple (A := X.A.in1) (show X.A.in1.handled = none from I.ok.hd hc) it a na its.toArray) he ⟨hit, ht⟩ lt hne (by simp [hne, nae.symm]) fun y h' tk hy ho hs' hT hsz hk => ?_
    have ey : y = u := by
      have h2 : its[i]? = some y := by simpa using hy
      rw [hu] at h2
      exact (Option.some.inj h2).symm
    subst ey
    refine ⟨_, rfl, wpAny_letOwnedTupleGo_enum (s := { s with heap := h', toks := tk + 1 }) ho fun h'' he' sb => ?_⟩
    have hT2 : h''.get? s.heap.objs.size = some { cls := .type "tuple", data := .seq #[.int i tk, y] } := (sb.2 _ (Nat.ne_of_gt hel)).trans hT
    have new : ObjOk X.prog X.w (upd H s.heap.objs.size (.tup [.int (i : Nat), x])) h'' s.heap.objs.size (.tup [.int (i : Nat), x]) :=
      ⟨by show 2 ≤ sizeLine; decide, [.int i tk, y], .cons ⟨_, rfl⟩ (.cons ru .nil), ⟨_, hT2, rfl, _, rfl⟩⟩
    have I1 : Inv X pins σ (upd H s.heap.objs.size (.tup [.int (i : Nat), x])) { s with heap := h'', toks := tk + 1 } :=
      I.turnedNew (ch := [e, it]) (fun b ob hb q => (sb.2 b (fun z => hb (by simp [z]))).trans (hk b ob (fun z => hb (by simp [z])) (fun z => hb (by simp [z])) q)) hf (Nat.le_refl _) new
    refine ⟨.ref s.heap.objs.size, _, I1, rfl, ⟨_, x, rfl, I.hok.fresh (Nat.le_refl _), rfl, fun ys hy => by rw [I.tuple_inj hy hq]; exact hx⟩, ⟨⟨y, ?_⟩, hs'.1.at fun o q => (sb.2 it (Ne.symm hne)).trans q, hne⟩, fun b hb => ?_⟩
    · have e1 : ((i + 1 : Nat) : Int) = (i : Int) + 1 := by omega
      rw [e1]; exact he'
    · have hb' : b < s.heap.objs.size := by
        rcases List.mem_cons.mp hb with z | z
        · rw [z]; exact hel
        · rw [List.mem_singleton.mp z]; exact hil
      rw [upd_ne (Nat.ne_of_lt hb')]
      exact (hf b hb).1
  done := by
    intro X hP hw hK hc i pins s σ H E I hf st hg
    subst hP hw hK
    obtain ⟨⟨old, he⟩, hit, hne⟩ := st
    obtain ⟨xs, hq, hx⟩ := hg
    obtain ⟨its, rv, p, hz⟩ := I.tuple hq
    have ht : s.heap.IsTuple a its.toArray := p
    obtain ⟨f0, f1, f2, f3, f4, f5⟩ := hf it (by simp)
    have hl := rv.length
    have ei : i = its.toArray.size := by simp; omega
    refine wpAny_pyNext_enum_endD (Draws.tuple (A := X.A.in1) (show X.A.in1.handled = none from I.ok.hd hc) it a na its.toArray) he ⟨ei ▸ hit, ht⟩ fun h' eb => ?_
    exact ⟨rfl, I.turned (t' := s.toks) (fun b o hb q => eb b o hb q) f0 f1 f3 f4 f5⟩
  self := fun A i s Q E st h => let ⟨⟨_, he⟩, _⟩ := st; wpAny_pyIter_enum he h
/-- what enumerate(v) makes: an iterator of v and the pair-maker above it -/
def twoNew (h : Heap) (o : Obj) : Heap := (h.push o).push { cls := .type "enumerate", data := .fields #[.none, .bool false, .ref h.objs.size, rawInt 0, .none, .none] }
theorem meets_enum1 {v : Value} {o : Obj} {G : Heap → Prop} (B : Begins v o G) : Meets (Builtin.«enumerate.__new__» ⟨[.type "enumerate", v], []⟩) (fun _ R s => G s.heap ∧ R (.ok (.ret (.ref (s.heap.push o).objs.size))) { s with heap := twoNew s.heap o }) :=
  .of_wp fun prog w A R s h => by
    obtain ⟨hp, g, d, tk, os⟩ := s
    obtain ⟨h1, h⟩ := h
    have hsub := sub_enumerate
    have q1 : ∀ {A' : Around} {E : Value → Shared → Prop} {Q : Value → Shared → Prop}, Q (.ref hp.objs.size) ⟨hp.push o, g, d, tk, os⟩ → wpAny (model prog w) A' (pyIter v) Q E ⟨hp, g, d, tk, os⟩ := fun q => B.iter prog w _ _ ⟨hp, g, d, tk, os⟩ _ h1 q
    wp_walk using q1
    refine wpAny_stack_any fun st => wpAny_pure ?_
    split
    · rename_i c _ _ _ _ _
      cases (c == Value.type "enumerate") <;> (wp_walk using q1; exact ⟨_, rfl, h⟩)
    · wp_walk using q1
      exact ⟨_, rfl, h⟩
theorem call_enum1 {prog : Program} {w : World} {A : Around} {E : Value → Shared → Prop} {s : Shared} {v : Value} {o : Obj} {G : Heap → Prop} {Q : Value → Shared → Prop} (B : Begins v o G) (h1 : G s.heap)
    (h : ∀ h', IsEnum h' (s.heap.objs.size + 1) s.heap.objs.size 0 .none → h'.get? s.heap.objs.size = some o → (∀ b q, s.heap.get? b = some q → h'.get? b = some q) → Q (.ref (s.heap.objs.size + 1)) { s with heap := h' }) :
    wpAny (model prog w) A (call (.type "enumerate") [v]) Q E s := by
  have hz : (s.heap.push o).objs.size = s.heap.objs.size + 1 := Heap.size_push ..
  refine callType_new F.called_enumerate (by decide) (F.typeCall_enumerate_1 _) (F.newCall_enumerate_1 _) (fun obj => F.args_object_init_2 obj _) F.entry_enumerate_new (meets_enum1 B) ⟨h1, ?_⟩
  show _ ∧ _
  rw [hz]
  have he : IsEnum (twoNew s.heap o) (s.heap.objs.size + 1) s.heap.objs.size 0 .none := by
    rw [← hz]
    exact Heap.get?_push_size _ rfl
  exact ⟨⟨_, he, rfl⟩, h _ he (Heap.get?_push_of_some _ (Heap.get?_push_size _ B.free)) fun b q x => Heap.get?_push_of_some _ (Heap.get?_push_of_some _ x)⟩
def iEnumT (K : PySem.W.Frag) (ta : TA) : TI := fun σ H R => ta σ H fun vs H1 => ∃ a xs, vs = [.ref a] ∧ SqT K H1 a xs ∧ R (Iet K a) H1
theorem pi_enumT {X : Cx} {e : Expr} {ta : TA} {p pos tpos : Pos} {elts : List Expr} {kk : Nat} (hg : Gl X "enumerate") (hm : X.mg "enumerate" = none) (ha : PA X [e] ta) (hs : starEach [e] X.env = [(false, eval e X.env)] := by rfl) :
    PI X (.Tuple elts kk tpos) (.Call (.Name "enumerate" p) [e] [] pos) (iEnumT X.K ta) := by
  refine ⟨fun pins s σ H R I h => ?_⟩
  refine Call_ (ld_blt I hg hm boot_enumerate (PyProof.Rows.callWith_type1 (thn (ha.run pos pins s σ H _ I h) fun us s1 ⟨vs, H1, I1, r1, q1⟩ => ?_) hs rfl))
  obtain ⟨a, xs, rfl, hq, q⟩ := q1
  obtain ⟨u, rfl, ru⟩ := vals1 r1
  cases ru
  obtain ⟨its, rv, p', hz⟩ := I1.tuple hq
  have ht : s1.heap.IsTuple a its.toArray := p'
  have al : a < s1.heap.objs.size := by
    obtain ⟨_, z, _⟩ := ht
    exact Heap.lt_size z
  refine call_enum1 (begins_tuple a its.toArray) ht fun h' he hit hk => wpAny_pyIter_enum he ?_
  have I2 : Inv X pins σ H1 { s1 with heap := h' } := I1.kept (t' := s1.toks) hk
  refine ⟨s1.heap.objs.size + 1, [s1.heap.objs.size + 1, s1.heap.objs.size], _, _, H1, rfl, I2, turn_enumT a (s1.heap.objs.size + 1) s1.heap.objs.size (Nat.ne_of_lt al) (Nat.ne_of_lt (Nat.lt_succ_of_lt al)), ⟨⟨.none, he⟩, ⟨_, hit, rfl, rfl⟩, Nat.succ_ne_self _⟩, fun b hb => ?_, q⟩
  have hle : s1.heap.objs.size ≤ b := by
    rcases List.mem_cons.mp hb with z | z
    · rw [z]; exact Nat.le_add_right _ _
    · rw [List.mem_singleton.mp z]; exact Nat.le_refl _
  exact I1.fpOk hle (I1.hok.fresh hle)
end L3

/-! f(*t), f a local name that holds a def; the walk of enumerate(t) -/
namespace L3
open PySem PySem.Spec PyProof.Rows L2 StX
/-- the def at f keeps the promise sp -/
structure Does (P : Program) (w : World) (K : PySem.W.Frag) (mg : Str → Option Value) (base : Heap) (k : Nat) (f : Addr) (sp : Sp) : Prop where
  fn : FnR P w K mg base CX0 k f sp
  kp : PySem.W.keepIn K (.ref f) = true
def tCallLS (P : Program) (w : World) (K : PySem.W.Frag) (mg : Str → Option Value) (base : Heap) (k i : Nat) (te : TE) : TE := fun σ H Q => ∃ f sp, σ[i]? = some (some (.ref f)) ∧ Does P w K mg base k f sp ∧ te σ H fun y H1 => ∃ a xs, y = V.ref a ∧ (SqT K H1 a xs ∨ SqL K H1 a xs) ∧ sp xs H1 Q E0
theorem pe_callLS {X : Cx} {k i : Nat} {x : Str} {p pos sp_ : Pos} {e : Expr} {te : TE} (hr : Room k X.A) (hN : X.N[i]? = some x) (hv : Vis X.env.scope x) (he : PE X e te)
    (hdb : (x == ("__debug__" : Str)) = false := by decide) (hcd : (x == ("__classdict__" : Str)) = false := by decide) (hst : starEach [.Starred e sp_] X.env = [(true, eval e X.env)] := by rfl) :
    PE X (.Call (.Name x p) [.Starred e sp_] [] pos) (tCallLS X.prog X.w X.K X.mg X.base k i te) := by
  refine ⟨fun pins s σ H Q I h => ?_⟩
  obtain ⟨f, sp, hs, D, ht⟩ := h
  refine wpAny_Call_Name_kw (thn ((pe_var (pos := p) hN hv hdb hcd).run pins s σ H (fun v H1 => v = .ref f ∧ H1 = H) I ⟨.ref f, hs, rfl, rfl⟩) fun u s1 ⟨v, H1, I1, r1, q1⟩ => ?_)
  obtain ⟨rfl, rfl⟩ := q1
  cases r1
  refine PySem.W.callWith_S (h₀ := X.base) I.ok.mod.kin D.kp (thn (he.run pins s1 σ _ _ I1 ht) fun v s2 ⟨y, H2, I2, ry, a, xs, ey, hxs, q⟩ => ?_) hst
  subst ey
  obtain rfl : v = Value.ref a := ry
  exact star_any I2 hxs fun us s3 I3 rv => ⟨I3.kIn, wpAny_call (run_fnR D.fn hr pass0 I3 rv q)⟩
theorem walk_enumT {K : PySem.W.Frag} {a : Addr} {xs : List V} : Walk (Iet K a) xs.length (fun H => SqT K H a xs) (YPair (fun i => some (.int (i : Nat))) (fun i => xs[i]?)) := by
  refine ⟨fun i _ hi q => ⟨xs, xs[i], q, by simp [hi]⟩, fun _ q => ⟨xs, q, rfl⟩, fun i H v H' _ q y => ?_⟩
  obtain ⟨T, x, h1, h2, h3, h4⟩ := y
  exact ⟨T, .int (i : Nat), x, h1, h2, h3, rfl, h4 xs q⟩
end L3

/-! walks: reversed(tuple); dict comprehensions over any walk -/
namespace L3
open PySem L2 RT
theorem walk_revT {K : PySem.W.Frag} {a : Addr} {xs : List V} : Walk (ItvT K a xs.length) xs.length (fun H => SqT K H a xs) (fun i H x H' => H' = H ∧ xs[xs.length - 1 - i]? = some x) :=
  ⟨fun i _ hi q => ⟨hi, xs, xs[xs.length - 1 - i]'(by omega), q, by simp [show xs.length - 1 - i < xs.length by omega]⟩, fun _ _ => Nat.le_refl _, fun _ _ _ _ _ q y => ⟨y.1, y.2 xs q⟩⟩
theorem rev_at {α : Type} {xs : List α} {i : Nat} {y : α} (hi : i < xs.length) (h : xs[xs.length - 1 - i]? = some y) : xs.reverse[i]? = some y := by
  rw [List.getElem?_reverse hi]
  exact h
theorem dc_it {J : It} {n : Nat} {G : Hp → Prop} {Y : Nat → Hp → V → Hp → Prop} (w : Walk J n G Y) {g : TG} {tt : TT} {tk tv : TE} {vs : List Nat} {σ : L2.St} {H1 : Hp} {D : Addr} {Qd : Hp → Prop} (Pv : Nat → Hp → Prop) (h0 : Pv 0 (upd H1 D (.dK []))) (hG : ∀ i H, i ≤ n → Pv i H → G H)
    (hs : ∀ i x H H', i < n → Pv i H → Y i H x H' → g x (wipe σ vs) H' fun σ2 H2 => wipe σ2 vs = wipe σ vs ∧ tt σ2 H2 fun b H3 =>
      if b = true then tk σ2 H3 fun y H4 => tv σ2 H4 fun z H5 => ∃ kvs k, y = kV k ∧ H5 D = some (.dK kvs) ∧ kvs.length < sizeLine ∧ Pv (i + 1) (upd H5 D (.dK (putK kvs k z))) else Pv (i + 1) H3) (hd : ∀ H, Pv n H → Qd H) :
    ∃ W : Nat → Nat → Hp → Prop, (∃ m, W 0 m (upd H1 D (.dK []))) ∧ ∀ i m H, W i m H →
      (J.stop i H ∧ Qd H) ∨ (J.go i H ∧ ∃ Nx : Hp → Prop, (∀ H', Nx H' → ∃ m', m' < m ∧ W (i + 1) m' H') ∧ ∀ x H', J.yld i H x H' → g x (wipe σ vs) H' fun σ2 H2 => wipe σ2 vs = wipe σ vs ∧ tt σ2 H2 fun b H3 =>
        if b = true then tk σ2 H3 fun y H4 => tv σ2 H4 fun z H5 => ∃ kvs k, y = kV k ∧ H5 D = some (.dK kvs) ∧ kvs.length < sizeLine ∧ Nx (upd H5 D (.dK (putK kvs k z))) else Nx H3) := by
  refine ⟨fun i m H => m = n - i ∧ i ≤ n ∧ Pv i H, ⟨n, by simp, Nat.zero_le _, h0⟩, ?_⟩
  rintro i m H ⟨rfl, hi, p⟩
  have q := hG i H hi p
  by_cases hlt : i < n
  · exact .inr ⟨w.goes i H hlt q, Pv (i + 1), fun H' p' => ⟨n - (i + 1), by omega, rfl, hlt, p'⟩, fun x H' y => hs i x H H' hlt p (w.yields i H x H' hlt q y)⟩
  · have e : i = n := by omega
    subst e
    exact .inl ⟨w.stops H q, hd H p⟩
end L3

/-! what is sorted is told by what is in it -/
namespace L3
open PySem PySem.Spec PyProof.Rows L2
theorem str_ext {x y : Str} (h : x.cps.toList = y.cps.toList) : x = y := by
  obtain ⟨⟨a⟩⟩ := x
  obtain ⟨⟨b⟩⟩ := y
  have e : a = b := h
  rw [e]
theorem rising_pw : ∀ (l : List Str) (p : Str), risingS p l = true → (p :: l).Pairwise fun a b => a.cps.toList ≤ b.cps.toList
  | [], p, _ => List.pairwise_singleton _ _
  | x :: r, p, h => by
    unfold risingS at h
    rw [Bool.and_eq_true, ltCps_eq] at h
    obtain ⟨h1, h2⟩ := h
    have ih := rising_pw r x h2
    have le : p.cps.toList ≤ x.cps.toList := by
      have : ¬ x.cps.toList < p.cps.toList := by simpa using h1
      exact this
    refine List.pairwise_cons.mpr ⟨fun y hy => ?_, ih⟩
    rcases List.mem_cons.mp hy with e | e
    · rw [e]; exact le
    · exact List.le_trans le ((List.pairwise_cons.mp ih).1 y e)
theorem sorted_pw : ∀ {l : List Str}, sortedS l = true → l.Pairwise fun a b => a.cps.toList ≤ b.cps.toList
  | [], _ => List.Pairwise.nil
  | x :: r, h => rising_pw r x h
theorem sorted_uniq {xs ys : List Str} (p : xs.Perm ys) (a : sortedS xs = true) (b : sortedS ys = true) : xs = ys :=
  List.Perm.eq_of_pairwise (le := fun a b : Str => a.cps.toList ≤ b.cps.toList) (fun x y _ _ h1 h2 => str_ext (List.le_antisymm h1 h2)) (sorted_pw a) (sorted_pw b) p
/-! the size of kinds, words of a script -/
theorem Kd.size_fit : ∀ {k : Kd} {n : Nat}, k.fit n → k.size + 1 ≤ 2 * 2 ^ n
  | .var x, n, _ => by
    have : 1 ≤ 2 ^ n := Nat.one_le_two_pow
    show 1 + 1 ≤ _
    omega
  | .con x, n, _ => by
    have : 1 ≤ 2 ^ n := Nat.one_le_two_pow
    show 1 + 1 ≤ _
    omega
  | .app a b, n, h => by
    obtain ⟨m, rfl, ha, hb⟩ := Kd.fit_app h
    have h1 := Kd.size_fit ha
    have h2 := Kd.size_fit hb
    have h5 : 2 ^ (m + 1) = 2 ^ m * 2 := Nat.pow_succ ..
    show a.size + b.size + 1 + 1 ≤ _
    omega
theorem sizeL_fit {n : Nat} : ∀ {ks : List Kd}, (∀ k ∈ ks, k.fit n) → sizeL ks ≤ ks.length * (2 * 2 ^ n)
  | [], _ => Nat.zero_le _
  | k :: r, h => by
    have h1 := Kd.size_fit (h k List.mem_cons_self)
    have h2 := sizeL_fit (ks := r) fun y hy => h y (List.mem_cons_of_mem _ hy)
    have e : (r.length + 1) * (2 * 2 ^ n) = r.length * (2 * 2 ^ n) + 2 * 2 ^ n := Nat.succ_mul ..
    show k.size + sizeL r ≤ (r.length + 1) * (2 * 2 ^ n)
    rw [e]
    omega
theorem vs_len : ∀ (k : Kd) (fs : List Str), (k.vs fs).length ≤ fs.length + k.size
  | .var x, fs => by
    show (addV fs x).length ≤ fs.length + 1
    unfold addV
    split
    · omega
    · simp
  | .con _, fs => Nat.le_add_right _ _
  | .app a b, fs => by
    have h1 := vs_len a fs
    have h2 := vs_len b (a.vs fs)
    show (b.vs (a.vs fs)).length ≤ fs.length + (a.size + b.size + 1)
    omega
theorem addV_of {ws fs : List Str} {x : Str} (h : x ∈ ws) (hf : ∀ y ∈ fs, y ∈ ws) : ∀ y ∈ addV fs x, y ∈ ws := by
  intro y hy
  unfold addV at hy
  split at hy
  · exact hf y hy
  · rcases List.mem_append.mp hy with q | q
    · exact hf y q
    · rw [List.mem_singleton.mp q]; exact h
theorem Kd.vs_of {ws : List Str} : ∀ {k : Kd} {fs : List Str}, Kd.of ws k → (∀ y ∈ fs, y ∈ ws) → ∀ y ∈ k.vs fs, y ∈ ws
  | .var x, _, h, hf => addV_of h hf
  | .con _, _, _, hf => hf
  | .app a b, fs, h, hf => Kd.vs_of (k := b) h.2 (Kd.vs_of (k := a) h.1 hf)
theorem vsL_of {ws : List Str} : ∀ {ks : List Kd} {fs : List Str}, (∀ k ∈ ks, Kd.of ws k) → (∀ y ∈ fs, y ∈ ws) → ∀ y ∈ vsL ks fs, y ∈ ws
  | [], _, _, hf => hf
  | k :: r, _, h, hf => vsL_of (ks := r) (fun y hy => h y (List.mem_cons_of_mem _ hy)) (Kd.vs_of (h k List.mem_cons_self) hf)
end L3

namespace L3
open PySem L2 RT
structure Bl5 (mg : Str → Option Value) : Prop where
  reversed : mg "reversed" = none
  sum : mg "sum" = none
theorem SqT.same' {K : PySem.W.Frag} {H H' : Hp} (e : Same H H') {a : Addr} {xs : List V} (h : SqT K H a xs) : SqT K H' a xs := by
  rcases h with (h | ⟨o, h⟩) | h
  · exact .inl (.inl (e _ _ h))
  · exact .inl (.inr ⟨o, e _ _ h⟩)
  · exact .inr h
section
variable {P : Program} {w : World} {K : PySem.W.Frag} {mg : Str → Option Value} {base : Heap}
abbrev s_var : Stmt := topS 14
abbrev N_var : List Str := ["name"]
theorem sc_var : FnScope N_var ["name"] (defScope s_var) := ⟨rfl, rfl, rfl, by decide +kernel, rfl, by decide +kernel, by decide +kernel⟩
def spVar : Sp := fun vs H Q _ => ∃ (x : Str), vs = [.str x] ∧ ∀ q, H q = none → Q (.ref q) (upd H q (.tup [.str "var", .str x]))
theorem ok_var {f : Addr} {fd : FuncData} (F : Fun K "var" "var" s_var f fd) : FnOk P w K mg base CX0 1 f fd ["name"] spVar := by
  refine F.ok sc_var (fun vs H Q E h => ?_) (fun cdv A outer s H vs Q E hr h => ?_)
  · obtain ⟨x, rfl, _⟩ := h
    rfl
  · obtain ⟨x, rfl, k⟩ := h
    refine ⟨_, (pss_one (ps_ret (pe_tup (pa_cons pe_str (pa_cons (pv 0) pa_nil))))), ?_⟩
    exact ⟨_, rfl, slz rfl, fun q hq => k q hq⟩
abbrev s_put : Stmt := topS 20
abbrev N_put : List Str := ["kind", "by"]
theorem sc_put : FnScope N_put ["kind", "by"] (defScope s_put) := ⟨rfl, rfl, rfl, by decide +kernel, rfl, by decide +kernel, by decide +kernel⟩
def spPutK (K : PySem.W.Frag) (n : Nat) : Sp := fun vs H Q _ => ∃ (v : V) (d : Addr) (k : Kd) (kvs : List (Key × V)) (by' : By), vs = [v, .ref d] ∧ KdAt H v k ∧ k.fit n ∧ H d = some (.dK kvs) ∧ ByAt H kvs by' ∧
  ∀ (H' : Hp) (v' : V), Same H H' → KdAt H' v' (k.put by') → Q v' H'
theorem ok_putP_step {n : Nat} {f : Addr} {fd : FuncData} (F : Fun K "put" "put" s_put f fd) (D_put : Kn P w K mg base n "put" ["kind", "by"] (spPrev (spPutK K) n)) : FnOk P w K mg base CX0 (n + 1) f fd ["kind", "by"] (spPutK K n) := by
  refine F.ok sc_put (fun vs H Q E h => ?_) (fun cdv A outer s H vs Q E hr h => ?_)
  · obtain ⟨v, d, k, kvs, by', rfl, _⟩ := h
    rfl
  · obtain ⟨v, d, kd, kvs, by', rfl, h1, h2, h3, h4, k⟩ := h
    have hr_put := hr
    have hu := hu_of hr
    refine ⟨_, (pss_cons (ps_if (pt_cmpR op_eq (pe_ix ix_tup (pv 0) pe_int (fun _ _ => rfl)) pe_str (nomark _))
  (pss_one (ps_ret (pe_tup (pa_cons pe_str (pa_cons (pe_kn D_put hr_put (pa_cons (pe_ix ix_tup (pv 0) pe_int (fun _ _ => rfl)) (pa_cons (pv 1) pa_nil))) (pa_cons (pe_kn D_put hr_put (pa_cons (pe_ix ix_tup (pv 0) pe_int (fun _ _ => rfl)) (pa_cons (pv 1) pa_nil))) pa_nil))))))
  pss_nil)
  (pss_cons (ps_if (pt_cmpR op_eq (pe_ix ix_tup (pv 0) pe_int (fun _ _ => rfl)) pe_str (nomark _))
  (pss_one (ps_ret (pe_dget2 hu (pv 1) (pe_ix ix_tup (pv 0) pe_int (fun _ _ => rfl)) (pv 0) ⟨rfl, rfl, rfl, rfl⟩)))
  pss_nil)
  (pss_one (ps_ret (pv 0))))), ?_⟩
    cases kd with
    | app a b =>
      obtain ⟨m, rfl, ha, hb⟩ := Kd.fit_app h2
      obtain ⟨p, u, z, rfl, hp, hu1, hz1⟩ := h1
      refine ⟨_, rfl, _, _, _, _, rfl, rfl, SqT.of hp, rfl, rfl, _, rfl, iT tg_aa ?_⟩
      refine ⟨_, rfl, _, _, _, _, rfl, rfl, SqT.of hp, rfl, _, rfl, u, d, a, kvs, by', rfl, hu1, ha, h3, h4, fun H1 v1 s1 g1 => ?_⟩
      refine ⟨_, rfl, _, _, _, _, rfl, rfl, SqT.of (s1 _ _ hp), rfl, _, rfl, z, d, b, kvs, by', rfl, KdAt.tups (same_tups s1) hz1, hb, s1 _ _ h3, ByAt.tups (same_tups s1) h4, fun H2 v2 s2 g2 => ?_⟩
      refine ⟨slz rfl, fun q hq => ?_⟩
      have s3 : Same H2 (upd H2 q (.tup [.str "apply", v1, v2])) := same_new hq
      exact k _ _ ((s1.trans s2).trans s3) ⟨q, v1, v2, rfl, upd_same, KdAt.tups (same_tups (s2.trans s3)) g1, KdAt.tups (same_tups s3) g2⟩
    | var x =>
      obtain ⟨p, rfl, hp⟩ := id h1
      refine ⟨_, rfl, _, _, _, _, rfl, rfl, SqT.of hp, rfl, rfl, _, rfl, iF tg_va ?_⟩
      refine ⟨_, rfl, _, _, _, _, rfl, rfl, SqT.of hp, rfl, rfl, _, rfl, iT tg_vv ?_⟩
      refine ⟨_, rfl, d, rfl, .inl ⟨_, .inl h3⟩, _, rfl, _, _, _, _, rfl, rfl, SqT.of hp, rfl, _, rfl, _, DGet.k (k := .inr x) h3, ?_⟩
      rcases h4.get x with ⟨e1, e2⟩ | ⟨v, kd, e1, e2, g⟩
      · rw [e1]
        refine k _ _ (Same.refl _) ?_
        show KdAt H (.ref p) ((lk by' x).getD (.var x))
        rw [e2]
        exact h1
      · rw [e1]
        refine k _ _ (Same.refl _) ?_
        show KdAt H v ((lk by' x).getD (.var x))
        rw [e2]
        exact g
    | con x =>
      obtain ⟨p, rfl, hp⟩ := id h1
      refine ⟨_, rfl, _, _, _, _, rfl, rfl, SqT.of hp, rfl, rfl, _, rfl, iF tg_ca ?_⟩
      refine ⟨_, rfl, _, _, _, _, rfl, rfl, SqT.of hp, rfl, rfl, _, rfl, iF tg_cv ?_⟩
      exact ⟨_, rfl, k _ _ (Same.refl _) h1⟩
theorem ok_putP {f : Addr} {fd : FuncData} (F : Fun K "put" "put" s_put f fd) (hm : mg "put" = some (.ref f)) : ∀ n, FnOk P w K mg base CX0 (n + 1) f fd ["kind", "by"] (spPutK K n)
  | 0 => ok_putP_step F ⟨f, fd, fn_false, hm, F.kp, F.binds fun _ _ _ _ _ _ us hl => match us, hl with | [_, _], _ => rfl⟩
  | n + 1 => ok_putP_step F ⟨f, fd, ok_putP F hm n, hm, F.kp, F.binds fun _ _ _ _ _ _ us hl => match us, hl with | [_, _], _ => rfl⟩
/-! ### leaves -/
end
def Kd.leaves : Kd → List Kd
  | .var x => [.var x]
  | .con x => [.con x]
  | .app a b => a.leaves ++ b.leaves
def leavesL : List Kd → List Kd
  | [] => []
  | k :: r => k.leaves ++ leavesL r
theorem leavesL_append : ∀ a b : List Kd, leavesL (a ++ b) = leavesL a ++ leavesL b
  | [], _ => rfl
  | k :: r, b => by
    show k.leaves ++ leavesL (r ++ b) = k.leaves ++ leavesL r ++ leavesL b
    rw [leavesL_append r b, List.append_assoc]
theorem leaves_size : ∀ k : Kd, k.leaves.length ≤ k.size
  | .var _ => Nat.le_refl _
  | .con _ => Nat.le_refl _
  | .app a b => by
    have h1 := leaves_size a
    have h2 := leaves_size b
    show (a.leaves ++ b.leaves).length ≤ a.size + b.size + 1
    rw [List.length_append]
    omega
theorem leavesL_size : ∀ ks : List Kd, (leavesL ks).length ≤ sizeL ks
  | [] => Nat.le_refl _
  | k :: r => by
    have h1 := leaves_size k
    have h2 := leavesL_size r
    show (k.leaves ++ leavesL r).length ≤ k.size + sizeL r
    rw [List.length_append]
    omega
theorem vsL_leaves : ∀ (k : Kd) (fs : List Str), vsL k.leaves fs = k.vs fs
  | .var _, _ => rfl
  | .con _, _ => rfl
  | .app a b, fs => by
    show vsL (a.leaves ++ b.leaves) fs = b.vs (a.vs fs)
    rw [vsL_append, vsL_leaves a, vsL_leaves b]
theorem vsL_leavesL : ∀ (ks : List Kd) (fs : List Str), vsL (leavesL ks) fs = vsL ks fs
  | [], _ => rfl
  | k :: r, fs => by
    show vsL (k.leaves ++ leavesL r) fs = vsL r (k.vs fs)
    rw [vsL_append, vsL_leaves, vsL_leavesL r]
section
variable {P : Program} {w : World} {K : PySem.W.Frag} {mg : Str → Option Value} {base : Heap}
abbrev s_leaves_of : Stmt := topS 17
abbrev N_leaves_of : List Str := ["kinds", "found", "waiting", "part", "kind"]
theorem sc_leaves_of : FnScope N_leaves_of ["kinds"] (defScope s_leaves_of) := ⟨rfl, rfl, rfl, by decide +kernel, rfl, by decide +kernel, by decide +kernel⟩
def spLeaves (K : PySem.W.Frag) : Sp := fun vs H Q _ => ∃ (l : Addr) (xs : List V) (ks : List Kd), vs = [.ref l] ∧ SqT K H l xs ∧ KdsAt H xs ks ∧ sizeL ks ≤ 100000 ∧
  ∀ (H' : Hp) (p : Addr) (ls : List V), Same H H' → H p = none → H' p = some (.lst ls) → KdsAt H' ls (leavesL ks) → Q (.ref p) H'
theorem ok_leaves {f : Addr} {fd : FuncData} (F : Fun K "leaves_of" "leaves_of" s_leaves_of f fd) (B : Bl mg) (B5 : Bl5 mg) : FnR P w K mg base CX0 1 f (spStar 0 (spLeaves K)) := by
  refine fn_starK (ps := []) F sc_leaves_of (fun _ _ _ _ _ _ us rest hl => ?_) (fun cdv A outer s H vs Q E hr h => ?_)
  · cases us with
    | nil => cases rest <;> rfl
    | cons a r => cases hl
  obtain ⟨l, xs, ks, rfl, h1, h2, h4, k⟩ := h
  refine ⟨_, (pss_cons (ps_set (i := 1) sc_leaves_of.nd rfl (Or.inl rfl) (pe_lst pa_nil))
  (pss_cons (ps_setLc (i := 2) (own := [("kind", 4)]) rfl sc_leaves_of.nd rfl rfl (sw_true rfl rfl rfl (by decide +kernel)) (pi_revA (by rfl) B5.reversed (pv 0)) (blkOk_by (N := N_leaves_of) (sc := (defScope s_leaves_of)) (own := [("kind", 4)]) (by decide +kernel)) (fun _ _ _ _ _ => (pg_name (i := 4) sc_leaves_of.nd rfl (Or.inl rfl))) (fun _ _ _ _ _ => pts_nil) (fun _ _ _ _ _ => (pv 4)))
  (pss_cons (ps_while PassesOwn.never (pt_truth (pv 2) (by intro _; rfl))
  (pss_cons (ps_set (i := 3) sc_leaves_of.nd rfl (Or.inl rfl) (pe_bm0 PySem.F.plainAttrs_list PySem.F.slot_list_pop PySem.F.type_list_pop mt_pop (pv 2)))
  (pss_one (ps_if (pt_cmpR op_eq (pe_ix ix_tup (pv 3) pe_int (fun _ _ => rfl)) pe_str (nomark _))
  (pss_cons (ps_expr (pe_bm PySem.F.plainAttrs_list PySem.F.slot_list_append PySem.F.type_list_append mt_append (pv 2) (pa_cons (pe_ix ix_tup (pv 3) pe_int (fun _ _ => rfl)) pa_nil)))
  (pss_one (ps_expr (pe_bm PySem.F.plainAttrs_list PySem.F.slot_list_append PySem.F.type_list_append mt_append (pv 2) (pa_cons (pe_ix ix_tup (pv 3) pe_int (fun _ _ => rfl)) pa_nil)))))
  (pss_one (ps_expr (pe_bm PySem.F.plainAttrs_list PySem.F.slot_list_append PySem.F.type_list_append mt_append (pv 1) (pa_cons (pv 3) pa_nil))))))))
  (pss_one (ps_ret (pv 1)))))), ?_⟩
  refine ⟨slz rfl, fun lf hlf => ?_⟩
  have s1 : Same H (upd H lf (.lst [])) := same_new hlf
  have gf1 : (upd H lf (.lst [])) lf = some (.lst []) := upd_same
  generalize upd H lf (.lst []) = H1 at s1 gf1 ⊢
  refine ⟨_, rfl, l, xs, rfl, .inr ⟨SqT.same' s1 h1, fun lw hlw => lc_it walk_revT (fun i H' => Same H1 H' ∧ H' lw = some (.lst (xs.reverse.take i))) ⟨same_new hlw, upd_same⟩ (fun i H' _ h => SqT.same' h.1 (SqT.same' s1 h1)) ?_ ?_⟩⟩
  · rintro i y H2 H3 hi ⟨s2, g2⟩ ⟨rfl, ey⟩
    refine ⟨rfl, ?_⟩
    refine ⟨_, rfl, _, g2, size_line (by have := sizeL_len ks; have := Paired.length h2; simp; omega), fun b o e => ?_, ?_⟩
    · rw [upd_ne (ne_of_none e hlw)]
      exact s2 _ _ e
    · rw [upd_same, List.take_add_one, rev_at hi ey]
      rfl
  rintro H2 ⟨s3, gw0⟩
  rw [List.take_of_length_le (by simp)] at gw0
  have ss := s1.trans s3
  have nlw : H lw = none := s1.free hlw
  have nfw : lf ≠ lw := ne_of_none gf1 hlw
  refine ⟨fun m σ H' => ∃ (st dn : List Kd) (vs fs : List V) (v3 : Option V), σ = [some (.ref l), some (.ref lf), some (.ref lw), v3, none] ∧ Same H H' ∧ H' lf = some (.lst fs) ∧ KdsAt H' fs dn ∧ H' lw = some (.lst vs) ∧ KdsAt H' vs st ∧ m = sizeL st ∧
      dn.length + sizeL st ≤ 100000 ∧ dn ++ leavesL st.reverse = leavesL ks, ⟨sizeL ks, ks.reverse, [], xs.reverse, [], none, rfl, ss, s3 _ _ gf1, .nil, gw0, KdsAt.tups (same_tups ss) (paired_rev h2), (sizeL_rev ks).symm, by rw [sizeL_rev]; simpa using h4, by rw [List.reverse_reverse]; rfl⟩, ?_⟩
  rintro m σ H2 ⟨st, dn, vs, fs, v3, rfl, s4, g1, gd, g2, g3, rfl, g5, g6⟩
  refine ⟨_, rfl, _, .inl ⟨vs, SqL.of g2, rfl⟩, ?_⟩
  by_cases hst : st = []
  · subst hst
    cases g3
    refine iteF ?_
    have e : dn = leavesL ks := by rw [← g6]; simp [leavesL]
    exact ⟨_, rfl, k H2 lf fs s4 hlf g1 (by rw [← e]; exact gd)⟩
  · obtain ⟨st0, kd, rfl⟩ := kds_snoc st hst
    obtain ⟨vs0, v, rfl, g31, g32⟩ := paired_last g3
    have hne : (!(vs0 ++ [v]).isEmpty) = true := by cases vs0 <;> rfl
    refine iT hne ?_
    refine ⟨fun σ' H' => ∃ (st dn : List Kd) (vs fs : List V) (v3 : Option V), σ' = [some (.ref l), some (.ref lf), some (.ref lw), v3, none] ∧ Same H H' ∧ H' lf = some (.lst fs) ∧ KdsAt H' fs dn ∧ H' lw = some (.lst vs) ∧ KdsAt H' vs st ∧ sizeL st < sizeL (st0 ++ [kd]) ∧
        dn.length + sizeL st ≤ 100000 ∧ dn ++ leavesL st.reverse = leavesL ks, ?_, ?_⟩
    · rintro σ' H' ⟨st, dn, vs, fs, v3, e1, e2, e3, e4, e5, e6, e7, e8, e9⟩
      exact ⟨sizeL st, e7, st, dn, vs, fs, v3, e1, e2, e3, e4, e5, e6, rfl, e8, e9⟩
    · have lsz : sizeL (st0 ++ [kd]) = sizeL st0 + kd.size := by rw [sizeL_append]; rfl
      rw [List.reverse_append] at g6
      have g6' : dn ++ (kd.leaves ++ leavesL st0.reverse) = leavesL ks := g6
      have S6 : Same H (upd H2 lw (.lst vs0)) := fun b o z => by
        rw [upd_ne (ne_of_none z nlw)]
        exact s4 _ _ z
      have tu : Tups H2 (upd H2 lw (.lst vs0)) := Tups.put g2 (by intro xs z; cases z)
      have gf : (upd H2 lw (.lst vs0)) lf = some (.lst fs) := by rw [upd_ne nfw]; exact g1
      refine ⟨_, rfl, .inl ⟨rfl, _, SqL.of g2⟩, lw, vs0 ++ [v], v, rfl, rfl, g2, by simp, ?_⟩
      rw [List.dropLast_concat]
      have gw : (upd H2 lw (.lst vs0)) lw = some (.lst vs0) := upd_same
      have k1 := KdsAt.tups tu g31
      have k2 := KdAt.tups tu g32
      have kd' := KdsAt.tups tu gd
      generalize upd H2 lw (.lst vs0) = H3 at S6 gf gw k1 k2 kd' ⊢
      clear tu
      have hs1 := kd.size_pos
      have lnv : vs0.length ≤ 100000 := by
        have := sizeL_len st0
        rw [Paired.length k1]
        omega
      have leaf : ∀ (kl : Kd), kl = kd → kd.leaves = [kd] → ∃ acc, H3 lf = some (.lst acc) ∧ acc.length < sizeLine ∧ ∃ (st dn : List Kd) (vs fs : List V) (v3 : Option V), [some (.ref l), some (.ref lf), some (.ref lw), some v, none] = [some (V.ref l), some (.ref lf), some (.ref lw), v3, none] ∧ Same H (upd H3 lf (.lst (acc ++ [v]))) ∧ (upd H3 lf (.lst (acc ++ [v]))) lf = some (.lst fs) ∧ KdsAt (upd H3 lf (.lst (acc ++ [v]))) fs dn ∧ (upd H3 lf (.lst (acc ++ [v]))) lw = some (.lst vs) ∧ KdsAt (upd H3 lf (.lst (acc ++ [v]))) vs st ∧ sizeL st < sizeL (st0 ++ [kd]) ∧
          dn.length + sizeL st ≤ 100000 ∧ dn ++ leavesL st.reverse = leavesL ks := by
        intro kl _ el
        have tu8 : Tups H3 (upd H3 lf (.lst (fs ++ [v]))) := Tups.put gf (by intro xs z; cases z)
        refine ⟨fs, gf, by rw [Paired.length kd']; exact size_line (by omega), st0, dn ++ [kd], vs0, fs ++ [v], _, rfl, fun b o zz => ?_, upd_same, Paired.snoc (KdsAt.tups tu8 kd') (KdAt.tups tu8 k2), by rw [upd_ne nfw.symm]; exact gw, KdsAt.tups tu8 k1, by rw [lsz]; omega, ?_, ?_⟩
        · rw [upd_ne (ne_of_none zz hlf)]
          exact S6 _ _ zz
        · rw [lsz] at g5
          rw [List.length_append, List.length_singleton]
          omega
        · rw [← g6', el, List.append_assoc]
      cases kd with
      | app a d =>
        obtain ⟨p, u, z, rfl, hp, ha, hd⟩ := id k2
        refine ⟨_, rfl, _, _, _, _, rfl, rfl, SqT.of hp, rfl, rfl, _, rfl, iT tg_aa ?_⟩
        refine ⟨_, rfl, .inl ⟨rfl, _, SqL.of gw⟩, _, rfl, _, _, _, _, rfl, rfl, SqT.of hp, rfl, lw, _, _, rfl, rfl, gw, size_line (by omega), ?_⟩
        have tu8 : Tups H3 (upd H3 lw (.lst (vs0 ++ [z]))) := Tups.put gw (by intro xs z; cases z)
        have gw8 : (upd H3 lw (.lst (vs0 ++ [z]))) lw = some (.lst (vs0 ++ [z])) := upd_same
        have gf8 : (upd H3 lw (.lst (vs0 ++ [z]))) lf = some (.lst fs) := by rw [upd_ne nfw]; exact gf
        have S8 : Same H (upd H3 lw (.lst (vs0 ++ [z]))) := fun b o zz => by
          rw [upd_ne (ne_of_none zz nlw)]
          exact S6 _ _ zz
        generalize upd H3 lw (.lst (vs0 ++ [z])) = H4 at tu8 gw8 gf8 S8 ⊢
        refine ⟨_, rfl, .inl ⟨rfl, _, SqL.of gw8⟩, _, rfl, _, _, _, _, rfl, rfl, SqT.of (tu8 _ _ hp), rfl, lw, _, _, rfl, rfl, gw8, size_line (by rw [List.length_append, List.length_singleton]; omega), ?_⟩
        have tu9 : Tups H3 (upd H4 lw (.lst (vs0 ++ [z] ++ [u]))) := tu8.trans (Tups.put gw8 (by intro xs z; cases z))
        refine ⟨st0 ++ [d] ++ [a], dn, vs0 ++ [z] ++ [u], fs, _, rfl, fun b o zz => ?_, by rw [upd_ne nfw]; exact gf8, KdsAt.tups tu9 kd', upd_same, Paired.snoc (Paired.snoc (KdsAt.tups tu9 k1) (KdAt.tups tu9 hd)) (KdAt.tups tu9 ha), ?_, ?_, ?_⟩
        · rw [upd_ne (ne_of_none zz nlw)]
          exact S8 _ _ zz
        · rw [sizeL_append, sizeL_append, lsz]
          simp only [sizeL, Kd.size]
          omega
        · rw [sizeL_append, sizeL_append]
          rw [lsz] at g5
          simp only [sizeL, Kd.size] at g5 ⊢
          omega
        · rw [← g6', List.reverse_append, List.reverse_append]
          show dn ++ (a.leaves ++ (d.leaves ++ leavesL st0.reverse)) = dn ++ (a.leaves ++ d.leaves ++ leavesL st0.reverse)
          rw [List.append_assoc]
      | var x =>
        obtain ⟨p, rfl, hp⟩ := id k2
        refine ⟨_, rfl, _, _, _, _, rfl, rfl, SqT.of hp, rfl, rfl, _, rfl, iF tg_va ?_⟩
        obtain ⟨acc, a1, a2, a3⟩ := leaf _ rfl rfl
        exact ⟨_, rfl, .inl ⟨rfl, _, SqL.of a1⟩, _, rfl, lf, _, _, rfl, rfl, a1, a2, a3⟩
      | con x =>
        obtain ⟨p, rfl, hp⟩ := id k2
        refine ⟨_, rfl, _, _, _, _, rfl, rfl, SqT.of hp, rfl, rfl, _, rfl, iF tg_ca ?_⟩
        obtain ⟨acc, a1, a2, a3⟩ := leaf _ rfl rfl
        exact ⟨_, rfl, .inl ⟨rfl, _, SqL.of a1⟩, _, rfl, lf, _, _, rfl, rfl, a1, a2, a3⟩
abbrev s_size_of : Stmt := topS 18
abbrev N_size_of : List Str := ["kinds"]
theorem sc_size_of : FnScope N_size_of ["kinds"] (defScope s_size_of) := ⟨rfl, rfl, rfl, by decide +kernel, rfl, by decide +kernel, by decide +kernel⟩
def spSize (K : PySem.W.Frag) : Sp := fun vs H Q _ => ∃ (l : Addr) (xs : List V) (ks : List Kd), vs = [.ref l] ∧ SqT K H l xs ∧ KdsAt H xs ks ∧ sizeL ks ≤ 100000 ∧
  ∀ (H' : Hp), Same H H' → Q (.int ((leavesL ks).length : Int)) H'
theorem ok_size {f : Addr} {fd : FuncData} (F : Fun K "size_of" "size_of" s_size_of f fd) (B : Bl mg) (D_leaves_of : KnR P w K mg base 1 "leaves_of" (spStar 0 (spLeaves K))) : FnR P w K mg base CX0 2 f (spStar 0 (spSize K)) := by
  refine fn_starK (ps := []) F sc_size_of (fun _ _ _ _ _ _ us rest hl => ?_) (fun cdv A outer s H vs Q E hr h => ?_)
  · cases us with
    | nil => cases rest <;> rfl
    | cons a r => cases hl
  obtain ⟨l, xs, ks, rfl, h1, h2, h4, k⟩ := h
  have hr_leaves_of := hr
  have lx : xs.length ≤ 100000 := by
    have := sizeL_len ks
    rw [Paired.length h2]
    omega
  refine ⟨_, (pss_one (ps_ret (pe_callB call_len (by rfl) B.len PySem.boot_len (pa_cons (pe_ks1 D_leaves_of hr_leaves_of (pv 0)) pa_nil)))), ?_⟩
  refine ⟨_, rfl, l, xs, rfl, .inl h1, [], xs, rfl, rfl, Nat.le_of_lt (size_line (by omega)), fun q hq => ⟨q, xs, ks, rfl, SqT.of upd_same, KdsAt.tups (same_tups (same_new hq)) h2, h4, fun H1 p ls s1 hp g1 g2 => ?_⟩⟩
  refine ⟨_, _, rfl, .inl ⟨_, SqL.of g1, rfl⟩, ?_⟩
  have := k H1 ((same_new hq).trans s1)
  rw [← Paired.length g2] at this
  exact this
abbrev s_variables_of : Stmt := topS 19
abbrev N_variables_of : List Str := ["kinds", "leaf"]
theorem sc_variables_of : FnScope N_variables_of ["kinds"] (defScope s_variables_of) := ⟨rfl, rfl, rfl, by decide +kernel, rfl, by decide +kernel, by decide +kernel⟩
def spVarsT (K : PySem.W.Frag) : Sp := fun vs H Q _ => ∃ (l : Addr) (xs : List V) (ks : List Kd), vs = [.ref l] ∧ SqT K H l xs ∧ KdsAt H xs ks ∧ sizeL ks ≤ 100000 ∧
  ∀ (H' : Hp) (q : Addr), Same H H' → H q = none → H' q = some (.tup ((vsL ks []).map V.str)) → Q (.ref q) H'
end
theorem leaf_cases : ∀ {k q : Kd}, q ∈ k.leaves → (∃ x, q = .var x) ∨ ∃ x, q = .con x
  | .var x, q, h => .inl ⟨x, List.mem_singleton.mp h⟩
  | .con x, q, h => .inr ⟨x, List.mem_singleton.mp h⟩
  | .app a b, q, h => by
    rcases List.mem_append.mp (show q ∈ a.leaves ++ b.leaves from h) with h | h
    · exact leaf_cases h
    · exact leaf_cases h
theorem leafL_cases : ∀ {ks : List Kd} {q : Kd}, q ∈ leavesL ks → (∃ x, q = .var x) ∨ ∃ x, q = .con x
  | [], _, h => nomatch h
  | k :: r, q, h => by
    rcases List.mem_append.mp (show q ∈ k.leaves ++ leavesL r from h) with h | h
    · exact leaf_cases h
    · exact leafL_cases h
theorem vsL_len : ∀ (ks : List Kd) (fs : List Str), (vsL ks fs).length ≤ fs.length + sizeL ks
  | [], _ => Nat.le_refl _
  | k :: r, fs => by
    have h1 := vs_len k fs
    have h2 := vsL_len r (k.vs fs)
    show (vsL r (k.vs fs)).length ≤ fs.length + (k.size + sizeL r)
    omega
theorem sizeL_leaf : ∀ {ks : List Kd}, (∀ q ∈ ks, (∃ x, q = Kd.var x) ∨ ∃ x, q = Kd.con x) → sizeL ks = ks.length
  | [], _ => rfl
  | k :: r, h => by
    have h2 := sizeL_leaf (ks := r) fun q hq => h q (List.mem_cons_of_mem _ hq)
    have h1 : k.size = 1 := by
      rcases h k List.mem_cons_self with ⟨x, rfl⟩ | ⟨x, rfl⟩ <;> rfl
    show k.size + sizeL r = r.length + 1
    omega
def flag (x : Str) : Key × V := (.inr x, .bl true)
theorem flag_put (fs : List Str) (x : Str) : putK (fs.map flag) (.inr x) (.bl true) = (addV fs x).map flag := by
  have e : ((fs.map flag).any fun kv => decide (kv.1 = (.inr x : Key))) = decide (x ∈ fs) := by
    induction fs with
    | nil => rfl
    | cons y r ih =>
      rw [List.map_cons, List.any_cons, ih]
      by_cases h : y = x
      · subst h
        simp [flag]
      · have h2 : ¬ x = y := fun z => h z.symm
        have h3 : ¬ (flag y).1 = (.inr x : Key) := fun z => h (Sum.inr.inj z)
        simp [h2, h3]
  unfold putK addV
  rw [e]
  by_cases h : x ∈ fs
  · rw [if_pos (decide_eq_true h), if_pos h, List.map_map]
    apply List.map_congr_left
    intro y _
    show (if (flag y).1 = (.inr x : Key) then ((flag y).1, V.bl true) else flag y) = flag y
    by_cases h3 : (flag y).1 = (.inr x : Key)
    · rw [if_pos h3]; rfl
    · rw [if_neg h3]
  · rw [if_neg (by rw [decide_eq_false h]; decide), if_neg h, List.map_append]
    rfl
theorem flag_keys (fs : List Str) : ((fs.map flag).map fun kv => kV kv.1) = fs.map V.str := by
  rw [List.map_map]
  rfl
section
variable {P : Program} {w : World} {K : PySem.W.Frag} {mg : Str → Option Value} {base : Heap}
theorem ok_variables {f : Addr} {fd : FuncData} (F : Fun K "variables_of" "variables_of" s_variables_of f fd) (B : Bl mg) (D_leaves_of : KnR P w K mg base 1 "leaves_of" (spStar 0 (spLeaves K))) : FnR P w K mg base CX0 2 f (spStar 0 (spVarsT K)) := by
  refine fn_starK (ps := []) F sc_variables_of (fun _ _ _ _ _ _ us rest hl => ?_) (fun cdv A outer s H vs Q E hr h => ?_)
  · cases us with
    | nil => cases rest <;> rfl
    | cons a r => cases hl
  obtain ⟨l, xs, ks, rfl, h1, h2, h4, k⟩ := h
  have hr_leaves_of := hr
  have hu := hu_of hr
  have lx : xs.length ≤ 100000 := by
    have := sizeL_len ks
    rw [Paired.length h2]
    omega
  have lL := leavesL_size ks
  refine ⟨_, (pss_one (ps_ret (pe_callTy (call_tuple_dK rfl) (by rfl) B.tuple (by decide +kernel) (pa_cons (pe_dc (own := [("leaf", 1)]) rfl sc_variables_of.nd (pi_list (pe_ks1 D_leaves_of hr_leaves_of (pv 0))) (blkOk_by (N := N_variables_of) (sc := (defScope s_variables_of)) (own := [("leaf", 1)]) (by decide +kernel)) (fun _ _ _ _ _ => (pg_name (i := 1) sc_variables_of.nd rfl (Or.inl rfl))) (fun _ _ _ _ _ => (pts_one (pt_cmpR op_eq (pe_ix (show IxR _ (rIxT K) from ix_tup) (pv 1) pe_int (fun _ _ => rfl)) pe_str (nomark _)))) (fun _ _ _ _ _ => (pe_ix (show IxR _ (rIxT K) from ix_tup) (pv 1) pe_int (fun _ _ => rfl))) (fun _ _ _ _ _ => pe_bl)) pa_nil)))), ?_⟩
  refine ⟨_, rfl, l, xs, rfl, .inl h1, [], xs, rfl, rfl, Nat.le_of_lt (size_line (by omega)), fun q hq => ⟨q, xs, ks, rfl, SqT.of upd_same, KdsAt.tups (same_tups (same_new hq)) h2, h4, fun H1 p ls s1 hp g1 g2 => ?_⟩⟩
  have S1 := (same_new hq).trans s1
  refine ⟨p, rfl, ⟨_, SqL.of g1⟩, fun d hd => dc_it walk_list (fun i H' => Same H1 H' ∧ H' d = some (.dK ((vsL ((leavesL ks).take i) []).map flag))) ⟨same_new hd, upd_same⟩ (fun i H' _ h => SqL.of (h.1 _ _ g1)) ?_ ?_⟩
  · rintro i y H2 H3 hi ⟨s2, gd2⟩ ⟨rfl, ey⟩
    obtain ⟨ky, hky, hy⟩ := paired_get g2 ey
    have tk : vsL ((leavesL ks).take (i + 1)) [] = ky.vs (vsL ((leavesL ks).take i) []) := by
      rw [List.take_add_one, hky, vsL_append]
      rfl
    have hy2 := KdAt.tups (same_tups s2) hy
    refine ⟨rfl, ?_⟩
    rcases leafL_cases (List.mem_of_getElem? hky) with ⟨x, rfl⟩ | ⟨x, rfl⟩
    · obtain ⟨a, rfl, ha⟩ := hy2
      refine ⟨_, rfl, _, _, _, _, rfl, rfl, SqT.of ha, rfl, rfl, _, rfl, iT tg_vv ?_⟩
      have ln : (vsL ((leavesL ks).take i) []).length + 1 ≤ 1000000 := by
        have h1 := vsL_len ((leavesL ks).take i) []
        have h2 := sizeL_leaf (ks := (leavesL ks).take i) fun q hq => leafL_cases (List.mem_of_mem_take hq)
        rw [List.length_take] at h2
        simp only [List.length_nil] at h1
        omega
      refine ⟨_, rfl, _, _, _, _, rfl, rfl, SqT.of ha, rfl, _, (.inr x), rfl, gd2, size_line (by rw [List.length_map]; omega), fun b o z => ?_, ?_⟩
      · rw [upd_ne (ne_of_none z hd)]
        exact s2 _ _ z
      · rw [upd_same, flag_put, tk]
        rfl
    · obtain ⟨a, rfl, ha⟩ := hy2
      refine ⟨_, rfl, _, _, _, _, rfl, rfl, SqT.of ha, rfl, rfl, _, rfl, iF tg_cv ?_⟩
      exact ⟨s2, by rw [tk]; exact gd2⟩
  · rintro H' ⟨s2, gd2⟩
    have e : (leavesL ks).take ls.length = leavesL ks := by rw [Paired.length g2, List.take_length]
    rw [e, vsL_leavesL] at gd2
    refine ⟨d, _, rfl, gd2, fun q2 hq2 => ?_⟩
    rw [flag_keys]
    exact k _ _ ((S1.trans s2).trans (same_new hq2)) ((S1.trans s2).free hq2) upd_same
end
end L3

namespace L3
open PySem PySem.Spec PyProof.Rows L2 LamX
/-! what stays when only tables change; tables stay when the tape moves -/
theorem dk_ne_code {c : Addr} {q : Str} (kvs : List (Key × V)) : CodeO c q ≠ .dK kvs := fun z => by
  unfold CodeO at z
  cases z
theorem tabs_ext {K : PySem.W.Frag} {t c : Addr} {b : Nat} {H H' : Hp} {T : List (Addr × Str)} (h : Tabs T H) (e : Ext t H H') (tp : Tape K H t c b) : Tabs T H' := fun p hp => by
  obtain ⟨ps, h1, h2, h3⟩ := h p hp
  obtain ⟨kvs, hd⟩ := tp.dict
  refine ⟨ps, e _ _ (fun z => by rw [z, hd] at h1; cases h1) h1, h2, fun pos cv hc => ?_⟩
  obtain ⟨c0, e1, e2⟩ := h3 pos cv hc
  exact ⟨c0, e1, e _ _ (fun z => by rw [z, hd] at e2; exact dk_ne_code _ (Option.some.inj e2).symm) e2⟩
theorem tape_extN {K : PySem.W.Frag} {t c : Addr} {b : Nat} {H H' : Hp} (h : Tape K H t c b) (e : ExtN H H') : Tape K H' t c b := by
  obtain ⟨p, l, ns, h1, h2, h3⟩ := h
  refine ⟨p, l, ns, e _ _ h1 (fun ps z => by cases z), ?_, h3⟩
  rcases h2 with (h | ⟨o, h⟩) | h
  · exact .inl (.inl (e _ _ h fun ps z => by cases z))
  · exact .inl (.inr ⟨o, e _ _ h fun ps z => by cases z⟩)
  · exact .inr h
theorem kp_extN {t : Addr} {H H' : Hp} (e : ExtN H H') : Kp t H H' := ⟨fun a xs h => e _ _ h (fun ps z => by cases z), fun a xs h => e _ _ h (fun ps z => by cases z), fun a kvs _ h => e _ _ h (fun ps z => by cases z)⟩
/-- all but the tape and the tables is kept -/
def XtN (t : Addr) (H H' : Hp) : Prop := ∀ b o, b ≠ t → H b = some o → (∀ ps, o ≠ .tbl ps) → H' b = some o
theorem XtN.ext {t : Addr} {H H' : Hp} (e : Ext t H H') : XtN t H H' := fun b o n h _ => e b o n h
theorem XtN.extN {t : Addr} {H H' : Hp} (e : ExtN H H') : XtN t H H' := fun b o _ h n => e b o h n
theorem XtN.same {t : Addr} {H H' : Hp} (e : Same H H') : XtN t H H' := fun b o _ h _ => e b o h
theorem XtN.trans {t : Addr} {H H1 H2 : Hp} (a : XtN t H H1) (b : XtN t H1 H2) : XtN t H H2 := fun c o n h m => b c o n (a c o n h m) m
theorem XtN.lst {t : Addr} {H H' : Hp} (e : XtN t H H') {a : Addr} {xs : List V} (n : a ≠ t) (h : H a = some (.lst xs)) : H' a = some (.lst xs) := e a _ n h fun ps z => by cases z
theorem XtN.kp {K : PySem.W.Frag} {t c : Addr} {b : Nat} {H H' : Hp} (e : XtN t H H') (T : Tape K H t c b) : Kp t H H' := by
  obtain ⟨kvs, h⟩ := T.dict
  exact ⟨fun a xs g => e a _ (fun z => by rw [z, h] at g; cases g) g (fun ps z => by cases z), fun a xs g => e a _ (fun z => by rw [z, h] at g; cases g) g (fun ps z => by cases z), fun a kvs n g => e a _ n g (fun ps z => by cases z)⟩
end L3

namespace L3
open PySem L2 RT
/-- a need: the name of a role, its kinds -/
structure Nd where
  nm : Str
  ks : List Kd
def Nd.dat (n : Nd) : PyData := .tuple (.str n.nm :: n.ks.map Kd.dat)
def NdAt (H : Hp) (v : V) (n : Nd) : Prop := ∃ (a : Addr) (vs : List V), v = .ref a ∧ H a = some (.tup (.str n.nm :: vs)) ∧ KdsAt H vs n.ks
abbrev NdsAt (H : Hp) (vs : List V) (ns : List Nd) : Prop := Paired (NdAt H) vs ns
theorem NdAt.tups {H H' : Hp} (e : Tups H H') {v : V} {n : Nd} (h : NdAt H v n) : NdAt H' v n := by
  obtain ⟨a, vs, e1, e2, e3⟩ := h
  exact ⟨a, vs, e1, e _ _ e2, KdsAt.tups e e3⟩
theorem NdsAt.tups {H H' : Hp} (e : Tups H H') {vs : List V} {ns : List Nd} (h : NdsAt H vs ns) : NdsAt H' vs ns := by
  induction h with
  | nil => exact .nil
  | cons a _ ih => exact .cons (a.tups e) ih
theorem KdAt.daN {t : Addr} {H : Hp} : ∀ {k : Kd} {v : V}, KdAt H v k → Da t H v k.dat
  | .var x, _, ⟨a, e, q⟩ => by subst e; exact .tup q (.cons (.str _) (.cons (.str _) .nil))
  | .con x, _, ⟨a, e, q⟩ => by subst e; exact .tup q (.cons (.str _) (.cons (.str _) .nil))
  | .app _ _, _, ⟨a, u, z, e, q, h1, h2⟩ => by subst e; exact .tup q (.cons (.str _) (.cons h1.daN (.cons h2.daN .nil)))
theorem KdsAt.daN {t : Addr} {H : Hp} : ∀ {ks : List Kd} {vs : List V}, KdsAt H vs ks → DaAll t H vs (ks.map Kd.dat)
  | [], _, .nil => .nil
  | _ :: _, _, .cons a b => .cons a.daN (KdsAt.daN b)
theorem NdAt.da {t : Addr} {H : Hp} {v : V} {n : Nd} (h : NdAt H v n) : Da t H v n.dat := by
  obtain ⟨a, vs, rfl, e2, e3⟩ := h
  exact .tup e2 (.cons (.str _) (KdsAt.daN e3))
/-- whether any value is a need -/
def isNeedD : PyData → Bool
  | .tuple [a, b] => isNameD a && isKindD b
  | .tuple [a, b, c] => isNameD a && (isKindD b && isKindD c)
  | _ => false
theorem psz_mem : ∀ {ds : List PyData} {d : PyData}, d ∈ ds → psz d ≤ pszL ds
  | e :: r, d, h => by
    simp only [pszL]
    rcases List.mem_cons.mp h with rfl | h
    · omega
    · have := psz_mem h
      omega
theorem da_atN {t : Addr} {H : Hp} : ∀ {xs : List V} {ds : List PyData} {i : Nat} {y : V}, DaAll t H xs ds → xs[i]? = some y → ∃ d, ds[i]? = some d ∧ Da t H y d
  | [], _, _, _, .nil, h => by cases h
  | _ :: _, _ :: _, 0, _, .cons a _, h => ⟨_, rfl, by cases h; exact a⟩
  | _ :: _, _ :: _, i + 1, _, .cons _ r, h => da_atN (i := i) r h
section
variable {P : Program} {w : World} {K : PySem.W.Frag} {mg : Str → Option Value} {base : Heap} {bA : Addr} {es : Array DictEntry} {nb : Nat}
abbrev s_is_need : Stmt := topS 23
abbrev N_is_need : List Str := ["value", "kind"]
theorem sc_is_need : FnScope N_is_need ["value"] (defScope s_is_need) := ⟨rfl, rfl, rfl, by decide +kernel, rfl, by decide +kernel, by decide +kernel⟩
def spNeed : Sp := fun vs H Q _ => ∃ (t : Addr) (v : V) (d : PyData), vs = [v] ∧ Da t H v d ∧ okD d = true ∧ psz d ≤ 900000 ∧ ∀ H', Same H H' → Q (.bl (isNeedD d)) H'
theorem ok_need {f : Addr} {fd : FuncData} (F : Fun K "is_need" "is_need" s_is_need f fd) (B : Bl mg) (B9 : Bl9 mg) (D_is_name : Kn P w K mg base 2 "is_name" ["value"] spName) (D_is_kind : Kn P w K mg base 4 "is_kind" ["value"] spKind) : FnOk P w K mg base CX0 5 f fd ["value"] spNeed := by
  refine F.ok sc_is_need (fun vs H Q E h => ?_) (fun cdv A outer s H vs Q E hr h => ?_)
  · obtain ⟨t, v, d, rfl, _⟩ := h
    rfl
  · obtain ⟨t, v, d, rfl, hd, hok, hsz, k⟩ := h
    have hr_is_name : Room 2 _ := hr.mono (by decide)
    have hr_is_kind : Room 4 _ := hr
    refine ⟨_, (pss_cons (ps_if (PW.pt (pw_or (pt_not (pt_val (pe_callB call_isi (by rfl) B9.isinstance PyProof.Rows.boot_isinstance (pa_cons (pv 0) (pa_cons (pe_bltn (v := .ty "tuple") (by rfl) B9.tuple (by decide +kernel) rfl) pa_nil))))) (pw_or1 (pt_not (pt_chain op_le op_le pe_int (pe_callB call_len (by rfl) B.len PySem.boot_len (pa_cons (pv 0) pa_nil)) pe_int)))))
  (pss_one (ps_ret pe_bl))
  pss_nil)
  (pss_one (ps_ret (pe_and (pe_kn D_is_name hr_is_name (pa_cons (pe_ix ix_tup (pv 0) pe_int (fun _ _ => rfl)) pa_nil)) (pe_one (pe_callB (cr_all rfl) (by rfl) B9.all (by decide +kernel) (pa_cons (pe_lc (own := [("kind", 1)]) rfl sc_is_need.nd (pi_tup (pe_slice sl_tup (pv 0) (po_some pe_int) po_none)) (blkOk_by (N := N_is_need) (sc := (defScope s_is_need)) (own := [("kind", 1)]) (by decide +kernel)) (fun _ _ _ _ _ => (pg_name (i := 1) sc_is_need.nd rfl (Or.inl rfl))) (fun _ _ _ _ _ => pts_nil) (fun _ _ _ _ _ => (pe_kn D_is_kind hr_is_kind (pa_cons (pv 1) pa_nil)))) pa_nil))))))), ?_⟩
    refine ⟨_, rfl, v, .ty "tuple", .type (tyName d), .type "tuple", isTup d, rfl, .ty "tuple", hd.ty, kit_tup d, ?_⟩
    refine ⟨_, rfl, ?_⟩
    have no : isNeedD d = false → Q (.bl false) H := fun e => by
      have := k H (Same.refl H)
      rw [e] at this
      exact this
    cases ht : isTup d with
    | false =>
      refine iT rfl (iT rfl ?_)
      refine no ?_
      cases d with
      | tuple _ => cases ht
      | _ => rfl
    | true =>
      obtain ⟨ds, rfl⟩ : ∃ es, d = .tuple es := by
        cases d with
        | tuple es => exact ⟨es, rfl⟩
        | _ => cases ht
      refine iF rfl ?_
      cases id hd with
      | @tup a xs _ ga daa =>
        have le := daa.len
        refine ⟨_, rfl, .ref a, xs.length, rfl, .inr ⟨xs, SqT.of ga, rfl⟩, _, _, rfl, rfl, _, rfl, ?_⟩
        by_cases c1 : 2 ≤ ds.length ∧ ds.length ≤ 3
        · refine iT (decide_eq_true (by omega)) ?_
          refine ⟨_, _, rfl, rfl, _, rfl, ?_⟩
          refine iF (by rw [decide_eq_true (by omega)]; rfl) ?_
          cases ds with
          | nil => simp at c1
          | cons d0 ks =>
          cases daa with
          | @cons x0 us _ _ q0 da1 =>
          have ho : okL (d0 :: ks) = true := by simpa only [okD] using hok
          have hz : 1 + pszL (d0 :: ks) ≤ 900000 := by simpa only [psz] using hsz
          have lk : ks.length = 1 ∨ ks.length = 2 := by simp only [List.length_cons] at c1; omega
          have e0 : isNeedD (.tuple (d0 :: ks)) = (isNameD d0 && ks.all isKindD) := by
            match ks, lk with
            | [b], _ => simp [isNeedD]
            | [b, c], _ => simp [isNeedD]
          rw [e0] at k
          refine ⟨_, rfl, a, _, 0, _, rfl, rfl, SqT.of ga, at_ofG (j := 0) rfl rfl, t, _, d0, rfl, q0, fun x z => ?_, ?_⟩
          · have := okL_mem ho (List.mem_cons_self (a := d0) (l := ks))
            rw [z] at this
            have := okD_str this
            omega
          refine ⟨_, rfl, ?_⟩
          cases hn : isNameD d0 with
          | false =>
            rw [hn] at k
            exact iF rfl (k H (Same.refl H))
          | true =>
            rw [hn, Bool.true_and] at k
            refine iT rfl ?_
            refine ⟨_, rfl, _, rfl, a, _, rfl, SqT.of ga, fun z => ?_, fun p hp => ?_⟩
            · have := z.1
              simp [HT.sIx] at this
              try omega
            rw [cut_tail, List.tail_cons]
            have s1 := same_new (o := .tup us) hp
            have lu := da1.len
            refine ⟨p, rfl, ⟨_, SqT.of upd_same⟩, fun D hD => lc_it (J := Itt K p) (g := gName 1) walk_tup (fun i H' => Same H H' ∧ H' p = some (.tup us) ∧ H' D = some (.lst ((ks.take i).map fun e => V.bl (isKindD e)))) ⟨s1.trans (same_new hD), same_new hD _ _ upd_same, upd_same⟩ (fun i H' _ h => SqT.of h.2.1) ?_ ?_⟩
            · rintro i y H2 H3 hi ⟨s2, g2, g3⟩ ⟨rfl, ey⟩
              obtain ⟨e, ee, de⟩ := da_atN da1 ey
              have me := List.mem_of_getElem? ee
              refine ⟨rfl, ?_⟩
              refine ⟨_, rfl, t, y, e, rfl, de.kp (kp_same s2), okL_mem ho (List.mem_cons_of_mem _ me), ?_, fun H4 s4 => ?_⟩
              · have := psz_mem me
                simp only [pszL] at hz
                omega
              have g4 := s4 _ _ g3
              have nD : D ≠ p := fun z => by rw [z, upd_same] at hD; cases hD
              refine ⟨_, g4, szl (by rw [List.length_map, List.length_take]; omega), fun b o z => ?_, ?_, ?_⟩
              · rw [upd_ne (fun q => by rw [q] at z; rw [s1 _ _ z] at hD; cases hD)]
                exact s4 _ _ (s2 _ _ z)
              · rw [upd_ne (Ne.symm nD)]
                exact s4 _ _ g2
              · rw [upd_same, List.take_add_one, ee, List.map_append]
                rfl
            · rintro H2 ⟨s2, g2, g3⟩
              rw [lu, List.take_length] at g3
              refine ⟨D, ks.map isKindD, rfl, SqL.of (by rw [g3, List.map_map]; rfl), ?_⟩
              rw [List.all_map]
              exact k H2 s2
        · have e : isNeedD (.tuple ds) = false := by
            match ds, c1 with
            | [], _ => rfl
            | [_], _ => rfl
            | [_, _], c => exact absurd (by simp) c
            | [_, _, _], c => exact absurd (by simp) c
            | _ :: _ :: _ :: _ :: _, _ => rfl
          by_cases c2 : 2 ≤ ds.length
          · refine iT (decide_eq_true (by omega)) ?_
            refine ⟨_, _, rfl, rfl, _, rfl, ?_⟩
            exact iT (by rw [decide_eq_false (by omega)]; rfl) (no e)
          · refine iF (decide_eq_false (by omega)) ?_
            exact ⟨_, rfl, iT rfl (no e)⟩
end
end L3

namespace L3
open PySem L2
/-- a walk, whatever is done at each of its turns -/
theorem it_gen {J : It} {n : Nat} {G : Hp → Prop} {Y : Nat → Hp → V → Hp → Prop} (w : Walk J n G Y) {B : V → Hp → (Hp → Prop) → Prop} {H1 : Hp} {Qd : Hp → Prop} (Pv : Nat → Hp → Prop) (h0 : Pv 0 H1) (hG : ∀ i H, i ≤ n → Pv i H → G H)
    (hs : ∀ i x H H', i < n → Pv i H → Y i H x H' → B x H' (Pv (i + 1))) (hd : ∀ H, Pv n H → Qd H) :
    ∃ W : Nat → Nat → Hp → Prop, (∃ m, W 0 m H1) ∧ ∀ i m H, W i m H → (J.stop i H ∧ Qd H) ∨ (J.go i H ∧ ∃ Nx : Hp → Prop, (∀ H', Nx H' → ∃ m', m' < m ∧ W (i + 1) m' H') ∧ ∀ x H', J.yld i H x H' → B x H' Nx) := by
  refine ⟨fun i m H => m = n - i ∧ i ≤ n ∧ Pv i H, ⟨n, by simp, Nat.zero_le _, h0⟩, ?_⟩
  rintro i m H ⟨rfl, hi, p⟩
  have q := hG i H hi p
  by_cases hlt : i < n
  · exact .inr ⟨w.goes i H hlt q, Pv (i + 1), fun H' p' => ⟨n - (i + 1), by omega, rfl, hlt, p'⟩, fun x H' y => hs i x H H' hlt p (w.yields i H x H' hlt q y)⟩
  · have e : i = n := by omega
    subst e
    exact .inl ⟨w.stops H q, hd H p⟩
end L3

namespace L3
open PySem L2 RT
def Nd.put (n : Nd) (y : By) : Nd := ⟨n.nm, n.ks.map (·.put y)⟩
def Nd.two (n : Nd) : Prop := n.ks.length ≤ 2
theorem not_tail {α : Type} {x : α} {xs : List α} : ¬ (HT.sIx (x :: xs).length 0 (some 1) = 0 ∧ HT.sIx (x :: xs).length (x :: xs).length none = (x :: xs).length) := fun z => by
  have := z.1
  simp [HT.sIx] at this
  try omega
section
variable {P : Program} {w : World} {K : PySem.W.Frag} {mg : Str → Option Value} {base : Heap}
abbrev s_put_need : Stmt := topS 24
abbrev N_put_need : List Str := ["need", "by", "kind"]
theorem sc_put_need : FnScope N_put_need ["need", "by"] (defScope s_put_need) := ⟨rfl, rfl, rfl, by decide +kernel, rfl, by decide +kernel, by decide +kernel⟩
def spPutN (n : Nat) : Sp := fun vs H Q _ => ∃ (v : V) (d : Addr) (nd : Nd) (kvs : List (Key × V)) (by' : By), vs = [v, .ref d] ∧ NdAt H v nd ∧ (∀ k ∈ nd.ks, k.fit n) ∧ 1 ≤ nd.ks.length ∧ nd.ks.length ≤ 2 ∧ H d = some (.dK kvs) ∧ ByAt H kvs by' ∧ ∀ H' v', Same H H' → NdAt H' v' (nd.put by') → Q v' H'
theorem ok_putn {n : Nat} {f : Addr} {fd : FuncData} (F : Fun K "put_need" "put_need" s_put_need f fd) (B : Bl mg) (D_put : Kn P w K mg base (n + 1) "put" ["kind", "by"] (spPutK K n)) : FnOk P w K mg base CX0 (n + 2) f fd ["need", "by"] (spPutN n) := by
  refine F.ok sc_put_need (fun vs H Q E h => ?_) (fun cdv A outer s H vs Q E hr h => ?_)
  · obtain ⟨v, d, nd, kvs, by', rfl, _⟩ := h
    rfl
  · obtain ⟨v, d, nd, kvs, by', rfl, hv, hf, h1, h2, gd, hb, k⟩ := h
    have hr_put : Room (n + 1) _ := hr
    refine ⟨_, (pss_one (ps_ret (pe_op op_catT (pe_tup (pa_cons (pe_ix ix_tup (pv 0) pe_int (fun _ _ => rfl)) pa_nil)) (pe_callTy call_tuple_of (by rfl) B.tuple (by decide +kernel) (pa_cons (pe_lc (own := [("kind", 2)]) rfl sc_put_need.nd (pi_tup (pe_slice sl_tup (pv 0) (po_some pe_int) po_none)) (blkOk_by (N := N_put_need) (sc := (defScope s_put_need)) (own := [("kind", 2)]) (by decide +kernel)) (fun _ _ _ _ _ => (pg_name (i := 2) sc_put_need.nd rfl (Or.inl rfl))) (fun _ _ _ _ _ => pts_nil) (fun _ _ _ _ _ => (pe_kn D_put hr_put (pa_cons (pv 2) (pa_cons (pv 1) pa_nil))))) pa_nil))))), ?_⟩
    obtain ⟨a, us, rfl, ga, hk⟩ := id hv
    have lu : us.length = nd.ks.length := Paired.length hk
    refine ⟨_, rfl, a, _, 0, _, rfl, rfl, SqT.of ga, at_ofG (j := 0) rfl rfl, slz rfl, fun q hq => ?_⟩
    have s1 := same_new (o := .tup [.str nd.nm]) hq
    refine ⟨_, rfl, _, rfl, a, _, rfl, SqT.of (s1 _ _ ga), not_tail, fun p hp => ?_⟩
    rw [cut_tail, List.tail_cons]
    have s2 := s1.trans (same_new (o := .tup us) hp)
    have gq : (upd (upd H q (.tup [.str nd.nm])) p (.tup us)) q = some (.tup [.str nd.nm]) := same_new hp _ _ upd_same
    have gp : (upd (upd H q (.tup [.str nd.nm])) p (.tup us)) p = some (.tup us) := upd_same
    generalize upd (upd H q (.tup [.str nd.nm])) p (.tup us) = H1 at s2 gq gp ⊢
    refine ⟨p, rfl, ⟨_, SqT.of gp⟩, fun D hD => lc_it (J := Itt K p) (g := gName 2) walk_tup (fun i H' => Same H1 H' ∧ ∃ ws, H' D = some (.lst ws) ∧ KdsAt H' ws ((nd.ks.take i).map (·.put by'))) ⟨same_new hD, [], upd_same, .nil⟩ (fun i H' _ h => SqT.of (h.1 _ _ gp)) ?_ ?_⟩
    · rintro i y H2 H3 hi ⟨s3, ws, g3, w3⟩ ⟨rfl, ey⟩
      obtain ⟨ky, hky, hy⟩ := paired_get hk ey
      have S3 := s2.trans s3
      refine ⟨rfl, ?_⟩
      refine ⟨_, rfl, _, rfl, y, d, ky, kvs, by', rfl, hy.tups (same_tups S3), hf _ (List.mem_of_getElem? hky), S3 _ _ gd, ByAt.tups (same_tups S3) hb, fun H4 v4 s4 k4 => ?_⟩
      have g4 := s4 _ _ g3
      have lws : ws.length ≤ 2 := by
        rw [Paired.length w3, List.length_map, List.length_take]
        omega
      refine ⟨ws, g4, szl (by omega), fun b o z => ?_, ws ++ [v4], upd_same, ?_⟩
      · rw [upd_ne (ne_of_none z hD)]
        exact s4 _ _ (s3 _ _ z)
      · have tp : Tups H4 (upd H4 D (.lst (ws ++ [v4]))) := Tups.put g4 nofun
        rw [List.take_add_one, hky, List.map_append]
        exact Paired.snoc (KdsAt.tups tp (KdsAt.tups (same_tups s4) w3)) (k4.tups tp)
    · rintro H2 ⟨s3, ws, g3, w3⟩
      rw [lu, List.take_length] at w3
      have lws : ws.length = nd.ks.length := by rw [Paired.length w3, List.length_map]
      refine ⟨D, ws, rfl, .inl ⟨SqL.of g3, fun l hl => ?_⟩⟩
      have s4 := same_new (o := .tup ws) hl
      refine ⟨q, l, _, _, rfl, rfl, SqT.of (s4 _ _ (s3 _ _ gq)), SqT.of upd_same, by simp, by rw [sizeLine_eq]; show 1 + ws.length ≤ _; omega, fun z => ?_, fun _ r hr2 => ?_⟩
      · rw [z] at lws
        simp at lws
        omega
      · have s5 := same_new (o := .tup ([.str nd.nm] ++ ws)) hr2
        exact k _ _ (s2.trans (s3.trans (s4.trans s5))) ⟨r, ws, rfl, upd_same, KdsAt.tups (same_tups (s4.trans s5)) w3⟩
abbrev s_put_needs : Stmt := topS 25
abbrev N_put_needs : List Str := ["needs", "by", "need"]
theorem sc_put_needs : FnScope N_put_needs ["needs", "by"] (defScope s_put_needs) := ⟨rfl, rfl, rfl, by decide +kernel, rfl, by decide +kernel, by decide +kernel⟩
def Ndok (n : Nat) (nd : Nd) : Prop := (∀ k ∈ nd.ks, k.fit n) ∧ 1 ≤ nd.ks.length ∧ nd.ks.length ≤ 2
def spPutNs (K : PySem.W.Frag) (n : Nat) : Sp := fun vs H Q _ => ∃ (a d : Addr) (us : List V) (nds : List Nd) (kvs : List (Key × V)) (by' : By), vs = [.ref a, .ref d] ∧ SqT K H a us ∧ NdsAt H us nds ∧ (∀ nd ∈ nds, Ndok n nd) ∧ nds.length ≤ 1000 ∧ H d = some (.dK kvs) ∧ ByAt H kvs by' ∧
  ∀ H' l ws, Same H H' → H' l = some (.lst ws) → NdsAt H' ws (nds.map (·.put by')) → Q (.ref l) H'
theorem ok_putns {n : Nat} {f : Addr} {fd : FuncData} (F : Fun K "put_needs" "put_needs" s_put_needs f fd) (D_put_need : Kn P w K mg base (n + 2) "put_need" ["need", "by"] (spPutN n)) : FnOk P w K mg base CX0 (n + 3) f fd ["needs", "by"] (spPutNs K n) := by
  refine F.ok sc_put_needs (fun vs H Q E h => ?_) (fun cdv A outer s H vs Q E hr h => ?_)
  · obtain ⟨a, d, us, nds, kvs, by', rfl, _⟩ := h
    rfl
  · obtain ⟨a, d, us, nds, kvs, by', rfl, ga, hk, hf, h1000, gd, hb, k⟩ := h
    have hr_put_need : Room (n + 2) _ := hr
    refine ⟨_, (pss_one (ps_ret (pe_lc (own := [("need", 2)]) rfl sc_put_needs.nd (pi_tup (pv 0)) (blkOk_by (N := N_put_needs) (sc := (defScope s_put_needs)) (own := [("need", 2)]) (by decide +kernel)) (fun _ _ _ _ _ => (pg_name (i := 2) sc_put_needs.nd rfl (Or.inl rfl))) (fun _ _ _ _ _ => pts_nil) (fun _ _ _ _ _ => (pe_kn D_put_need hr_put_need (pa_cons (pv 2) (pa_cons (pv 1) pa_nil))))))), ?_⟩
    have lu : us.length = nds.length := Paired.length hk
    refine ⟨_, rfl, a, rfl, ⟨_, ga⟩, fun D hD => lc_it (J := Itt K a) walk_tup (fun i H' => Same H H' ∧ ∃ ws, H' D = some (.lst ws) ∧ NdsAt H' ws ((nds.take i).map (·.put by'))) ⟨same_new hD, [], upd_same, .nil⟩ (fun i H' _ h => SqT.same' h.1 ga) ?_ ?_⟩
    · rintro i y H2 H3 hi ⟨s3, ws, g3, w3⟩ ⟨rfl, ey⟩
      obtain ⟨ky, hky, hy⟩ := paired_get hk ey
      refine ⟨rfl, ?_⟩
      have ok := hf _ (List.mem_of_getElem? hky)
      refine ⟨_, rfl, _, rfl, y, d, ky, kvs, by', rfl, hy.tups (same_tups s3), ok.1, ok.2.1, ok.2.2, s3 _ _ gd, ByAt.tups (same_tups s3) hb, fun H4 v4 s4 k4 => ?_⟩
      have g4 := s4 _ _ g3
      have lws : ws.length ≤ 1000 := by
        rw [Paired.length w3, List.length_map, List.length_take]
        omega
      refine ⟨ws, g4, szl (by omega), fun b o z => ?_, ws ++ [v4], upd_same, ?_⟩
      · rw [upd_ne (ne_of_none z hD)]
        exact s4 _ _ (s3 _ _ z)
      · have tp : Tups H4 (upd H4 D (.lst (ws ++ [v4]))) := Tups.put g4 nofun
        rw [List.take_add_one, hky, List.map_append]
        exact Paired.snoc (NdsAt.tups tp (NdsAt.tups (same_tups s4) w3)) (k4.tups tp)
    · rintro H2 ⟨s3, ws, g3, w3⟩
      rw [lu, List.take_length] at w3
      exact k H2 D ws s3 g3 w3
abbrev s_kinds_of : Stmt := topS 26
abbrev N_kinds_of : List Str := ["needs", "need", "kind"]
theorem sc_kinds_of : FnScope N_kinds_of ["needs"] (defScope s_kinds_of) := ⟨rfl, rfl, rfl, by decide +kernel, rfl, by decide +kernel, by decide +kernel⟩
def ksOf (nds : List Nd) : List Kd := nds.flatMap (·.ks)
def spKindsOf (K : PySem.W.Frag) : Sp := fun vs H Q _ => ∃ (a : Addr) (us : List V) (nds : List Nd), vs = [.ref a] ∧ SqT K H a us ∧ NdsAt H us nds ∧ (∀ nd ∈ nds, nd.ks.length ≤ 2) ∧ nds.length ≤ 1000 ∧
  ∀ H' l ws, Same H H' → H' l = some (.lst ws) → KdsAt H' ws (ksOf nds) → Q (.ref l) H'
theorem ok_kindsof {f : Addr} {fd : FuncData} (F : Fun K "kinds_of" "kinds_of" s_kinds_of f fd) : FnOk P w K mg base CX0 1 f fd ["needs"] (spKindsOf K) := by
  refine F.ok sc_kinds_of (fun vs H Q E h => ?_) (fun cdv A outer s H vs Q E hr h => ?_)
  · obtain ⟨a, us, nds, rfl, _⟩ := h
    rfl
  · obtain ⟨a, us, nds, rfl, ga, hk, hf, h1000, k⟩ := h
    refine ⟨_, (pss_one (ps_ret (pe_lc2 (own := [("need", 1), ("kind", 2)]) (vs1 := [2]) rfl sc_kinds_of.nd (pi_tup (pv 0)) (blkOk_by (N := N_kinds_of) (sc := (defScope s_kinds_of)) (own := [("need", 1), ("kind", 2)]) (by decide +kernel)) (by decide) (fun _ _ _ _ _ => (pg_name (i := 1) sc_kinds_of.nd rfl (Or.inl rfl))) (fun _ _ _ _ _ => pts_nil) (fun _ _ _ _ _ => (show PI _ _ _ (iTup K (tSl (rSlT K) (tVar 1) (tPart (tC (V.int 1))) tNoPart)) from pi_tup (pe_slice (show SlR _ (rSlT K) from sl_tup) (pv 1) (po_some pe_int) po_none))) (fun _ _ _ _ _ => (pg_name (i := 2) sc_kinds_of.nd rfl (Or.inl rfl))) (fun _ _ _ _ _ => pts_nil) (fun _ _ _ _ _ => (pv 2))))), ?_⟩
    have lu : us.length = nds.length := Paired.length hk
    have lks : ∀ i, (ksOf (nds.take i)).length ≤ 2 * i := by
      intro i
      induction i with
      | zero => simp [ksOf]
      | succ i ih =>
        rw [List.take_add_one]
        cases e : nds[i]? with
        | none => simp only [Option.toList, List.append_nil]; omega
        | some nd =>
          have := hf nd (List.mem_of_getElem? e)
          unfold ksOf at ih ⊢
          rw [List.flatMap_append, List.length_append]
          simp only [Option.toList, List.flatMap_cons, List.flatMap_nil, List.append_nil]
          omega
    refine ⟨_, rfl, a, rfl, ⟨_, ga⟩, fun D hD => it_gen (J := Itt K a) walk_tup (fun i H' => Same H H' ∧ ∃ ws, H' D = some (.lst ws) ∧ KdsAt H' ws (ksOf (nds.take i))) ⟨same_new hD, [], upd_same, .nil⟩ (fun i H' _ h => SqT.same' h.1 ga) ?_ ?_⟩
    · rintro i y H2 H3 hi ⟨s3, ws, g3, w3⟩ ⟨rfl, ey⟩
      obtain ⟨nd, hnd, hy⟩ := paired_get hk ey
      obtain ⟨b, xs, rfl, gb, hks⟩ := hy
      have lx : xs.length = nd.ks.length := Paired.length hks
      have l2 := hf nd (List.mem_of_getElem? hnd)
      refine ⟨rfl, ?_⟩
      refine ⟨_, rfl, _, rfl, b, _, rfl, SqT.of (s3 _ _ gb), not_tail, fun p hp => ?_⟩
      rw [cut_tail, List.tail_cons]
      have s4 := same_new (o := .tup xs) hp
      have S4 := s3.trans s4
      have g4 := s4 _ _ g3
      have gp : (upd H3 p (.tup xs)) p = some (.tup xs) := upd_same
      have w4 := KdsAt.tups (same_tups s4) w3
      have ei : ksOf (nds.take (i + 1)) = ksOf (nds.take i) ++ nd.ks := by
        unfold ksOf
        rw [List.take_add_one, hnd, List.flatMap_append]
        simp
      have li := lks i
      generalize upd H3 p (.tup xs) = H4 at s4 S4 g4 gp w4 ⊢
      refine ⟨p, rfl, ⟨_, SqT.of gp⟩, it_gen (J := Itt K p) walk_tup (fun j H' => Same H H' ∧ H' p = some (.tup xs) ∧ ∃ ws, H' D = some (.lst ws) ∧ KdsAt H' ws (ksOf (nds.take i) ++ nd.ks.take j)) ⟨S4, gp, ws, g4, by rw [List.take_zero, List.append_nil]; exact w4⟩ (fun j H' _ h => SqT.of h.2.1) ?_ ?_⟩
      · rintro j z H5 H6 hj ⟨s5, gp5, ws5, g5, w5⟩ ⟨rfl, ez⟩
        obtain ⟨kz, hkz, hz⟩ := paired_get hks ez
        refine ⟨rfl, ?_⟩
        have l5 : ws5.length ≤ 3000 := by
          rw [Paired.length w5, List.length_append, List.length_take]
          omega
        refine ⟨_, rfl, ws5, g5, szl (by omega), fun b o q => ?_, ?_, ws5 ++ [z], upd_same, ?_⟩
        · rw [upd_ne (ne_of_none q hD)]
          exact s5 _ _ q
        · rw [upd_ne (fun q => by rw [q, g5] at gp5; cases gp5)]
          exact gp5
        · have tp : Tups H6 (upd H6 D (.lst (ws5 ++ [z]))) := Tups.put g5 nofun
          rw [List.take_add_one, hkz, ← List.append_assoc]
          exact Paired.snoc (KdsAt.tups tp w5) ((hz.tups (same_tups s5)).tups tp)
      · rintro H5 ⟨s5, gp5, ws5, g5, w5⟩
        rw [lx, List.take_length, ← ei] at w5
        exact ⟨s5, ws5, g5, w5⟩
    · rintro H2 ⟨s3, ws, g3, w3⟩
      rw [lu, List.take_length] at w3
      exact k H2 D ws s3 g3 w3
end
end L3

/-! C(e, .., *y), C a class of the module or a local name that holds one -/
namespace L3
open PySem PySem.Spec PyProof.Rows L2 StX
section
variable {X : Cx} {CX : CXT} {k i : Nat} {f C : Addr} {sp : Sp} {E : XK} {x : Str} {e : Expr} {es : List Expr} {t : TA} {p pos : Pos}
theorem pe_makeS2 (M : L2.Mk X.K C f) (F : FnR X.prog X.w X.K X.mg X.base CX k f sp) (hr : Room (k + 1) X.A) (hg : Gl X x) (hm : X.mg x = some (.ref C)) (hx : Passes CX X E) (ha : PA X (e :: es) t) (hdb : (x == ("__debug__" : Str)) = false := by decide)
    (he : starEach (e :: es) X.env = (false, eval e X.env) :: starEach es X.env := by rfl) (hst : (backTo pos (starEach es X.env)).any (·.1) = true := by rfl) : PE X (.Call (.Name x p) (e :: es) [] pos) (tMakeR C sp E t) := by
  refine ⟨fun pins s σ H Q I h => ?_⟩
  refine wpAny_Call_Name_kw (ld_glob I hg hm ?_ hdb)
  refine PySem.W.callWith_S2 (h₀ := X.base) I.ok.mod.kin M.kp (thn (ha.run pos pins s σ H _ I h) fun us s1 ⟨vs, H1, I1, r, q⟩ => ⟨I1.kIn, ?_⟩) he hst
  exact run_makeR M F hr hx I1 r q
def tMakeL (i : Nat) (C : Addr) (sp : Sp) (E : XK) (t : TA) : TE := fun σ H Q => σ[i]? = some (some (.ref C)) ∧ tMakeR C sp E t σ H Q
theorem pe_makeLS (M : L2.Mk X.K C f) (F : FnR X.prog X.w X.K X.mg X.base CX k f sp) (hr : Room (k + 1) X.A) (hN : X.N[i]? = some x) (hv : Vis X.env.scope x) (hx : Passes CX X E) (ha : PA X (e :: es) t) (hdb : (x == ("__debug__" : Str)) = false := by decide) (hcd : (x == ("__classdict__" : Str)) = false := by decide)
    (he : starEach (e :: es) X.env = (false, eval e X.env) :: starEach es X.env := by rfl) (hst : (backTo pos (starEach es X.env)).any (·.1) = true := by rfl) : PE X (.Call (.Name x p) (e :: es) [] pos) (tMakeL i C sp E t) := by
  refine ⟨fun pins s σ H Q I h => ?_⟩
  obtain ⟨hs, h⟩ := h
  refine wpAny_Call_Name_kw (thn ((pe_var (pos := p) hN hv hdb hcd).run pins s σ H (fun v H1 => v = .ref C ∧ H1 = H) I ⟨.ref C, hs, rfl, rfl⟩) fun u s1 ⟨v, H1, I1, r1, q1⟩ => ?_)
  obtain ⟨rfl, rfl⟩ := q1
  cases r1
  refine PySem.W.callWith_S2 (h₀ := X.base) I.ok.mod.kin M.kp (thn (ha.run pos pins s1 σ _ _ I1 h) fun us s2 ⟨vs, H2, I2, r, q⟩ => ⟨I2.kIn, ?_⟩) he hst
  exact run_makeR M F hr hx I2 r q
theorem pe_methR0 {o : Expr} {m : Str} {ta : TE} {apos : Pos} {pl : Sem Bool} (he : PE X o ta) (c : Cls X.K C) (hm : Meth X.K C m f) (F : FnR X.prog X.w X.K X.mg X.base CX k f sp) (hr : Room k X.A) (hx : Passes CX X E)
    (ht : eval (.Call (.Attribute o m apos) [] [] pos) X.env = (do
      let ov ← eval o X.env
      standAt apos.atName
      let (f, first) ← holding [ov] (getMethod ov m pl)
      callWith pos f first (backTo pos (starEach [] X.env)) (backToKw pos (keywordEach [] X.env))) := by rfl) :
    PE X (.Call (.Attribute o m apos) [] [] pos) (tMethR C m sp E ta tNil) := by
  refine ⟨fun pins s σ H Q I h => ?_⟩
  refine PySem.W.methodCall_KW (pl := pl) (thn (he.run pins s σ H _ I h) fun u s1 ⟨x, H1, I1, rx, a, dx, fs, ex, ea, l, q⟩ => ?_) ht
  subst ex
  obtain rfl : u = Value.ref a := rx
  refine getmeth_ok I1 ea c hm l ?_
  exact PySem.W.callWith_K0 (first := [.ref a]) I1.kIn hm.kp (wpAny_call (run_fnR (us := [.ref a]) (vs := [.ref a]) F hr hx I1 (.cons rfl .nil) q))
end
end L3

/-! a known function called by keywords alone -/
namespace L3
open PySem L2
structure KnK (P : Program) (w : World) (K : PySem.W.Frag) (mg : Str → Option Value) (base : Heap) (k : Nat) (x : Str) (ps : List Str) (sp : Sp) : Prop where
  ex : ∃ (f : Addr) (fd : FuncData), FnOk P w K mg base CX0 k f fd ps sp ∧ mg x = some (.ref f) ∧ PySem.W.keepIn K (.ref f) = true ∧ KBinds K fd ps ps (fun us ws => us ++ ws) (fun vs zs => vs ++ zs)
section
variable {X : Cx} {x : Str} {k : Nat} {ps : List Str} {sp : Sp} {kws : List Keyword} {tk : TA} {p pos : Pos}
theorem pe_knK (D : KnK X.prog X.w X.K X.mg X.base k x ps sp) (hr : Room k X.A) (hkw : PK X kws tk) (hg : Gl X x := by rfl) (hdb : (x == ("__debug__" : Str)) = false := by decide)
    (hall : (backToKw pos (keywordEach kws X.env)).all (·.1.isSome) = true := by rfl) (hks : (backToKw pos (keywordEach kws X.env)).filterMap (·.1) = ps := by rfl)
    (hpl : ((backTo pos (starEach [] X.env)).any (·.1) || (backToKw pos (keywordEach kws X.env)).any (·.1.isNone)) = false := by rfl) :
    PE X (.Call (.Name x p) [] kws pos) (fun σ H Q => tk σ H fun zs H2 => sp zs H2 Q E0) := by
  obtain ⟨f, fd, F, hm, hk, hb⟩ := D.ex
  refine ⟨fun pins s σ H Q I h => wpAny_Call_Name_kw (ld_glob I hg hm ?_ hdb)⟩
  refine PySem.W.callWith_KW0 (h₀ := X.base) I.ok.mod.kin hk hall (thn (hkw.run pos pins s σ H _ I h) fun ws s2 ⟨zs, H2, I2, rz, q2⟩ => ⟨I2.kIn, ?_⟩) hpl
  rw [hks]
  exact run_fnk (us := []) (vs := []) F hr hb pass0 I2 .nil rz q2
/-- a function of one parameter -/
theorem kbinds1 {K : PySem.W.Frag} {fd : FuncData} {x : Str} (h : ∀ (s : Shared) (v : Value), BindsTo s fd ⟨[v], []⟩ [(x, v)]) (h2 : ∀ (s : Shared) (v : Value), BindsTo s fd ⟨[], [(x, v)]⟩ [(x, v)]) : KBinds K fd [x] [x] (fun us ws => us ++ ws) (fun vs zs => vs ++ zs) where
  to := fun s us ws _ hl => by
    match us, ws, hl with
    | [], [w], _ => exact h2 s w
    | [u], [], _ => exact h s u
  rel := fun r rz => by
    induction r with
    | nil => exact rz
    | cons a b ih => exact .cons a ih
end
end L3

/-! own exceptions as values, over any built-in one: stores within __init__ -/
namespace L3
open PySem PySem.Spec PyProof.Rows L2
/-- an own class over a built-in exception, as the written part has it -/
structure Xc (K : PySem.W.Frag) (C : Addr) (bmB : List Value) (nw : String) : Prop where
  ini : PySem.W.excInitIn K C bmB nw = true
  ov : PySem.W.excOver K C bmB = true
  sa : PySem.W.findIn K (.ref C) "__setattr__" = some (some (.builtin "object.__setattr__"))
  kC : PySem.W.keepIn K (.ref C) = true
  dct : PySem.W.hasDictIn K C = true
theorem Xc.cls {K : PySem.W.Frag} {C : Addr} {bmB : List Value} {nw : String} (T : Xc K C bmB nw) : ∃ cd, PySem.W.clsIn K C = some cd ∧ cd.hasDict = true := by
  obtain ⟨cd, h1, h2⟩ := PySem.W.any_some T.dct
  exact ⟨cd, h1, h2⟩
section
variable {X : Cx} {pins : List (Addr × Obj)} {σ : L2.St} {H : Hp} {s : Shared} {a C dx : Addr} {f : Str} {y : V} {u : Value} {fs : List (Str × V)} {bmB : List Value} {B nw : String} {Q : Unit → Shared → Prop} {E : Value → Shared → Prop} {A : Around}
open Builtin Builtin.ObjectAttr in
theorem set_first (SF : StoreFacts B bmB "object.__setattr__" "object") (T : Xc X.K C bmB nw) (I : Inv X pins σ H s) (e : H a = some (exo a C none)) (ht : PySem.W.takerIn X.K C f = some none) (ry : RelV y u)
    (h : ∀ dx s', H dx = none → dx ≠ a → Inv X pins σ (upd (upd H dx (exd dx [(f, y)])) a (exo a C (some dx))) s' → Q () s') : wpAny (model X.prog X.w) A (setAttr (.ref a) f u) Q E s := by
  obtain ⟨cd, hcl, hdd⟩ := T.cls
  obtain ⟨t1, ho⟩ := exo_at I.hok e
  have X0 := I.kIn
  obtain ⟨hp, g, d, t, os⟩ := s
  have J : PySem.W.InstAt hp a { cls := .ref C, dict := none, data := .fields #[.ref t1, .none, .none, .none, .bool false, .none] } C none := ⟨ho, rfl, rfl, trivial⟩
  refine PySem.W.set_plain X0 J T.sa ?_
  refine PySem.W.osa_openX SF X0 J T.ov ht fun b => ?_
  have Lc : PySem.W.Looks (model X.prog X.w) hp (classData C) cd := PySem.W.looks_clsIn X0 hcl
  obtain ⟨nm, bs, mro, ns, qn, hd, sn, sb, ab, col, dl⟩ := cd
  dsimp only at hdd
  subst hdd
  have nx : a ≠ hp.objs.size := Nat.ne_of_lt (Heap.lt_size ho)
  show wpAny _ _ (storeInOwnDict (.ref a) (.ref C) (.str f _) f u b) _ _ _
  unfold storeInOwnDict ownDictForStores
  repeat (first | with_reducible refine PySem.HandSPX.store_in_new ?_ ?_ | with_reducible refine wpAny_loadPart_at ho ?_ | with_reducible refine Lc.at ?_ | wp_step)
  · exact ⟨_, #[], _, (Heap.get?_update_ne _ _ _ _ nx.symm).trans (Heap.get?_push_at rfl rfl), rfl, fun q hq => absurd hq (by simp), fun _ => rfl⟩
  · intro h1 tk1 n1 sb1
    have gx : h1.get? a = some { cls := .ref C, dict := some hp.objs.size, data := .fields #[.ref t1, .none, .none, .none, .bool false, .none] } := (sb1.2 a nx).trans (Heap.get?_update_self _ (Heap.get?_push_of_some _ ho) rfl)
    have kp : ∀ b o, b ≠ a → hp.get? b = some o → h1.get? b = some o := fun b o nb q => (sb1.2 b (Nat.ne_of_lt (Heap.lt_size q))).trans ((Heap.get?_update_ne _ _ _ _ nb).trans (Heap.get?_push_of_some _ q))
    have fr : H hp.objs.size = none := I.hok.fresh (Nat.le_refl _)
    have lt : ∀ {b o}, hp.get? b = some o → b ≠ hp.objs.size := fun q => Nat.ne_of_lt (Heap.lt_size q)
    have no : ∀ {b}, H b = none → b ≠ a := fun n z => by rw [z, e] at n; cases n
    -- what stands at b is not the exception, nor new
    have past : ∀ {b o}, H b = some o → o ≠ exo a C none → (upd (upd H hp.objs.size (exd hp.objs.size [(f, y)])) a (exo a C (some hp.objs.size))) b = some o := fun {b o} q n => by
      rw [upd_ne (at_ne e q n.symm), upd_ne (ne_of_none q fr)]
      exact q
    have un : Un X.fs [] H (upd (upd H hp.objs.size (exd hp.objs.size [(f, y)])) a (exo a C (some hp.objs.size))) hp h1 :=
      ⟨fun b o q n _ _ => kp b o (no n) q, fun b o q n _ _ => ⟨o.slots, kp b o (no n) q⟩, fun b o q n _ => by rw [upd_ne (no n), upd_ne (lt q)]; exact n,
       fun b o q _ => (Classical.em (b = a)).elim (fun z => ⟨_, z ▸ gx⟩) fun z => ⟨o, kp b o z q⟩, fun b xs q => past q exo_tup.symm, fun b o v q => past q exo_frz.symm, fun b ps q => ⟨#[], by rw [past q exo_tbl.symm]; simp⟩⟩
    refine h _ _ fr nx.symm (I.un (t' := tk1) un fun b o q => ?_)
    by_cases za : b = a
    · cases za
      rw [upd_same] at q
      cases q
      exact exo_ok gx
    · rw [upd_ne za] at q
      by_cases zd : b = hp.objs.size
      · cases zd
        rw [upd_same] at q
        cases q
        exact exd_ok n1 (relO_put (fs := []) ry fun _ => trivial)
      · rw [upd_ne zd] at q
        refine (I.hok b o q).stay (fun c v hc z => kp c v ?_ z) (fun c hc => past hc exo_own.symm) (fun c xs hc => past hc exo_tup.symm)
        rcases hc with rfl | hc
        · exact za
        · exact at_ne e hc exo_own
open Builtin Builtin.ObjectAttr in
theorem set_more (SF : StoreFacts B bmB "object.__setattr__" "object") (T : Xc X.K C bmB nw) (I : Inv X pins σ H s) (e : H a = some (exo a C (some dx))) (ed : H dx = some (exd dx fs)) (hl : fs.length ≤ 900) (ht : PySem.W.takerIn X.K C f = some none) (ry : RelV y u)
    (h : ∀ s', Inv X pins σ (upd H dx (exd dx ((f, y) :: fs))) s' → Q () s') : wpAny (model X.prog X.w) A (setAttr (.ref a) f u) Q E s := by
  obtain ⟨cd, hcl, hdd⟩ := T.cls
  obtain ⟨t1, ho⟩ := exo_at I.hok e
  obtain ⟨m0, ns0, rel⟩ := exd_at I.hok ed
  have wi := within_of rel
  have X0 := I.kIn
  obtain ⟨hp, g, d, t, os⟩ := s
  obtain ⟨o2, _, _, ho2, _, _⟩ := ns0.count wi
  have J : PySem.W.InstAt hp a { cls := .ref C, dict := some dx, data := .fields #[.ref t1, .none, .none, .none, .bool false, .none] } C (some o2) := ⟨ho, rfl, rfl, ho2⟩
  refine PySem.W.set_plain X0 J T.sa ?_
  refine PySem.W.osa_openX SF X0 J T.ov ht fun b => ?_
  have Lc : PySem.W.Looks (model X.prog X.w) hp (classData C) cd := PySem.W.looks_clsIn X0 hcl
  obtain ⟨nm, bs, mro, ns, qn, hd, sn, sb, ab, col, dl⟩ := cd
  dsimp only at hdd
  subst hdd
  show wpAny _ _ (storeInOwnDict (.ref a) (.ref C) (.str f _) f u b) _ _ _
  unfold storeInOwnDict ownDictForStores
  repeat (first | with_reducible refine PySem.OEX.store_in_old ns0 wi (by rw [List.length_map]; omega) ?_ | with_reducible refine wpAny_loadPart_at ho ?_ | with_reducible refine Lc.at ?_ | wp_step)
  intro h1 tk1 n1 sb1
  refine h _ (I.write (t' := tk1) (x := dx) (e := dx) (o := exd dx ((f, y) :: fs)) (by rw [ed]; trivial) (.inl rfl) (fun b o nb q => (sb1.2 b nb).trans q) ?_ (exd_ok n1 (relO_put ry rel)))
  obtain ⟨o, _, _, q, _⟩ := n1
  exact ⟨o, q⟩
end
/-- self.f = e within __init__ -/
def tSetX (K : PySem.W.Frag) (bmB : List Value) (nw : String) (f : Str) (to te : TE) : TS := fun D σ H => te σ H fun y H1 => to σ H1 fun x H2 => ∃ a C : Addr, x = .ref a ∧ Xc K C bmB nw ∧ PySem.W.takerIn K C f = some none ∧
  ((H2 a = some (exo a C none) ∧ ∀ dx, H2 dx = none → dx ≠ a → D.nx σ (upd (upd H2 dx (exd dx [(f, y)])) a (exo a C (some dx)))) ∨
    ∃ (dx : Addr) (fs : List (Str × V)), H2 a = some (exo a C (some dx)) ∧ H2 dx = some (exd dx fs) ∧ fs.length ≤ 900 ∧ D.nx σ (upd H2 dx (exd dx ((f, y) :: fs))))
/-- C(..), C's own __init__ keeping sp: the exception itself -/
def tNewX (C : Addr) (sp : Sp) (ta : TA) : TE := fun σ H Q => ta σ H fun vs H1 => vs.length ≤ 1000 ∧ ∀ a, H1 a = none → sp (.ref a :: vs) (upd H1 a (exo a C none)) (fun v H2 => v = .non ∧ Q (.ref a) H2) E0
section
variable {X : Cx} {o e : Expr} {es : List Expr} {to te : TE} {ta : TA} {f : Str} {p p' pos : Pos} {bmB : List Value} {B nw ini : String} {C : Addr}
theorem ps_setX (SF : StoreFacts B bmB "object.__setattr__" "object") (ho : PE X o to) (he : PE X e te) (hs : swapsWith e (some (.Attribute o f p')) pos.line X.env = pure false := by rfl) : PS X (.Assign [.Attribute o f p'] e pos) (tSetX X.K bmB nw f to te) := by
  refine ⟨fun pins s σ H D I h => plainObj_wpAny_Assign_Attribute (thn (he.run pins s σ H _ I h) fun v s1 ⟨y, H1, I1, r1, q1⟩ => thn (ho.run pins s1 σ H1 _ I1 q1) fun u s2 ⟨x, H2, I2, r2, a, C, ex, T, ht, q⟩ => ?_) hs⟩
  subst ex
  obtain rfl : u = Value.ref a := r2
  rcases q with ⟨ea, q⟩ | ⟨dx, fs, ea, ed, hl, q⟩
  · exact set_first SF T I2 ea ht r1 fun dx s3 n ne J => ⟨σ, _, J, q dx n ne⟩
  · exact set_more SF T I2 ea ed hl ht r1 fun s3 J => ⟨σ, _, J, q⟩
/-- an own class with an own __init__ -/
structure Xi (P : Program) (w : World) (K : PySem.W.Frag) (mg : Str → Option Value) (base : Heap) (k : Nat) (C : Addr) (ps : List Str) (sp : Sp) : Prop where
  ex : ∃ (fI : Addr) (fd : FuncData), FnOk P w K mg base CX0 k fI fd ps sp ∧ PySem.W.findIn K (.ref C) "__init__" = some (some (.ref fI)) ∧ PySem.W.typeIn K (.ref fI) = some (.type "function") ∧ Binds K fd ps []
theorem pe_newX {x : Str} {k : Nat} {ps : List Str} {sp : Sp} (FB : ExcBaseFacts B nw ini bmB) (T : Xc X.K C bmB nw) (D : Xi X.prog X.w X.K X.mg X.base k C ps sp) (hr : Room (k + 1) X.A) (hm : X.mg x = some (.ref C)) (ha : PA X (e :: es) ta) (hg : Gl X x := by rfl)
    (hdb : (x == ("__debug__" : Str)) = false := by decide) (he : starEach (e :: es) X.env = (false, eval e X.env) :: starEach es X.env := by rfl) (hpl : (backTo pos (starEach es X.env)).any (·.1) = false := by rfl) :
    PE X (.Call (.Name x p) (e :: es) [] pos) (tNewX C sp ta) := by
  obtain ⟨fI, fd, F1, iC, tI, hb⟩ := D.ex
  refine ⟨fun pins s σ H Q I h => wpAny_Call_Name_kw (ld_glob I hg hm ?_ hdb)⟩
  refine PySem.W.callWith_K (h₀ := X.base) I.ok.mod.kin T.kC (thn (ha.run pos pins s σ H _ I h) fun us s1 ⟨vs, H1, I1, r1, hz, q1⟩ => ⟨I1.kIn, ?_⟩) he hpl
  show wpAny _ _ (call (.ref C) us) _ _ _
  obtain ⟨nm, N, qn, bs, bm, hd, sn, sb, ab, col, dd, k0, k1, k2, k3, k5, hC, hT⟩ := PySem.W.excInit_of I1.kIn T.ini
  obtain ⟨hp, g, dr, tk, os⟩ := s1
  have lz : us.length ≤ sizeLine := by rw [← r1.length, sizeLine_eq]; omega
  have fr : H1 (hp.objs.size + 1) = none := I1.hok.fresh (Nat.le_succ _)
  have J : Inv X pins σ (upd H1 (hp.objs.size + 1) (exo (hp.objs.size + 1) C none)) ⟨(hp.push (PySem.W.kdv_tup us)).push (PySem.HandSPX.excO C hp.objs.size), g, dr, tk, os⟩ :=
    I1.laid (t' := tk) (fun b o q => Heap.get?_push_of_some _ (Heap.get?_push_of_some _ q)) (Nat.le_succ _) (exo_ok (by heap_get))
  have q2 := q1 _ fr
  have rv : Vals (V.ref (hp.objs.size + 1) :: vs) (Value.ref (hp.objs.size + 1) :: us) := .cons rfl r1
  have ln : (Value.ref (hp.objs.size + 1) :: us ++ []).length = ps.length := by
    rw [List.append_nil, ← rv.length]
    exact F1.len _ _ _ _ q2
  have bi := hb ⟨(hp.push (PySem.W.kdv_tup us)).push (PySem.HandSPX.excO C hp.objs.size), g, dr, tk, os⟩ _ J.kIn ln
  rw [List.append_nil] at bi
  refine wpAny_call (PySem.HandSPX.call_own FB hT hC (PySem.W.looks_findIn I1.kIn iC) (fun self => PySem.W.bind_fn I1.kIn self tI) lz (codeAny_mono (F1.run _ X.stack _ _ ⟨Value.ref (hp.objs.size + 1) :: us, []⟩ (Value.ref (hp.objs.size + 1) :: us) _ _ E0 (hr.make C us []) (J.env0.make C us []) bi rv q2) fun r s' z => ?_))
  cases r with
  | error er => exact z.elim
  | ok fl =>
    cases fl with
    | ret u =>
      obtain ⟨v, H2, I2, r2, ev, q3⟩ := J.after z
      subst ev
      exact ⟨r2, .ref (hp.objs.size + 1), H2, I2, rfl, q3⟩
    | next => exact z.elim
    | brk => exact z.elim
    | cont => exact z.elim
/-- what the class must say so that its exceptions are read and asked -/
structure Xr (K : PySem.W.Frag) (C : Addr) : Prop where
  ga : PySem.W.findIn K (.ref C) "__getattribute__" = some (some (.builtin "BaseException.__getattribute__"))
  gg : PySem.W.findIn K (.ref C) "__getattr__" = some none
  sb : PySem.W.subIn K (.ref C) (.type "BaseException") = some true
  dct : PySem.W.hasDictIn K C = true
  cl : PySem.W.findIn K (.ref C) "__class__" = some (some (.builtin "object.__class__"))
  gs : PySem.W.specialIn K (.builtin "object.__class__") "__get__" = some (some (.builtin "getset_descriptor.__get__"))
  tk : PySem.W.takesIn K (.builtin "object.__class__") = some true
  ob : PySem.W.mroIn K C (.type "object") = some true
/-- e.f -/
def tFld (K : PySem.W.Frag) (f : Str) (te : TE) : TE := fun σ H Q => te σ H fun x H1 => ∃ (a C d : Addr) (fs : List (Str × V)) (v : V), x = .ref a ∧ Xr K C ∧ PySem.W.findIn K (.ref C) f = some none ∧ H1 a = some (exo a C (some d)) ∧ H1 d = some (exd d fs) ∧ fs.lookup f = some v ∧ Q v H1
theorem pe_fld (he : PE X e te) (hb : attributeBase e f X.env (eval e X.env) = eval e X.env := by rfl) : PE X (.Attribute e f pos) (tFld X.K f te) := by
  refine ⟨fun pins s σ H Q I h => attr_of hb (thn (he.run pins s σ H _ I h) fun u s1 ⟨x, H1, I1, rx, a, C, d, fs, v, ex, T, no, ea, ed, l, q⟩ => ?_)⟩
  subst ex
  obtain rfl : u = Value.ref a := rx
  obtain ⟨t1, ho⟩ := exo_at I1.hok ea
  obtain ⟨mA, ns, rl⟩ := exd_at I1.hok ed
  obtain ⟨od, hd, lk⟩ := lookIn_ns ns
  obtain ⟨z, hz, rz⟩ := RelO.some_of (v := v) (o := mA f) (by rw [← l]; exact rl f)
  have J : PySem.W.InstAt s1.heap a _ C (some od) := ⟨ho, rfl, rfl, hd⟩
  exact PySem.HandSPX.exc_get I1.kIn J T.ga T.gg T.sb (PySem.W.findObj_own T.dct no rfl (by rw [lk, hz])) (handed_of rz) ⟨v, H1, I1.tok _, rz, q⟩
/-- isinstance(e, c) -/
def rIsX (K : PySem.W.Frag) : List V → Hp → VK → Prop := fun xs H Q => ∃ (a C : Addr) (d : Option Addr) (c : V) (cv : Value) (b : Bool), xs = [.ref a, c] ∧ Xr K C ∧ H a = some (exo a C d) ∧ (∀ x, d = some x → ∃ fs, H x = some (exd x fs)) ∧ (∀ u, RelV c u → u = cv) ∧ PySem.W.kitOne K (.ref C) cv = some b ∧ Q (.bl b) H
theorem call_isX : CallR X (.builtin "isinstance") (rIsX X.K) := by
  intro pins s σ H xs us Q I r ⟨a, C, d, c, cv, b, exs, T, ea, hd, hc, e, q⟩
  subst exs
  cases r with
  | cons ra rr =>
    cases rr with
    | cons rc rr =>
      cases rr
      cases ra
      cases hc _ rc
      obtain ⟨t1, ho⟩ := exo_at I.hok ea
      obtain ⟨od, J⟩ : ∃ od, PySem.W.InstAt s.heap a { cls := .ref C, dict := d, data := .fields #[.ref t1, .none, .none, .none, .bool false, .none] } C od := by
        cases d with
        | none => exact ⟨none, ho, rfl, rfl, trivial⟩
        | some x =>
          obtain ⟨fs, hx⟩ := hd x rfl
          obtain ⟨mA, ns, _⟩ := exd_at I.hok hx
          obtain ⟨od, ho2, _⟩ := lookIn_ns ns
          exact ⟨some od, ho, rfl, rfl, ho2⟩
      have cl : (PySem.W.clsIn X.K C).isSome = true := by
        obtain ⟨cd, h1, _⟩ := PySem.W.any_some T.dct
        rw [h1]
        rfl
      exact PySem.W.kia_one (PySem.W.kitx_exc cl T.ga T.gg T.sb T.cl T.gs T.tk T.ob) I.kIn J e (fun z => nomatch z) fun tk => ⟨.bl b, H, I.kept (t' := tk) fun _ _ z => z, rfl, q⟩
end
end L3

/-! own exceptions made by keywords; those without an own __init__ -/
namespace L3
open PySem PySem.Spec PyProof.Rows L2 PySem.Calls
section
variable {prog : Program} {w : World} {A : Around} {E : Value → Shared → Prop} {R : Result → Shared → Prop} {h : Heap} {g : Array GenState} {d : Drawn} {t : Nat} {os : OsState} {kw : List (Str × Value)}
variable {nm q : Str} {C N fI : Addr} {bs bm bmB : List Value} {hdct : Bool} {sn : List Str} {sub : List Value} {ab : Bool} {col : Option Bool} {dd : Option Addr} {k0 k1 k2 k3 k5 : Option Value} {B nw ini : String}
theorem kw_new (F : ExcBaseFacts B nw ini bmB) (hT : ∀ X : String, bm.contains (.type X) = bmB.contains (.type X)) (hC : h.get? C = some (excClassObj nm q C N bs bm hdct sn sub ab col dd k0 k1 k2 k3 k5 nw))
    (k : R (.ok (.ret (.ref (h.objs.size + 1)))) ⟨(h.push (PySem.W.kdv_tup [])).push (PySem.HandSPX.excO C h.objs.size), g, d, t, os⟩) : codeAny (model prog w) A (.builtin nw ⟨[.ref C], kw⟩) R ⟨h, g, d, t, os⟩ := by
  have e0 := F.ends
  have e1 : (Value.ref C :: bm).contains (.type B) = true := by rw [List.contains_cons, hT B, F.hasB, Bool.or_true]
  have e2 : (Value.ref C :: bm).contains (.type "AttributeError") = false := by rw [List.contains_cons, hT "AttributeError", F.noAttr] <;> rfl
  have e3 : (Value.ref C :: bm).contains (.type "NameError") = false := by rw [List.contains_cons, hT "NameError", F.noName] <;> rfl
  refine codeAny_builtinAt F.entry ?_
  unfold Builtin.«BaseException.__new__»
  refine PySem.wpAt_bind ?_
  show PySem.wpAt _ _ _ (stack >>= _) _ _ _
  refine PySem.wpAt_bind (PySem.wpAt_stack fun p below => PySem.wpAt_of_wpAny ?_)
  wp_walk
  refine PySem.wpAt_of_wpAny ?_
  rw [F.owner]
  repeat (first
    | with_reducible refine wpAny_madeHere_exc F.canon hC ?_
    | with_reducible refine wpAny_loadPart_at hC ?_
    | (with_reducible refine wpAny_isSubtype_exc hC ?_; first | rw [e1] | rw [e2] | rw [e3])
    | wp_step)
  show R _ _
  rw [Heap.size_push]
  exact k
theorem kw_check (F : ExcBaseFacts B nw ini bmB) (hT : ∀ X : String, bm.contains (.type X) = bmB.contains (.type X)) {M : Model} {Q : Unit → Shared → Prop} (hC : h.get? C = some (excClassObj nm q C N bs bm hdct sn sub ab col dd k0 k1 k2 k3 k5 nw))
    (k : Q () ⟨h, g, d, t, os⟩) : wpAny M A (checkBuiltinCall nw ⟨[.ref C], kw⟩) Q E ⟨h, g, d, t, os⟩ := by
  have e1 : (Value.ref C :: bm).contains (.type B) = true := by rw [List.contains_cons, hT B, F.hasB, Bool.or_true]
  have e0 := F.noStar
  simp only [checkBuiltinCall, F.newSplit, F.newKind, F.newRow]
  repeat (first
    | refine wpAny_loadPart_at hC ?_
    | (refine wpAny_isSubtype_exc hC ?_; rw [e1])
    | refine wpAny_staticBase_exc hC ?_
    | refine wpAny_madeBy_exc hC ?_
    | simp only [bne_self_eq_false, Bool.false_eq_true, if_false]
    | wp_step)
  exact k
theorem kw_check2 {M : Model} {Q : Unit → Shared → Prop} (hC : h.get? C = some (excClassObj nm q C N bs bm hdct sn sub ab col dd k0 k1 k2 k3 k5 nw)) (k : Q () ⟨h, g, d, t, os⟩) : wpAny M A (checkBuiltinCall "type.__call__" ⟨[.ref C], kw⟩) Q E ⟨h, g, d, t, os⟩ := by
  have f3 := PySem.tc_sub
  have ty : (⟨h, g, d, t, os⟩ : Shared).TypeIs (.ref C) "type" := ⟨_, hC, rfl⟩
  simp only [checkBuiltinCall, PySem.tc_kind, PySem.tc_split]
  repeat (any_goals (first
    | assumption
    | with_reducible refine wpAny_loadPart_at hC ?_
    | with_reducible refine wpAny_onRaise ?_
    | with_reducible refine wpAny_map ?_
    | wp_step))
theorem kw_type (F : ExcBaseFacts B nw ini bmB) (hT : ∀ X : String, bm.contains (.type X) = bmB.contains (.type X)) {Q : Fin → Shared → Prop} (hC : h.get? C = some (excClassObj nm q C N bs bm hdct sn sub ab col dd k0 k1 k2 k3 k5 nw))
    (hi : PySem.W.Looks (model prog w) h (typeLookup (.ref C) "__init__") (some (.ref fI))) (hb : ∀ me, PySem.W.Looks (model prog w) h (bindSpecial (.ref fI) me) (.ref fI, [me]))
    (k : codeAny (model prog w) A (.call (.ref fI) ⟨[.ref (h.objs.size + 1)], kw⟩) (fun r s' => match r with | .ok (.ret v) => v = .none ∧ Q (.done (.ret (.ref (h.objs.size + 1)))) s' | .ok _ => False | .error e => E e s')
      ⟨(h.push (PySem.W.kdv_tup [])).push (PySem.HandSPX.excO C h.objs.size), g, d, t, os⟩) :
    wpAny (model prog w) A (Builtin.«type.__call__» ⟨[.ref C], kw⟩) Q E ⟨h, g, d, t, os⟩ := by
  repeat (first
    | with_reducible refine wpAny_loadPart_at hC ?_
    | with_reducible refine wpAny_madeBy_exc hC ?_
    | wp_step)
  refine codeAny_call_builtin_code (Code.quiet_builtin _ F.quiet) (kw_check F hT hC (kw_new F hT hC ?_))
  show wpAny _ _ _ _ _ _
  have kp : ∀ b o, h.get? b = some o → ((h.push (PySem.W.kdv_tup [])).push (PySem.HandSPX.excO C h.objs.size)).get? b = some o := fun b o z => Heap.get?_push_of_some _ (Heap.get?_push_of_some _ z)
  have gC := kp _ _ hC
  have ge : ((h.push (PySem.W.kdv_tup [])).push (PySem.HandSPX.excO C h.objs.size)).get? (h.objs.size + 1) = some (PySem.HandSPX.excO C h.objs.size) := by heap_get
  have e4 : (Value.ref C :: bm).contains (.ref C) = true := by simp
  unfold isInstance
  repeat (first
    | with_reducible refine wpAny_loadPart_at ge ?_
    | (with_reducible refine wpAny_isSubtype_exc gC ?_; rw [e4])
    | wp_step)
  show wpAny _ _ (typeLookup (.ref C) _) _ _ _
  refine (hi.keeps kp).at (wpAny_holding (wpAny_bind (((hb (.ref (h.objs.size + 1))).keeps kp).at (wpAny_bind (wpAny_call (codeAny_mono k fun r s' z => ?_))))))
  rcases r with e | (v | _ | _ | _) <;> first | exact z | exact z.elim | skip
  obtain ⟨rfl, z⟩ := z
  first
    | exact wpAny_pure (wpAny_pure z)
    | (wp_walk; exact z)
theorem kw_call (F : ExcBaseFacts B nw ini bmB) (hT : ∀ X : String, bm.contains (.type X) = bmB.contains (.type X)) (hC : h.get? C = some (excClassObj nm q C N bs bm hdct sn sub ab col dd k0 k1 k2 k3 k5 nw))
    (hi : PySem.W.Looks (model prog w) h (typeLookup (.ref C) "__init__") (some (.ref fI))) (hb : ∀ me, PySem.W.Looks (model prog w) h (bindSpecial (.ref fI) me) (.ref fI, [me]))
    (k : codeAny (model prog w) (A.under (.builtin "type.__call__" ⟨[.ref C], kw⟩)) (.call (.ref fI) ⟨[.ref (h.objs.size + 1)], kw⟩) (PySem.W.InitBack (h.objs.size + 1) R)
      ⟨(h.push (PySem.W.kdv_tup [])).push (PySem.HandSPX.excO C h.objs.size), g, d, t, os⟩) :
    codeAny (model prog w) A (.call (.ref C) ⟨[], kw⟩) R ⟨h, g, d, t, os⟩ := by
  have f1 := PySem.tc_lookup
  have f2 := PySem.tc_bind (.ref C)
  have ty : (⟨h, g, d, t, os⟩ : Shared).TypeIs (.ref C) "type" := ⟨_, hC, rfl⟩
  refine codeAny_of_tree ?_
  show wpAny _ _ (callAny (.ref C) _) _ _ _
  repeat (any_goals (first
    | assumption
    | with_reducible refine wpAny_loadPart_at hC ?_
    | wp_step))
  refine ⟨rfl, codeAny_call_builtin_at (Code.quiet_builtin _ (by decide +kernel)) entry_typeCall (kw_check2 hC (kw_type F hT hC hi hb (codeAny_mono k fun r s' z => ?_)))⟩
  rcases r with e | (v | _ | _ | _) <;> exact z
end
end L3

/-! rules: C(x=..), C() without an own __init__ -/
namespace L3
open PySem PySem.Spec PyProof.Rows L2
/-- an own class whose own __init__ is given keywords -/
structure Xk (P : Program) (w : World) (K : PySem.W.Frag) (mg : Str → Option Value) (base : Heap) (k : Nat) (C : Addr) (ps ks : List Str) (sp : Sp) (g : List Value → List Value → List Value) (gV : List V → List V → List V) : Prop where
  ex : ∃ (fI : Addr) (fd : FuncData), FnOk P w K mg base CX0 k fI fd ps sp ∧ PySem.W.findIn K (.ref C) "__init__" = some (some (.ref fI)) ∧ PySem.W.typeIn K (.ref fI) = some (.type "function") ∧ KBinds K fd ps ks g gV
/-- C(x=..): the exception itself -/
def tNewK (C : Addr) (sp : Sp) (gV : List V → List V → List V) (tk : TA) : TE := fun σ H Q => tk σ H fun zs H1 => ∀ a, H1 a = none → sp (gV [.ref a] zs) (upd H1 a (exo a C none)) (fun v H2 => v = .non ∧ Q (.ref a) H2) E0
section
variable {X : Cx} {e : Expr} {tk : TA} {kws : List Keyword} {p pos : Pos} {bmB : List Value} {B nw ini : String} {C : Addr}
theorem pe_newK {x : Str} {k : Nat} {ps ks : List Str} {sp : Sp} {g : List Value → List Value → List Value} {gV : List V → List V → List V} (FB : ExcBaseFacts B nw ini bmB) (T : Xc X.K C bmB nw) (D : Xk X.prog X.w X.K X.mg X.base k C ps ks sp g gV) (hr : Room (k + 1) X.A) (hm : X.mg x = some (.ref C)) (hkw : PK X kws tk) (hg : Gl X x := by rfl)
    (hdb : (x == ("__debug__" : Str)) = false := by decide) (hall : (backToKw pos (keywordEach kws X.env)).all (·.1.isSome) = true := by rfl) (hks : (backToKw pos (keywordEach kws X.env)).filterMap (·.1) = ks := by rfl)
    (hpl : ((backTo pos (starEach [] X.env)).any (·.1) || (backToKw pos (keywordEach kws X.env)).any (·.1.isNone)) = false := by rfl) : PE X (.Call (.Name x p) [] kws pos) (tNewK C sp gV tk) := by
  obtain ⟨fI, fd, F1, iC, tI, hb⟩ := D.ex
  refine ⟨fun pins s σ H Q I h => wpAny_Call_Name_kw (ld_glob I hg hm ?_ hdb)⟩
  refine PySem.W.callWith_KW0 (h₀ := X.base) I.ok.mod.kin T.kC hall (thn (hkw.run pos pins s σ H _ I h) fun ws s1 ⟨zs, H1, I1, rz, q1⟩ => ⟨I1.kIn, ?_⟩) hpl
  rw [hks]
  show wpAny _ _ (call (.ref C) [] (ks.zip ws)) _ _ _
  obtain ⟨nm, N, qn, bs, bm, hd, sn, sb, ab, col, dd, k0, k1, k2, k3, k5, hC, hT⟩ := PySem.W.excInit_of I1.kIn T.ini
  obtain ⟨hp, gg, dr, t, os⟩ := s1
  have fr : H1 (hp.objs.size + 1) = none := I1.hok.fresh (Nat.le_succ _)
  have J : Inv X pins σ (upd H1 (hp.objs.size + 1) (exo (hp.objs.size + 1) C none)) ⟨(hp.push (PySem.W.kdv_tup [])).push (PySem.HandSPX.excO C hp.objs.size), gg, dr, t, os⟩ :=
    I1.laid (t' := t) (fun b o q => Heap.get?_push_of_some _ (Heap.get?_push_of_some _ q)) (Nat.le_succ _) (exo_ok (by heap_get))
  have q2 := q1 _ fr
  have rv : Vals (gV [V.ref (hp.objs.size + 1)] zs) (g [Value.ref (hp.objs.size + 1)] ws) := hb.rel (.cons rfl .nil) rz
  have ln : (g [Value.ref (hp.objs.size + 1)] ws).length = ps.length := by
    rw [← rv.length]
    exact F1.len _ _ _ _ q2
  have bi := hb.to ⟨(hp.push (PySem.W.kdv_tup [])).push (PySem.HandSPX.excO C hp.objs.size), gg, dr, t, os⟩ [Value.ref (hp.objs.size + 1)] ws J.kIn ln
  refine wpAny_call (kw_call FB hT hC (PySem.W.looks_findIn I1.kIn iC) (fun me => PySem.W.bind_fn I1.kIn me tI) (codeAny_mono (F1.run _ X.stack _ _ ⟨[Value.ref (hp.objs.size + 1)], ks.zip ws⟩ _ _ _ E0 (hr.make C [] (ks.zip ws)) (J.env0.make C [] (ks.zip ws)) bi rv q2) fun r s' z => ?_))
  cases r with
  | error er => exact z.elim
  | ok fl =>
    cases fl with
    | ret u =>
      obtain ⟨v, H2, I2, r2, ev, q3⟩ := J.after z
      subst ev
      exact ⟨r2, .ref (hp.objs.size + 1), H2, I2, rfl, q3⟩
    | next => exact z.elim
    | brk => exact z.elim
    | cont => exact z.elim
theorem pe_new0 {x : Str} (FB : ExcBaseFacts B nw ini bmB) (q : PySem.W.excIn X.K C bmB nw = true) (hm : X.mg x = some (.ref C)) (kC : PySem.W.keepIn X.K (.ref C) = true) (hg : Gl X x := by rfl) (hdb : (x == ("__debug__" : Str)) = false := by decide) :
    PE X (.Call (.Name x p) [] [] pos) (fun _ H Q => ∀ a, H a = none → Q (.ref a) (upd H a (exo a C none))) := by
  refine ⟨fun pins s σ H Q I h => wpAny_Call_Name_kw (ld_glob I hg hm ?_ hdb)⟩
  refine PySem.W.callWith_KW0 (h₀ := X.base) (kws := []) I.ok.mod.kin kC rfl ?_ rfl
  show wpAny _ _ (evalAll []) _ _ _
  refine wpAny_pure ⟨I.kIn, ?_⟩
  show wpAny _ _ (call (.ref C) []) _ _ _
  obtain ⟨bm, N, nm, qn, bs, hd, sn, sb, ab, col, dd, k0, k1, k2, k3, k5, mN, hC, hN, hni, T⟩ := exc_obj I.kIn q
  refine wpAny_call_exc_subT FB T hC hN hni (fun h' a hm2 => ?_) (Nat.zero_le _)
  have fr : H a = none := I.hok.gone hm2.new
  obtain ⟨t, ht, _, _⟩ := hm2.there
  exact ⟨.ref a, _, I.laidN (o := exo a C none) hm2.keeps hm2.new fr (exo_ok ht), rfl, h a fr⟩
end
end L3

/-! raise C(..), C an own class over any built-in class of errors, its __init__ a def -/
namespace L3
open PySem L2
/-- what is flying: an exception of C with the fields fs -/
def tMkX (C : Addr) (sp : Sp) (ta : TA) : L2.St → Hp → XK → Prop := fun σ H Q => ta σ H fun vs H1 => vs.length ≤ 1000 ∧ ∀ a, H1 a = none →
  sp (.ref a :: vs) (upd H1 a (exo a C none)) (fun v H2 => v = .non ∧ ∃ (d : Addr) (fs : List (Str × V)), H2 a = some (exo a C (some d)) ∧ H2 d = some (exd d fs) ∧ H1 d = none ∧ Q (.ref C) (some d) (upd (del H2 a) d (.xd fs))) E0
section
variable {X : Cx} {e : Expr} {es : List Expr} {ta : TA} {p pos : Pos} {bmB : List Value} {B nw ini : String} {C : Addr}
theorem pmk_newX {x : Str} {k : Nat} {ps : List Str} {sp : Sp} (FB : ExcBaseFacts B nw ini bmB) (T : Xc X.K C bmB nw) (sb : PySem.W.subIn X.K (.ref C) (.type "BaseException") = some true) (ty : PySem.W.typeIn X.K (.ref C) = some (.type "type")) (D : Xi X.prog X.w X.K X.mg X.base k C ps sp) (hr : Room (k + 1) X.A) (hm : X.mg x = some (.ref C)) (ha : PA X (e :: es) ta) (hg : Gl X x := by rfl)
    (hdb : (x == ("__debug__" : Str)) = false := by decide) (he : starEach (e :: es) X.env = (false, eval e X.env) :: starEach es X.env := by rfl) (hpl : (backTo pos (starEach es X.env)).any (·.1) = false := by rfl) :
    PMk X (.Call (.Name x p) (e :: es) [] pos) (tMkX C sp ta) := by
  obtain ⟨fI, fd, F1, iC, tI, hb⟩ := D.ex
  intro pins s σ H Q I h
  refine wpAny_Call_Name_kw (ld_glob I hg hm ?_ hdb)
  refine PySem.W.callWith_K (h₀ := X.base) I.ok.mod.kin T.kC (thn (ha.run pos pins s σ H _ I h) fun us s1 ⟨vs, H1, I1, r1, hz, q1⟩ => ⟨I1.kIn, ?_⟩) he hpl
  show wpAny _ _ (call (.ref C) us) _ _ _
  obtain ⟨nm, N, qn, bs, bm, hd, sn, sbb, ab, col, dd, k0, k1, k2, k3, k5, hC, hT⟩ := PySem.W.excInit_of I1.kIn T.ini
  obtain ⟨hp, g, dr, tk, os⟩ := s1
  have lz : us.length ≤ sizeLine := by rw [← r1.length, sizeLine_eq]; omega
  have hsz : hp.objs.size ≤ hp.objs.size + 1 := Nat.le_succ _
  have fr : H1 (hp.objs.size + 1) = none := I1.hok.fresh hsz
  have kk : ∀ b o, hp.get? b = some o → ((hp.push (PySem.W.kdv_tup us)).push (PySem.HandSPX.excO C hp.objs.size)).get? b = some o := fun b o q => Heap.get?_push_of_some _ (Heap.get?_push_of_some _ q)
  have J : Inv X pins σ (upd H1 (hp.objs.size + 1) (exo (hp.objs.size + 1) C none)) ⟨(hp.push (PySem.W.kdv_tup us)).push (PySem.HandSPX.excO C hp.objs.size), g, dr, tk, os⟩ :=
    I1.laid (t' := tk) kk hsz (exo_ok (by heap_get))
  have q2 := q1 _ fr
  have rv : Vals (V.ref (hp.objs.size + 1) :: vs) (Value.ref (hp.objs.size + 1) :: us) := .cons rfl r1
  have ln : (Value.ref (hp.objs.size + 1) :: us ++ []).length = ps.length := by
    rw [List.append_nil, ← rv.length]
    exact F1.len _ _ _ _ q2
  have bi := hb ⟨(hp.push (PySem.W.kdv_tup us)).push (PySem.HandSPX.excO C hp.objs.size), g, dr, tk, os⟩ _ J.kIn ln
  rw [List.append_nil] at bi
  refine wpAny_call (PySem.HandSPX.call_own FB hT hC (PySem.W.looks_findIn I1.kIn iC) (fun self => PySem.W.bind_fn I1.kIn self tI) lz (codeAny_mono (F1.run _ X.stack _ _ ⟨Value.ref (hp.objs.size + 1) :: us, []⟩ (Value.ref (hp.objs.size + 1) :: us) _ _ E0 (hr.make C us []) (J.env0.make C us []) bi rv q2) fun r s' z => ?_))
  cases r with
  | error er => exact z.elim
  | ok fl =>
    cases fl with
    | ret u =>
      obtain ⟨v, H2, os2, bare2, un2, hok2, rvv, ⟨ev, d, fs, ea, ed, hd1, q3⟩⟩ := z
      subst ev
      obtain ⟨h2, g2, d2, t2, os'⟩ := s'
      exact ⟨rvv, mk_end (raises_own sb ty) I1 hsz kk un2 hok2 os2 bare2 ea ed hd1 q3⟩
    | next => exact z.elim
    | brk => exact z.elim
    | cont => exact z.elim
end
end L3

namespace L3
open PySem L2
def inS (s : Stmt) (j : Nat) : Stmt := match s with
  | .ClassDef _ _ _ body _ _ _ _ _ _ _ => body.getD j (.Pass ⟨0, 0, 0, 0⟩)
  | s => s
/-! the error classes -/
abbrev mroV : List Value := [.type "ValueError", .type "Exception", .type "BaseException", .type "object"]
abbrev mroL : List Value := [.type "LookupError", .type "Exception", .type "BaseException", .type "object"]
abbrev mroR : List Value := [.type "RuntimeError", .type "Exception", .type "BaseException", .type "object"]
def spI1 (K : PySem.W.Frag) (bm : List Value) (nw : String) (f : Str) : Sp := fun vs H Q _ => ∃ (a C : Addr) (v : V), vs = [.ref a, v] ∧ Xc K C bm nw ∧ PySem.W.takerIn K C f = some none ∧ H a = some (exo a C none) ∧ ∀ d, H d = none → d ≠ a → Q .non (upd (upd H d (exd d [(f, v)])) a (exo a C (some d)))
def spI2 (K : PySem.W.Frag) (bm : List Value) (nw : String) (f g : Str) : Sp := fun vs H Q _ => ∃ (a C : Addr) (v u : V), vs = [.ref a, v, u] ∧ Xc K C bm nw ∧ PySem.W.takerIn K C f = some none ∧ PySem.W.takerIn K C g = some none ∧ H a = some (exo a C none) ∧
  ∀ d, H d = none → d ≠ a → Q .non (upd (upd (upd H d (exd d [(f, v)])) a (exo a C (some d))) d (exd d [(g, u), (f, v)]))
/-! how their arguments stand when they are given by keywords -/
def g1 : List Value → List Value → List Value
  | [s], [x] => [s, x]
  | _, _ => []
def gV1 : List V → List V → List V
  | [s], [x] => [s, x]
  | _, _ => []
def g2 : List Value → List Value → List Value
  | [s], [x, y] => [s, y, x]
  | _, _ => []
def gV2 : List V → List V → List V
  | [s], [x, y] => [s, y, x]
  | _, _ => []
theorem kb1 {K : PySem.W.Frag} {fd : FuncData} {f : Str} (h : ∀ (s : Shared) (a b : Value), BindsTo s fd ⟨[a], [(f, b)]⟩ [("self", a), (f, b)]) : KBinds K fd ["self", f] [f] g1 gV1 where
  to := fun s us ws _ hl => by
    match us, ws, hl with
    | [a], [b], _ => exact h s a b
    | [], _, hl => cases hl
    | [_], [], hl => cases hl
    | [_], _ :: _ :: _, hl => cases hl
    | _ :: _ :: _, _, hl => cases hl
  rel := fun r rz => by
    cases r with
    | nil => exact .nil
    | cons a r =>
      cases r with
      | nil =>
        cases rz with
        | nil => exact .nil
        | cons b rz =>
          cases rz with
          | nil => exact .cons a (.cons b .nil)
          | cons => exact .nil
      | cons => exact .nil
theorem kb2 {K : PySem.W.Frag} {fd : FuncData} {f g : Str} (h : ∀ (s : Shared) (a b d : Value), BindsTo s fd ⟨[a], [(g, b), (f, d)]⟩ [("self", a), (f, d), (g, b)]) : KBinds K fd ["self", f, g] [g, f] g2 gV2 where
  to := fun s us ws _ hl => by
    match us, ws, hl with
    | [a], [b, d], _ => exact h s a b d
    | [], _, hl => cases hl
    | [_], [], hl => cases hl
    | [_], [_], hl => cases hl
    | [_], _ :: _ :: _ :: _, hl => cases hl
    | _ :: _ :: _, _, hl => cases hl
  rel := fun r rz => by
    cases r with
    | nil => exact .nil
    | cons a r =>
      cases r with
      | nil =>
        cases rz with
        | nil => exact .nil
        | cons b rz =>
          cases rz with
          | nil => exact .nil
          | cons d rz =>
            cases rz with
            | nil => exact .cons a (.cons d (.cons b .nil))
            | cons => exact .nil
      | cons => exact .nil
/-- a class of one field -/
structure E1 (P : Program) (w : World) (K : PySem.W.Frag) (mg : Str → Option Value) (base : Heap) (x f : Str) (bm : List Value) (nw : String) (C : Addr) : Prop where
  hm : mg x = some (.ref C)
  T : Xc K C bm nw
  R : Xr K C
  tk : PySem.W.takerIn K C f = some none
  no : PySem.W.findIn K (.ref C) f = some none
  I : Xi P w K mg base 1 C ["self", f] (spI1 K bm nw f)
  J : Xk P w K mg base 1 C ["self", f] [f] (spI1 K bm nw f) g1 gV1
  cd : ∃ cd, PySem.W.clsIn K C = some cd ∧ cd.mro = .ref C :: bm
  ty : PySem.W.typeIn K (.ref C) = some (.type "type")
/-- a class of two fields -/
structure E2 (P : Program) (w : World) (K : PySem.W.Frag) (mg : Str → Option Value) (base : Heap) (x f g : Str) (bm : List Value) (nw : String) (C : Addr) : Prop where
  hm : mg x = some (.ref C)
  T : Xc K C bm nw
  R : Xr K C
  tk : PySem.W.takerIn K C f = some none
  tk2 : PySem.W.takerIn K C g = some none
  no : PySem.W.findIn K (.ref C) f = some none
  no2 : PySem.W.findIn K (.ref C) g = some none
  I : Xi P w K mg base 1 C ["self", f, g] (spI2 K bm nw f g)
  J : Xk P w K mg base 1 C ["self", f, g] [g, f] (spI2 K bm nw f g) g2 gV2
  cd : ∃ cd, PySem.W.clsIn K C = some cd ∧ cd.mro = .ref C :: bm
  ty : PySem.W.typeIn K (.ref C) = some (.type "type")
/-- the class without fields -/
structure E0c (K : PySem.W.Frag) (mg : Str → Option Value) (x : Str) (bm : List Value) (nw : String) (C : Addr) : Prop where
  hm : mg x = some (.ref C)
  q : PySem.W.excIn K C bm nw = true
  kC : PySem.W.keepIn K (.ref C) = true
  R : Xr K C
  cd : ∃ cd, PySem.W.clsIn K C = some cd ∧ cd.mro = .ref C :: bm
  ty : PySem.W.typeIn K (.ref C) = some (.type "type")
end L3

/-! defs that may raise, known by their names, with or without a star parameter -/
namespace L3
open PySem PySem.Spec PyProof.Rows L2 StX
structure KnX (P : Program) (w : World) (K : PySem.W.Frag) (mg : Str → Option Value) (base : Heap) (k : Nat) (x : Str) (ps : List Str) (sp : Sp) : Prop where
  ex : ∃ (f : Addr) (fd : FuncData), FnOk P w K mg base (L2.CX P w) k f fd ps sp ∧ mg x = some (.ref f) ∧ PySem.W.keepIn K (.ref f) = true ∧ Binds K fd ps []
structure KnSX (P : Program) (w : World) (K : PySem.W.Frag) (mg : Str → Option Value) (base : Heap) (k : Nat) (x : Str) (sp : Sp) : Prop where
  ex : ∃ (f : Addr), FnR P w K mg base (L2.CX P w) k f sp ∧ mg x = some (.ref f) ∧ PySem.W.keepIn K (.ref f) = true
theorem Fun.knX {K : PySem.W.Frag} {P : Program} {w : World} {mg : Str → Option Value} {base : Heap} {x : Str} {st : Stmt} {f : Addr} {fd : FuncData} {k : Nat} {ps : List Str} {sp : Sp} (F : Fun K x x st f fd) (hm : mg x = some (.ref f)) (h : FnOk P w K mg base (L2.CX P w) k f fd ps sp)
    (b : ∀ (kV doc pm : Value) (an : Option Addr) (cdv ct : Value) (us : List Value), us.length = ps.length → bindArgs (PySem.W.fnOf x x (defArgs st) (defBody st) (defScope st) .none kV doc pm an cdv ct) ⟨us, []⟩ = pure (ps.zip us)) : KnX P w K mg base k x ps sp :=
  ⟨f, fd, h, hm, F.kp, F.binds b⟩
section
variable {X : Cx} {x : Str} {k : Nat} {ps : List Str} {sp : Sp} {e : Expr} {es : List Expr} {t : TA} {p pos : Pos} {E : XK}
theorem pe_knX (D : KnX X.prog X.w X.K X.mg X.base k x ps sp) (hr : Room k X.A) (tk : Takes X (fun cls d _ H => E cls d H)) (ha : PA X (e :: es) t) (hg : Gl X x := by rfl) (hdb : (x == ("__debug__" : Str)) = false := by decide)
    (he : starEach (e :: es) X.env = (false, eval e X.env) :: starEach es X.env := by rfl) (hpl : (backTo pos (starEach es X.env)).any (·.1) = false := by rfl) :
    PE X (.Call (.Name x p) (e :: es) [] pos) (tCall sp [] E t) := by
  obtain ⟨f, fd, F, hm, hk, hb⟩ := D.ex
  exact pe_call F hr hg hm hk hb .nil (passes_call tk fun _ _ _ _ h => h) ha hdb he hpl
def tCallRX (sp : Sp) (E : XK) (t : TA) : TE := fun σ H Q => t σ H fun vs H1 => sp vs H1 Q E
theorem pe_ksX (D : KnSX X.prog X.w X.K X.mg X.base k x sp) (hr : Room k X.A) (tk : Takes X (fun cls d _ H => E cls d H)) (ha : PA X (e :: es) t) (hg : Gl X x := by rfl) (hdb : (x == ("__debug__" : Str)) = false := by decide)
    (he : starEach (e :: es) X.env = (false, eval e X.env) :: starEach es X.env := by rfl) (hpl : (backTo pos (starEach es X.env)).any (·.1) = false := by rfl) :
    PE X (.Call (.Name x p) (e :: es) [] pos) (tCallRX sp E t) := by
  obtain ⟨f, F, hm, hk⟩ := D.ex
  refine ⟨fun pins s σ H Q I h => ?_⟩
  refine wpAny_Call_Name_kw (ld_glob I hg hm ?_ hdb)
  refine PySem.W.callWith_K (h₀ := X.base) I.ok.mod.kin hk (thn (ha.run pos pins s σ H _ I h) fun us s1 ⟨vs, H1, I1, r, q⟩ => ⟨I1.kIn, ?_⟩) he hpl
  exact wpAny_call (run_fnR F hr (passes_call tk fun _ _ _ _ h => h) I1 r q)
end
section
variable {P : Program} {w : World} {K : PySem.W.Frag} {mg : Str → Option Value} {base : Heap}
theorem fn_starX {x qual pv : Str} {st : Stmt} {f : Addr} {fd : FuncData} {N ps : List Str} {k : Nat} {sp : Sp} (F : Fun K x qual st f fd) (S : FnScope N (ps ++ [pv]) (defScope st))
    (hb : ∀ (kV doc pm : Value) (an : Option Addr) (cdv ct : Value) (us rest : List Value), us.length = ps.length → bindArgs (PySem.W.fnOf x qual (defArgs st) (defBody st) (defScope st) .none kV doc pm an cdv ct) ⟨us ++ rest, []⟩ = (newTuple rest >>= fun t => pure (ps.zip us ++ [(pv, t)])))
    (hbody : ∀ (cdv : Value) (A : Around) (outer : List Env) (s : Shared) (H : Hp) (vs : List V) (Q : VK) (E : XK), Room k (A.deeper (envOfC qual (defScope st) s.heap.objs.size f cdv)) → sp vs H Q E →
      ∃ t, PSs (cxOf (L2.CX P w) P w K mg base N qual (defScope st) f cdv A outer s H E) (defBody st) t ∧ t { nx := fun _ H' => Q .non H', rt := Q } (start N vs) H) : FnR P w K mg base (L2.CX P w) (k + 1) f (spStar ps.length sp) := by
  obtain ⟨oc, od, kV, doc, pm, an, cdv, ct, osl, rfl, lk, hcd⟩ := F.ex
  exact fn_star lk hcd S cxUp (hb kV doc pm an cdv ct) fun A outer s H vs Q E hr h => hbody cdv A outer s H vs Q E hr h
end
end L3

namespace L3
open PySem L2 StX RT
/-- what K says of the class Scheme -/
structure ScK (K : PySem.W.Frag) (mg : Str → Option Value) (C f : Addr) : Prop where
  hm : mg "Scheme" = some (.ref C)
  cl : Cls K C
  mke : L2.Mk K C f
  nk : NoAttr K C "kind"
  nn : NoAttr K C "needs"
  nv : NoAttr K C "variables"
  ns : NoAttr K C "size"
theorem raise_one {P : Program} {w : World} {K : PySem.W.Frag} {mg : Str → Option Value} {base : Heap} {x f : Str} {bm : List Value} {nw : String} {C : Addr} (X : E1 P w K mg base x f bm nw C) {u : V} {H1 : Hp} {Q : XK} (h : ∀ H' dx, Same H1 H' → H' dx = some (.xd [(f, u)]) → Q (.ref C) (some dx) H') :
    ([u] : List V).length ≤ 1000 ∧ ∀ a, H1 a = none → spI1 K bm nw f (.ref a :: [u]) (upd H1 a (exo a C none)) (fun v H2 => v = .non ∧ ∃ (d : Addr) (fs : List (Str × V)), H2 a = some (exo a C (some d)) ∧ H2 d = some (exd d fs) ∧ H1 d = none ∧ Q (.ref C) (some d) (upd (del H2 a) d (.xd fs))) E0 := by
  refine ⟨by simp, fun a ha => ⟨a, C, u, rfl, X.T, X.tk, upd_same, fun dx hdx nd => ⟨rfl, dx, [(f, u)], upd_same, by rw [upd_ne nd, upd_same], by rw [upd_ne nd] at hdx; exact hdx, h _ dx (fun b o q => ?_) upd_same⟩⟩⟩
  rw [upd_ne nd] at hdx
  have nb : b ≠ dx := fun z => by rw [z, hdx] at q; cases q
  have na : b ≠ a := fun z => by rw [z, ha] at q; cases q
  rw [upd_ne nb, del_ne na, upd_ne na, upd_ne nb, upd_ne na]
  exact q
/-- the variables and the size of a scheme -/
def Vars (kd : Kd) (nds : List Nd) : List Str := vsL (kd :: ksOf nds) []
def Size (kd : Kd) (nds : List Nd) : Nat := (leavesL (kd :: ksOf nds)).length
structure Fs (fs : List (Str × V)) (v : V) (p r : Addr) (n : Nat) : Prop where
  kind : fs.lookup ("kind" : Str) = some v
  needs : fs.lookup ("needs" : Str) = some (.ref p)
  vars : fs.lookup ("variables" : Str) = some (.ref r)
  size : fs.lookup ("size" : Str) = some (.int (n : Int))
  na : fs.lookup ("at" : Str) = none
  nn : fs.lookup ("named" : Str) = none
section
variable {P : Program} {w : World} {K : PySem.W.Frag} {mg : Str → Option Value} {base : Heap} {C CK CN fI : Addr}
abbrev s_Scheme___init__ : Stmt := inS (topS 49) 0
abbrev N_Scheme___init__ : List Str := ["self", "kind", "needs", "need", "every"]
theorem sc_Scheme___init__ : FnScope N_Scheme___init__ ["self", "kind", "needs"] (defScope s_Scheme___init__) := ⟨rfl, rfl, rfl, by decide +kernel, rfl, by decide +kernel, by decide +kernel⟩
def spInit (C CK CN : Addr) : Sp := fun vs H Q E => ∃ (t x p dx : Addr) (v : V) (us : List V) (d : PyData) (ds : List PyData), vs = [.ref x, v, .ref p] ∧ H x = some (.ins C dx []) ∧ H p = some (.tup us) ∧ Da t H v d ∧ DaAll t H us ds ∧ okD d = true ∧ psz d ≤ 900000 ∧ (∀ e ∈ ds, okD e = true ∧ psz e ≤ 900000) ∧
  (isKindD d = false → ∀ H' dx', Same H H' → H' dx' = some (.xd [("value", v)]) → E (.ref CK) (some dx') H') ∧
  (isKindD d = true → ∀ (i : Nat) (u : V) (e : PyData), us[i]? = some u → ds[i]? = some e → isNeedD e = false → (∀ (j : Nat) (e : PyData), j < i → ds[j]? = some e → isNeedD e = true) → ∀ H' dx', Same H H' → H' dx' = some (.xd [("value", u)]) → E (.ref CN) (some dx') H') ∧
  (isKindD d = true → (∀ e ∈ ds, isNeedD e = true) → ∃ (kd : Kd) (nds : List Nd), KdAt H v kd ∧ NdsAt H us nds ∧ (∀ nd ∈ nds, nd.ks.length ≤ 2) ∧ nds.length ≤ 1000 ∧ sizeL (kd :: ksOf nds) ≤ 100000 ∧
    ∀ H' fs r, (∀ b o, b ≠ x → H b = some o → H' b = some o) → H' x = some (.ins C dx fs) → Fs fs v p r (Size kd nds) → H' r = some (.tup ((Vars kd nds).map V.str)) → Q .non H')
theorem ok_init {f : Addr} {fd : FuncData} (F : Fun K "__init__" "Scheme.__init__" s_Scheme___init__ f fd) (SC : ScK K mg C fI) (X_InvalidKind : E1 P w K mg base "InvalidKind" "value" mroV "ValueError.__new__" CK) (X_InvalidNeed : E1 P w K mg base "InvalidNeed" "value" mroV "ValueError.__new__" CN)
    (D_is_kind : Kn P w K mg base 4 "is_kind" ["value"] spKind) (D_is_need : Kn P w K mg base 5 "is_need" ["value"] spNeed) (D_kinds_of : Kn P w K mg base 1 "kinds_of" ["needs"] (spKindsOf K))
    (D_variables_of : KnR P w K mg base 2 "variables_of" (spStar 0 (spVarsT K))) (D_size_of : KnR P w K mg base 2 "size_of" (spStar 0 (spSize K))) : FnR P w K mg base (L2.CX P w) 6 f (spStar 2 (spInit C CK CN)) := by
  refine fn_starX (ps := ["self", "kind"]) F sc_Scheme___init__ (fun _ _ _ _ _ _ us rest hl => match us, rest, hl with | [_, _], [], _ => rfl | [_, _], _ :: _, _ => rfl) (fun cdv A outer s H vs Q E hr h => ?_)
  obtain ⟨t, x, p, dx, v, us, d, ds, rfl, gx, gp, hd, hds, hok, hsz, hall, kK, kN, kG⟩ := h
  have hr_is_kind : Room 4 _ := hr.mono (by decide)
  have hr_is_need : Room 5 _ := hr
  have hr_kinds_of : Room 1 _ := hr.mono (by decide)
  have hr_variables_of : Room 2 _ := hr.mono (by decide)
  have hr_size_of : Room 2 _ := hr.mono (by decide)
  have hr2 : Room 2 _ := hr.mono (by decide)
  refine ⟨_, (pss_cons (ps_if (pt_not (pt_val (pe_kn D_is_kind hr_is_kind (pa_cons (pv 1) pa_nil))))
  (pss_one (ps_raise rfl (takes_of rfl rfl rfl rfl) (pmk_newX PySem.F.excBase_ValueError X_InvalidKind.T X_InvalidKind.R.sb X_InvalidKind.ty X_InvalidKind.I hr2 X_InvalidKind.hm (pa_cons (pv 1) pa_nil))))
  pss_nil)
  (pss_cons (ps_for (passes_of rfl) rfl (pi_tup (pv 2)) (pg_name (i := 3) sc_Scheme___init__.nd rfl (Or.inl rfl))
  (pss_one (ps_if (pt_not (pt_val (pe_kn D_is_need hr_is_need (pa_cons (pv 3) pa_nil))))
  (pss_one (ps_raise rfl (takes_of rfl rfl rfl rfl) (pmk_newX PySem.F.excBase_ValueError X_InvalidNeed.T X_InvalidNeed.R.sb X_InvalidNeed.ty X_InvalidNeed.I hr2 X_InvalidNeed.hm (pa_cons (pv 3) pa_nil))))
  pss_nil)))
  (pss_cons (ps_set (i := 4) sc_Scheme___init__.nd rfl (Or.inl rfl) (pe_op op_cat (pe_lst (pa_cons (pv 1) pa_nil)) (pe_kn D_kinds_of hr_kinds_of (pa_cons (pv 2) pa_nil))))
  (pss_cons (L2.ps_fld (pv 0) (pv 1) rfl)
  (pss_cons (L2.ps_fld (pv 0) (pv 2) rfl)
  (pss_cons (L2.ps_fld (pv 0) (pe_ks1 D_variables_of hr_variables_of (pv 4)) rfl)
  (pss_one (L2.ps_fld (pv 0) (pe_ks1 D_size_of hr_size_of (pv 4)) rfl)))))))), ?_⟩
  refine ⟨_, rfl, t, v, d, rfl, hd, hok, hsz, fun H1 s1 => ?_⟩
  refine ⟨_, rfl, ?_⟩
  cases hkd : isKindD d with
  | false =>
    refine iT rfl ?_
    exact ⟨_, rfl, raise_one X_InvalidKind fun H' dx' s2 g => kK hkd H' dx' (s1.trans s2) g⟩
  | true =>
  refine iF rfl ?_
  have gp1 := s1 _ _ gp
  have lud := hds.len
  refine ⟨_, rfl, p, rfl, ⟨_, SqT.of gp1⟩, for_it walk_tup (fun i σ H' => Same H H' ∧ (∀ (j : Nat) (e : PyData), j < i → ds[j]? = some e → isNeedD e = true) ∧ ∃ v3, σ = [some (.ref x), some v, some (.ref p), v3, none]) ⟨s1, fun j e hj => absurd hj (Nat.not_lt_zero _), _, rfl⟩ (fun i σ H' _ h => SqT.of (h.1 _ _ gp)) ?_ ?_⟩
  · rintro i y σ H2 H3 hi ⟨s2, hok2, v3, rfl⟩ ⟨rfl, ey⟩
    obtain ⟨e, ee, de⟩ := da_atN hds ey
    have he := hall e (List.mem_of_getElem? ee)
    refine ⟨_, rfl, t, y, e, rfl, de.kp (kp_same s2), he.1, he.2, fun H4 s4 => ?_⟩
    refine ⟨_, rfl, ?_⟩
    cases hn : isNeedD e with
    | false =>
      refine iT rfl ?_
      exact ⟨_, rfl, raise_one X_InvalidNeed fun H' dx' s5 g => kN hkd i y e ey ee hn hok2 H' dx' (s2.trans (s4.trans s5)) g⟩
    | true =>
      refine iF rfl ?_
      refine ⟨s2.trans s4, fun j e' hj ej => ?_, _, rfl⟩
      by_cases c : j < i
      · exact hok2 j e' c ej
      · obtain rfl : j = i := by omega
        rw [ee] at ej
        rw [← Option.some.inj ej]
        exact hn
  rintro σ H2 ⟨s2, hok2, v3, rfl⟩
  have hall2 : ∀ e ∈ ds, isNeedD e = true := fun e he => by
    obtain ⟨j, hj⟩ := List.getElem?_of_mem he
    exact hok2 j e (by rw [lud]; exact (List.getElem?_eq_some_iff.mp hj).1) hj
  obtain ⟨kd, nds, gv, gn, h2, h1000, hsize, k⟩ := kG hkd hall2
  refine ⟨_, rfl, slz rfl, fun l hl => ?_⟩
  have t2 := same_new (o := .lst [v]) hl
  have T2 := s2.trans t2
  refine ⟨_, rfl, p, us, nds, rfl, SqT.of (T2 _ _ gp), NdsAt.tups (same_tups T2) gn, h2, h1000, fun H3 l2 ws t3 gl2 kw => ?_⟩
  have T3 := T2.trans t3
  have lws : ws.length + 1 ≤ 100000 := by
    have := sizeL_len (ksOf nds)
    have e : sizeL (kd :: ksOf nds) = kd.size + sizeL (ksOf nds) := rfl
    have e2 := Paired.length kw
    have := Kd.size_pos kd
    omega
  refine ⟨l, l2, _, _, rfl, rfl, t3 _ _ upd_same, gl2, by rw [sizeLine_eq]; show 1 + ws.length ≤ _; omega, fun e he => ?_⟩
  have t4 := same_new (o := .lst ([v] ++ ws)) he
  have T4 := T3.trans t4
  have ge : (upd H3 e (.lst ([v] ++ ws))) e = some (.lst ([v] ++ ws)) := upd_same
  have kw4 := KdsAt.tups (same_tups t4) kw
  generalize upd H3 e (.lst ([v] ++ ws)) = H4 at T4 ge kw4 ⊢
  have gx4 := T4 _ _ gx
  have gp4 := T4 _ _ gp
  have ex : e ≠ x := fun z => by rw [z, gx4] at ge; cases ge
  have px : p ≠ x := fun z => by rw [z, gx4] at gp4; cases gp4
  have lf : ∀ (f : Str) (y : V) (fs : List (Str × V)) (m : Nat), fs.length ≤ m → (putF f y fs).length ≤ m + 1 := fun f y fs m h => by
    have := length_putF f y fs
    omega
  have l1 := lf "kind" v [] 0 (Nat.le_refl _)
  have l2 := lf "needs" (.ref p) _ 1 l1
  refine ⟨_, rfl, _, rfl, x, C, dx, _, rfl, gx4, SC.cl, SC.nk, by decide, ?_⟩
  refine ⟨_, rfl, _, rfl, x, C, dx, _, rfl, upd_same, SC.cl, SC.nn, by omega, ?_⟩
  have u5 : ∀ b o, b ≠ x → H4 b = some o → (upd (upd H4 x (.ins C dx (putF "kind" v []))) x (.ins C dx (putF "needs" (.ref p) (putF "kind" v [])))) b = some o := fun b o hb e => by
    rw [upd_ne hb, upd_ne hb]
    exact e
  have gx5 : (upd (upd H4 x (.ins C dx (putF "kind" v []))) x (.ins C dx (putF "needs" (.ref p) (putF "kind" v [])))) x = some (.ins C dx (putF "needs" (.ref p) (putF "kind" v []))) := upd_same
  have tp : Tups H4 (upd (upd H4 x (.ins C dx (putF "kind" v []))) x (.ins C dx (putF "needs" (.ref p) (putF "kind" v [])))) := fun b xs e => u5 b _ (fun z => by rw [z, gx4] at e; cases e) e
  generalize upd (upd H4 x (.ins C dx (putF "kind" v []))) x (.ins C dx (putF "needs" (.ref p) (putF "kind" v []))) = H5 at u5 gx5 tp ⊢
  have gk5 : KdsAt H5 ([v] ++ ws) (kd :: ksOf nds) := .cons ((gv.tups (same_tups T4)).tups tp) (KdsAt.tups tp kw4)
  have ge5 := u5 _ _ ex ge
  have lvs : ([v] ++ ws).length ≤ 100000 := by
    show (v :: ws).length ≤ _
    rw [List.length_cons]
    exact lws
  refine ⟨_, rfl, e, _, rfl, .inr (SqL.of ge5), [], _, rfl, rfl, Nat.le_of_lt (size_line (Nat.le_trans lvs (by decide))), fun q hq => ⟨q, _, _, rfl, SqT.of upd_same, KdsAt.tups (same_tups (same_new hq)) gk5, hsize, fun H6 r s6 _ gr => ?_⟩⟩
  have S6 := (same_new (o := .tup ([v] ++ ws)) hq).trans s6
  refine ⟨_, rfl, x, C, dx, _, rfl, S6 _ _ gx5, SC.cl, SC.nv, by omega, ?_⟩
  have l3 := lf "variables" (.ref r) _ 2 l2
  have u7 : ∀ b o, b ≠ x → H6 b = some o → (upd H6 x (.ins C dx (putF "variables" (.ref r) (putF "needs" (.ref p) (putF "kind" v []))))) b = some o := fun b o hb e => by
    rw [upd_ne hb]
    exact e
  have gx7 : (upd H6 x (.ins C dx (putF "variables" (.ref r) (putF "needs" (.ref p) (putF "kind" v []))))) x = some (.ins C dx (putF "variables" (.ref r) (putF "needs" (.ref p) (putF "kind" v [])))) := upd_same
  have tp7 : Tups H6 (upd H6 x (.ins C dx (putF "variables" (.ref r) (putF "needs" (.ref p) (putF "kind" v []))))) := fun b xs e => u7 b _ (fun z => by rw [z, S6 _ _ gx5] at e; cases e) e
  have rx : r ≠ x := fun z => by rw [z, S6 _ _ gx5] at gr; cases gr
  have gr7 := u7 _ _ rx gr
  generalize upd H6 x (.ins C dx (putF "variables" (.ref r) (putF "needs" (.ref p) (putF "kind" v [])))) = H7 at u7 gx7 tp7 gr7 ⊢
  have gk7 := KdsAt.tups tp7 (KdsAt.tups (same_tups S6) gk5)
  have ge7 := u7 _ _ ex (S6 _ _ ge5)
  refine ⟨_, rfl, e, _, rfl, .inr (SqL.of ge7), [], _, rfl, rfl, Nat.le_of_lt (size_line (Nat.le_trans lvs (by decide))), fun q2 hq2 => ⟨q2, _, _, rfl, SqT.of upd_same, KdsAt.tups (same_tups (same_new hq2)) gk7, hsize, fun H8 s8 => ?_⟩⟩
  have S8 := (same_new (o := .tup ([v] ++ ws)) hq2).trans s8
  refine ⟨_, rfl, x, C, dx, _, rfl, S8 _ _ gx7, SC.cl, SC.ns, by omega, ?_⟩
  refine k _ _ r (fun b o hb e => ?_) upd_same ⟨?_, ?_, ?_, ?_, ?_, ?_⟩ ?_
  · rw [upd_ne hb]
    exact S8 _ _ (u7 _ _ hb (S6 _ _ (u5 _ _ hb (T4 _ _ e))))
  · rw [lookup_putF, if_neg (by decide +kernel), lookup_putF, if_neg (by decide +kernel), lookup_putF, if_neg (by decide +kernel), lookup_putF, if_pos rfl]
  · rw [lookup_putF, if_neg (by decide +kernel), lookup_putF, if_neg (by decide +kernel), lookup_putF, if_pos rfl]
  · rw [lookup_putF, if_neg (by decide +kernel), lookup_putF, if_pos rfl]
  · rw [lookup_putF, if_pos rfl]
    rfl
  · rw [lookup_putF, if_neg (by decide +kernel), lookup_putF, if_neg (by decide +kernel), lookup_putF, if_neg (by decide +kernel), lookup_putF, if_neg (by decide +kernel)]
    rfl
  · rw [lookup_putF, if_neg (by decide +kernel), lookup_putF, if_neg (by decide +kernel), lookup_putF, if_neg (by decide +kernel), lookup_putF, if_neg (by decide +kernel)]
    rfl
  · rw [upd_ne rx]
    exact S8 _ _ gr7
end
end L3

/-! zip(t, l), t a tuple, l a list -/
namespace L3
open PySem PySem.Spec PyProof.Rows L2
/-- the pairs (t[i], l[i]), each new -/
def Izm (K : PySem.W.Frag) (a b : Addr) : It :=
  ⟨fun i H => ∃ (xs ys : List V) (x y : V), SqT K H a xs ∧ SqL K H b ys ∧ xs[i]? = some x ∧ ys[i]? = some y,
   fun i H v H' => ∃ T x y, v = .ref T ∧ H T = none ∧ H' = upd H T (.tup [x, y]) ∧ (∀ xs, SqT K H a xs → xs[i]? = some x) ∧ (∀ ys, SqL K H b ys → ys[i]? = some y),
   fun i H => ∃ xs ys : List V, SqT K H a xs ∧ SqL K H b ys ∧ i ≤ xs.length ∧ i ≤ ys.length ∧ (i = xs.length ∨ i = ys.length)⟩
theorem turn_zipM {P : Program} {w : World} {K : PySem.W.Frag} {elts : List Expr} {kk : Nat} {tpos : Pos} {a b z TI TO i1 i2 : Addr} (S : ZipSep2 z TI TO i1 i2 [i1, a] [i2, b]) (na : a ≠ i1) (nb : b ≠ i2) :
    Turn P w K (.Tuple elts kk tpos) (Izm K a b) [z, TI, TO, i1, i2] z (fun i h => IsZip h z TI TO .none ∧ IsTupOf2 h TI (.ref i1) (.ref i2) ∧ (∃ p q, IsTupOf2 h TO p q) ∧ h.IsTupleIter i1 a i ∧ h.IsListIter i2 b i) where
  mem := List.mem_cons_self ..
  obj := by
    rintro i h ⟨hz, hTI, ⟨p, q, hTO⟩, ⟨o1, e1, _, d1⟩, ⟨o2, e2, _, d2⟩⟩ c hc
    have hc : c = z ∨ c = TI ∨ c = TO ∨ c = i1 ∨ c = i2 := by simpa using hc
    rcases hc with rfl | rfl | rfl | rfl | rfl
    · exact ⟨_, hz, fun v r => nomatch r⟩
    · exact ⟨_, hTI, fun v r => nomatch r⟩
    · exact ⟨_, hTO, fun v r => nomatch r⟩
    · exact ⟨o1, e1, fun v r => by rw [d1] at r; cases r⟩
    · exact ⟨o2, e2, fun v r => by rw [d2] at r; cases r⟩
  keep := by
    rintro i h h' ⟨hz, hTI, ⟨p, q, hTO⟩, h1, h2⟩ k
    exact ⟨k z (by simp) _ hz, k TI (by simp) _ hTI, ⟨p, q, k TO (by simp) _ hTO⟩, h1.at fun o r => k i1 (by simp) o r, h2.at fun o r => k i2 (by simp) o r⟩
  item := by
    intro X hP hw hK hc i pins s σ H E I hf st hg
    subst hP hw hK
    obtain ⟨hz, hTI, ⟨p0, q0, hTO⟩, h1, h2⟩ := st
    obtain ⟨xs, ys, x, y, hqx, hqy, hx, hy⟩ := hg
    obtain ⟨it1, rv1, pl1, _⟩ := I.tuple hqx
    obtain ⟨it2, rv2, pl2, _⟩ := I.list hqy
    obtain ⟨u, hu, ru⟩ := rv1.get hx
    obtain ⟨u2, hu2, ru2⟩ := rv2.get hy
    have lt1 : i < it1.toArray.size := by
      obtain ⟨r, _⟩ := List.getElem?_eq_some_iff.mp hu
      simpa using r
    have lt2 : i < it2.toArray.size := by
      obtain ⟨r, _⟩ := List.getElem?_eq_some_iff.mp hu2
      simpa using r
    have hh : X.A.in1.handled = none := I.ok.hd hc
    have lz : z < s.heap.objs.size := Heap.lt_size hz
    have lI : TI < s.heap.objs.size := Heap.lt_size hTI
    have lO : TO < s.heap.objs.size := Heap.lt_size hTO
    have l1 : i1 < s.heap.objs.size := by obtain ⟨_, r, _⟩ := h1; exact Heap.lt_size r
    have l2 : i2 < s.heap.objs.size := by obtain ⟨_, r, _⟩ := h2; exact Heap.lt_size r
    refine wpAny_pyNext_zipD2_item S (Draws.tuple hh i1 a na it1.toArray) (Draws.list hh i2 b nb it2.toArray) hz hTI hTO ⟨h1, pl1⟩ ⟨h2, pl2.isList⟩ lt1 lt2 fun y1 y2 h' tk hy1 hy2 hz' hTO' st1' st2' hT hsz hk => ?_
    have e1 : y1 = u := by
      have r : it1[i]? = some y1 := by simpa using hy1
      rw [hu] at r
      exact (Option.some.inj r).symm
    have e2 : y2 = u2 := by
      have r : it2[i]? = some y2 := by simpa using hy2
      rw [hu2] at r
      exact (Option.some.inj r).symm
    subst e1 e2
    refine ⟨_, rfl, wpAny_letOwnedTupleGo_zip (s := { s with heap := h', toks := tk }) hz' fun h'' hz2 sb => ?_⟩
    have at2 : h''.get? s.heap.objs.size = some { cls := .type "tuple", data := .seq #[y1, y2] } := (sb.2 _ (Nat.ne_of_gt lz)).trans hT
    have new : ObjOk X.prog X.w (upd H s.heap.objs.size (.tup [x, y])) h'' s.heap.objs.size (.tup [x, y]) :=
      ⟨by show 2 ≤ sizeLine; decide, [y1, y2], .cons ru (.cons ru2 .nil), ⟨_, at2, rfl, _, rfl⟩⟩
    have J : Inv X pins σ (upd H s.heap.objs.size (.tup [x, y])) { s with heap := h'', toks := tk } :=
      I.turnedNew (t' := tk) (ch := [z, TI, TO, i1, i2]) (fun c o hb r => (sb.2 c (fun e => hb (by simp [e]))).trans (hk c o (fun e => hb (by simp [e])) (fun e => hb (by simp [e])) (fun e => hb (by simp [e])) (fun e => hb (by simp [e])) r)) hf (Nat.le_refl _) new
    refine ⟨.ref s.heap.objs.size, _, J, rfl, ⟨_, x, y, rfl, I.hok.fresh (Nat.le_refl _), rfl, fun l hl => by rw [I.tuple_inj hl hqx]; exact hx, fun l hl => by rw [I.list_inj hl hqy]; exact hy⟩, ⟨hz2, ?_, ⟨y1, y2, ?_⟩, st1'.1.at fun o r => (sb.2 _ (Ne.symm S.zi1)).trans r, st2'.1.at fun o r => (sb.2 _ (Ne.symm S.zi2)).trans r⟩, fun c hcm => ?_⟩
    · exact (sb.2 _ S.TIz).trans (hk _ _ S.TIz S.TITO S.TIi1 S.TIi2 hTI)
    · exact (sb.2 _ S.TOz).trans hTO'
    · have lc : c < s.heap.objs.size := by
        have hcm : c = z ∨ c = TI ∨ c = TO ∨ c = i1 ∨ c = i2 := by simpa using hcm
        rcases hcm with rfl | rfl | rfl | rfl | rfl <;> assumption
      rw [upd_ne (Nat.ne_of_lt lc)]
      exact (hf c hcm).1
  done := by
    intro X hP hw hK hc i pins s σ H E I hf st hg
    subst hP hw hK
    obtain ⟨hz, hTI, ⟨p0, q0, hTO⟩, h1, h2⟩ := st
    obtain ⟨xs, ys, hqx, hqy, le1, le2, he⟩ := hg
    obtain ⟨it1, rv1, pl1, _⟩ := I.tuple hqx
    obtain ⟨it2, rv2, pl2, _⟩ := I.list hqy
    have n1 : it1.toArray.size = xs.length := by rw [List.size_toArray, ← rv1.length]
    have n2 : it2.toArray.size = ys.length := by rw [List.size_toArray, ← rv2.length]
    have hh : X.A.in1.handled = none := I.ok.hd hc
    refine wpAny_pyNext_zipD2_end S (Draws.tuple hh i1 a na it1.toArray) (Draws.list hh i2 b nb it2.toArray) hz hTI hTO ⟨h1, pl1⟩ ⟨h2, pl2.isList⟩ (by omega) (by omega) (by omega) fun h' tk hk => ?_
    exact ⟨rfl, I.turnedL (t' := tk) (ch := [z, TI, TO, i1, i2]) (fun c o hb r => hk c o (fun e => hb (by simp [e])) (fun e => hb (by simp [e])) (fun e => hb (by simp [e])) (fun e => hb (by simp [e])) r) hf⟩
  self := fun A i s Q E st h => wpAny_pyIter_zip st.1 h
def iZipM (K : PySem.W.Frag) (ta : TA) : TI := fun σ H R => ta σ H fun vs H1 => ∃ a b xs ys, vs = [.ref a, .ref b] ∧ SqT K H1 a xs ∧ SqL K H1 b ys ∧ R (Izm K a b) H1
theorem pi_zipM {X : Cx} {e e2 : Expr} {ta : TA} {p pos tpos : Pos} {elts : List Expr} {kk : Nat} (hg : Gl X "zip") (hm : X.mg "zip" = none) (ha : PA X [e, e2] ta)
    (hs : starEach [e, e2] X.env = (false, eval e X.env) :: starEach [e2] X.env := by rfl) (hpl : (backTo pos (starEach [e2] X.env)).any (·.1) = false := by rfl) :
    PI X (.Tuple elts kk tpos) (.Call (.Name "zip" p) [e, e2] [] pos) (iZipM X.K ta) := by
  refine ⟨fun pins s σ H R I h => ?_⟩
  refine Call_ (ld_blt I hg hm PyProof.Rows.boot_zip (PyProof.Rows.callWith_type1 (thn (ha.run pos pins s σ H _ I h) fun us s1 ⟨vs, H1, I1, r1, a, b, xs, ys, ev, hqx, hqy, q⟩ => ?_) hs hpl))
  subst ev
  cases r1 with
  | cons r rr =>
    cases rr with
    | cons r2 rr =>
      cases rr
      cases r
      cases r2
      obtain ⟨it1, rv1, pl1, _⟩ := I1.tuple hqx
      obtain ⟨it2, rv2, pl2, _⟩ := I1.list hqy
      have la : a < s1.heap.objs.size := by
        obtain ⟨_, r, _⟩ := id pl1
        exact Heap.lt_size r
      have lb : b < s1.heap.objs.size := pl2.lt
      refine zip_begins2 (begins_tuple a it1.toArray) (begins_list b it2.toArray) pl1 pl2.isList fun h' hz hTI hTO g1 g2 hsz hk => wpAny_pyIter_zip hz ?_
      have J : Inv X pins σ H1 { s1 with heap := h' } := I1.kept (t' := s1.toks) hk
      have S : ZipSep2 (s1.heap.objs.size + 4) (s1.heap.objs.size + 2) (s1.heap.objs.size + 3) s1.heap.objs.size (s1.heap.objs.size + 1) [s1.heap.objs.size, a] [s1.heap.objs.size + 1, b] := by
        generalize s1.heap.objs.size = m at la lb
        have ma : ∀ k, m + k ≠ a := fun k => Nat.ne_of_gt (Nat.lt_of_lt_of_le la (Nat.le_add_right m k))
        have mb : ∀ k, m + k ≠ b := fun k => Nat.ne_of_gt (Nat.lt_of_lt_of_le lb (Nat.le_add_right m k))
        have m0 : m ≠ b := mb 0
        have mm : ∀ {k l : Nat}, k ≠ l → m + k ≠ m + l := fun h e => h (Nat.add_left_cancel e)
        have m1 : ∀ {k : Nat}, k ≠ 0 → m + k ≠ m := fun h e => h (Nat.add_left_cancel (k := 0) e)
        exact ⟨mm (by decide), mm (by decide), mm (by decide), m1 (by decide), by simp, fun h => by
            rcases List.mem_cons.mp h with h | h
            · exact m1 (by decide) h
            · exact ma 4 (List.mem_singleton.mp h), fun h => by
            rcases List.mem_cons.mp h with h | h
            · exact m1 (by decide) h
            · exact ma 3 (List.mem_singleton.mp h), mm (by decide), by simp, fun h => by
            rcases List.mem_cons.mp h with h | h
            · exact mm (by decide) h
            · exact mb 4 (List.mem_singleton.mp h), fun h => by
            rcases List.mem_cons.mp h with h | h
            · exact mm (by decide) h
            · exact mb 3 (List.mem_singleton.mp h), fun h => by
            rcases List.mem_cons.mp h with h | h
            · exact m1 (k := 1) (by decide) h.symm
            · exact m0 (List.mem_singleton.mp h), fun h => by
            rcases List.mem_cons.mp h with h | h
            · exact m1 (k := 1) (by decide) h
            · exact ma 1 (List.mem_singleton.mp h)⟩
      refine ⟨s1.heap.objs.size + 4, [s1.heap.objs.size + 4, s1.heap.objs.size + 2, s1.heap.objs.size + 3, s1.heap.objs.size, s1.heap.objs.size + 1], _, _, H1, rfl, J, turn_zipM S (Nat.ne_of_lt la) (Nat.ne_of_lt (Nat.lt_succ_of_lt lb)), ⟨hz, hTI, ⟨_, _, hTO⟩, ⟨_, g1, rfl, rfl⟩, ⟨_, g2, rfl, rfl⟩⟩, fun c hcm => ?_, q⟩
      have lc : s1.heap.objs.size ≤ c := by
        have hcm : c = s1.heap.objs.size + 4 ∨ c = s1.heap.objs.size + 2 ∨ c = s1.heap.objs.size + 3 ∨ c = s1.heap.objs.size ∨ c = s1.heap.objs.size + 1 := by simpa using hcm
        rcases hcm with rfl | rfl | rfl | rfl | rfl <;> first | exact Nat.le_refl _ | exact Nat.le_add_right _ _
      exact I1.fpOk lc (I1.hok.fresh lc)
theorem walk_zipM {K : PySem.W.Frag} {a b : Addr} {xs ys : List V} {n : Nat} (hn : n = min xs.length ys.length) : Walk (Izm K a b) n (fun H => SqT K H a xs ∧ SqL K H b ys) (YPair (fun i => xs[i]?) (fun i => ys[i]?)) := by
  subst hn
  refine ⟨fun i _ hi r => ⟨xs, ys, xs[i]'(by omega), ys[i]'(by omega), r.1, r.2, List.getElem?_eq_getElem (by omega), List.getElem?_eq_getElem (by omega)⟩, fun _ r => ⟨xs, ys, r.1, r.2, by omega, by omega, by omega⟩, fun i H v H' _ r y => ?_⟩
  obtain ⟨T, x, z, e1, e2, e3, e4, e5⟩ := y
  exact ⟨T, x, z, e1, e2, e3, e4 xs r.1, e5 ys r.2⟩
end L3

/-! dict(zip(a, b)), a a tuple of different texts, b a tuple or a list -/
namespace L3
open PySem PySem.Spec PyProof.Rows L2
section
variable {prog : Program} {w : World} {A : Around} {E : Value → Shared → Prop} {s : Shared} {z TI TO T i1 i2 : Addr} {fp1 fp2 : List Addr} {n1 n2 i : Nat} {P1 P2 : Nat → Value → Prop} {St1 St2 : Nat → Heap → Prop} {f : Bool} {oT : Obj}
/-- a zip whose last pair is still out gives the next pair -/
theorem zd_item {Q : Option Value → Shared → Prop} (S : ZipSep2 z TI TO i1 i2 fp1 fp2) (D1 : Draws prog w A.in1 i1 fp1 n1 P1 St1) (D2 : Draws prog w A.in1 i2 fp2 n2 P2 St2) (hz : IsZipHeld s.heap z TI TO T f) (hT : s.heap.get? T = some oT) (hTI : IsPair s.heap TI (.ref i1) (.ref i2))
    (st1 : St1 i s.heap) (st2 : St2 i s.heap) (h1 : i < n1) (h2 : i < n2)
    (q : ∀ x y h' tk, P1 i x → P2 i y → IsZipHeld h' z TI TO T true → St1 (i + 1) h' → St2 (i + 1) h' → IsPair h' s.heap.objs.size x y →
      (∀ b o, b ≠ z → b ≠ i1 → b ≠ i2 → s.heap.get? b = some o → h'.get? b = some o) → Q (some (.ref s.heap.objs.size)) { s with heap := h', toks := tk }) : wpAny (model prog w) A (pyNext (.ref z)) Q E s := by
  have isZip : s.TypeIs (.ref z) "zip" := ⟨_, hz, rfl⟩
  have body : ∀ (E' : Value → Shared → Prop), wpAny (model prog w) A.in1 (Builtin.«zip.__next__» ⟨[.ref z], []⟩) (fun fin s' => ∃ v, fin = .done (.ret v) ∧ Q (some v) s') E' s := by
    intro E'
    show wpAny _ _ (field (.ref z) 2 >>= _) _ _ s
    refine wpAny_bind (wpAny_field (i := 2) hz rfl rfl ?_)
    show wpAny _ _ (field (.ref z) 3 >>= _) _ _ s
    refine wpAny_bind (wpAny_field (i := 3) hz rfl rfl (wpAny_bind (wpAny_seqItems hTI rfl ?_)))
    refine wpAny_bind (wpAny_tupleHeld_zip hz hT fun ha hza hsa => ?_)
    rw [if_neg Bool.false_ne_true]
    refine wpAny_bind ?_
    rw [← Array.forIn_toList]
    simp only [List.forIn_nil, List.forIn_cons]
    refine wpAny_bind (wpAny_bind (wpAny_holding (wpAny_bind (D1.item i { s with heap := ha } _ _ h1 (D1.over st1 hsa S.zf1) fun x hb tk1 px sn1 hsb => wpAny_pure (wpAny_pure ?_)))))
    refine wpAny_bind (wpAny_bind (wpAny_holding (wpAny_bind (D2.item i { s with heap := hb, toks := tk1 } _ _ h2 (D2.over (D2.over st2 hsa S.zf2) hsb S.sep1_2) fun y hc tk2 py sn2 hsc => wpAny_pure (wpAny_pure ?_)))))
    refine wpAny_pure ?_
    show wpAny _ _ (newTuple [x, y] >>= _) _ _ _
    refine wpAny_bind (wpAny_newTuple ?_)
    have size3 : hc.objs.size = s.heap.objs.size := (hsc.1.trans hsb.1).trans hsa.1
    have stays : ∀ b o, b ≠ z → b ≠ i1 → b ≠ i2 → s.heap.get? b = some o → hc.get? b = some o := fun b o n1 n2 n3 e => hsc.extBut b o n3 (hsb.extBut b o n2 (hsa.extBut b o n1 e))
    have pz : IsZipHeld hc z TI TO T true := hsc.extBut z _ S.zi2 (hsb.extBut z _ S.zi1 hza)
    refine wpAny_pure ⟨_, rfl, ?_⟩
    have fresh : IsPair (hc.push { cls := .type "tuple", data := .seq #[x, y] }) hc.objs.size x y := Heap.get?_push_size _ rfl
    show Q (some (.ref hc.objs.size)) _
    rw [size3] at fresh ⊢
    refine q x y _ tk2 px py (Heap.get?_push_of_some _ pz) (D1.frame _ _ _ (D1.over sn1 hsc S.sep2_1) fun b hb o e => Heap.get?_push_of_some _ e) (D2.frame _ _ _ sn2 fun b hb o e => Heap.get?_push_of_some _ e) fresh fun b o n1 n2 n3 e => Heap.get?_push_of_some _ (stays b o n1 n2 n3 e)
  unfold pyNext
  refine wpAny_bind (wpAny_attempt (wpAny_callSpecial?_slot (name := Str.ofString "__next__") isZip F.slot_zip_next (wpAny_call_entry F.slot_zip_next isZip F.entry_zip_next ?_ (F.args_zip_next_1 _))))
  exact wpAny_mono (body _) (fun fin s' ⟨v, e, h⟩ => ⟨v, e, wpAny_pure h⟩) fun _ _ h => h
theorem zd_end {Q : Option Value → Shared → Prop} (S : ZipSep2 z TI TO i1 i2 fp1 fp2) (D1 : Draws prog w A.in1 i1 fp1 n1 P1 St1) (hz : IsZipHeld s.heap z TI TO T f) (hT : s.heap.get? T = some oT) (hTI : IsPair s.heap TI (.ref i1) (.ref i2))
    (st1 : St1 n1 s.heap) (q : ∀ h', (∀ b o, b ≠ z → b ≠ i1 → b ≠ i2 → s.heap.get? b = some o → h'.get? b = some o) → Q none { s with heap := h' }) : wpAny (model prog w) A (pyNext (.ref z)) Q E s := by
  have isZip : s.TypeIs (.ref z) "zip" := ⟨_, hz, rfl⟩
  unfold pyNext
  refine wpAny_bind (wpAny_attempt (wpAny_callSpecial?_slot (name := Str.ofString "__next__") isZip F.slot_zip_next (wpAny_call_entry F.slot_zip_next isZip F.entry_zip_next ?_ (F.args_zip_next_1 _))))
  show wpAny _ _ (field (.ref z) 2 >>= _) _ _ s
  refine wpAny_bind (wpAny_field (i := 2) hz rfl rfl ?_)
  show wpAny _ _ (field (.ref z) 3 >>= _) _ _ s
  refine wpAny_bind (wpAny_field (i := 3) hz rfl rfl (wpAny_bind (wpAny_seqItems hTI rfl ?_)))
  refine wpAny_bind (wpAny_tupleHeld_zip hz hT fun ha hza hsa => ?_)
  rw [if_neg Bool.false_ne_true]
  refine wpAny_bind ?_
  rw [← Array.forIn_toList]
  simp only [List.forIn_nil, List.forIn_cons]
  refine wpAny_bind (wpAny_bind (wpAny_holding (wpAny_bind (D1.done { s with heap := ha } _ _ (D1.over st1 hsa S.zf1) fun hb e hsb he => ?_))))
  obtain ⟨o, ho, hc⟩ := he
  refine wpAny_bind (wpAny_isInstance (T := "StopIteration") (b := true) ⟨o, ho, hc⟩ isSubtype_stop ?_)
  exact wpAny_pure (q hb fun b o n1 n2 _ e => hsb b o n2 (hsa.extBut b o n1 e))
end
section
variable {prog : Program} {w : World} {z TI TO i1 i2 : Addr} {fp1 fp2 : List Addr} {n : Nat} {P1 P2 : Nat → Value → Prop} {St1 St2 : Nat → Heap → Prop}
theorem PairArg.zipD (S : ZipSep2 z TI TO i1 i2 fp1 fp2) (D1 : ∀ A : Around, A.handled = none → Draws prog w A i1 fp1 n P1 St1) (D2 : ∀ A : Around, A.handled = none → Draws prog w A i2 fp2 n P2 St2)
    (th1 : ∀ h, St1 0 h → ∀ b ∈ fp1, ∃ o, h.get? b = some o) (th2 : ∀ h, St2 0 h → ∀ b ∈ fp2, ∃ o, h.get? b = some o) (f1 : ∀ i h h', St1 i h → (∀ b ∈ fp1, ∀ o, h.get? b = some o → h'.get? b = some o) → St1 i h') (f2 : ∀ i h h', St2 i h → (∀ b ∈ fp2, ∀ o, h.get? b = some o → h'.get? b = some o) → St2 i h') :
    PairArg prog w "zip" z (z :: TI :: TO :: (fp1 ++ fp2)) [z, TO, i1, i2] n (fun i k v => P1 i k ∧ P2 i v)
      (fun h => IsZip h z TI TO .none ∧ IsPair h TI (.ref i1) (.ref i2) ∧ (∃ a b, IsPair h TO a b) ∧ St1 0 h ∧ St2 0 h) where
  type := fun s ok => ⟨_, ok.1, rfl⟩
  notDict := by decide
  keep := fun h h' ok hk => by
    obtain ⟨hz, hTI, ⟨a, b, hTO⟩, s1, s2⟩ := ok
    exact ⟨hk _ _ hz, hk _ _ hTI, ⟨a, b, hk _ _ hTO⟩, f1 _ _ _ s1 fun b _ o e => hk b o e, f2 _ _ _ s2 fun b _ o e => hk b o e⟩
  there := fun h ok b hb => by
    obtain ⟨hz, hTI, ⟨a, c, hTO⟩, s1, s2⟩ := ok
    rcases List.mem_cons.mp hb with rfl | hb
    · exact ⟨_, hz⟩
    rcases List.mem_cons.mp hb with rfl | hb
    · exact ⟨_, hTI⟩
    rcases List.mem_cons.mp hb with rfl | hb
    · exact ⟨_, hTO⟩
    rcases List.mem_append.mp hb with hb | hb
    · exact th1 h s1 b hb
    · exact th2 h s2 b hb
  sub := fun c hc => by
    have hc' : c = z ∨ c = TO ∨ c = i1 ∨ c = i2 := by simpa using hc
    rcases hc' with rfl | rfl | rfl | rfl
    · exact List.mem_cons_self ..
    · exact List.mem_cons_of_mem _ (List.mem_cons_of_mem _ (List.mem_cons_self ..))
    · exact List.mem_cons_of_mem _ (List.mem_cons_of_mem _ (List.mem_cons_of_mem _ (List.mem_append_left _ S.mem1)))
    · exact List.mem_cons_of_mem _ (List.mem_cons_of_mem _ (List.mem_cons_of_mem _ (List.mem_append_right _ S.mem2)))
  noKeys := fun A s Q E hA ok h => getAttrOr_miss_zip ok.1 rfl rfl rfl zip_no_keys (by decide +kernel) hA h
  iter := fun A s d Q E hA ok hd hdf h => by
    obtain ⟨hz, hTI, ⟨a, b, hTO⟩, s1, s2⟩ := ok
    simp only [List.mem_cons, List.mem_append, not_or] at hdf
    obtain ⟨dz, dTI, dTO, df1, df2⟩ := hdf
    have di1 : d ≠ i1 := fun e => df1 (by rw [e]; exact S.mem1)
    have di2 : d ≠ i2 := fun e => df2 (by rw [e]; exact S.mem2)
    refine wpAny_pyIter_zip hz (h z [z, TO, i1, i2] (fun i h => IsPair h TI (.ref i1) (.ref i2) ∧ St1 i h ∧ St2 i h ∧
      ((IsZip h z TI TO .none ∧ ∃ a b, IsPair h TO a b) ∨ ∃ T f oT, IsZipHeld h z TI TO T f ∧ h.get? T = some oT ∧ T ≠ z ∧ T ≠ i1 ∧ T ≠ i2 ∧ T ≠ d)) s.heap s.toks ?_
      ⟨hTI, s1, s2, .inl ⟨hz, a, b, hTO⟩⟩ (fun _ _ e => e) fun b hb => .inl hb)
    exact {
      off := fun hm => by
        simp only [List.mem_cons, List.not_mem_nil, or_false] at hm
        rcases hm with e | e | e | e
        · exact dz e
        · exact dTO e
        · exact di1 e
        · exact di2 e
      frame := fun i h₁ h₂ st hk => by
        obtain ⟨hTI, s1, s2, hz⟩ := st
        refine ⟨hk _ _ (Ne.symm dTI) hTI, f1 _ _ _ s1 fun b hb o e => hk b o (fun q => df1 (q ▸ hb)) e, f2 _ _ _ s2 fun b hb o e => hk b o (fun q => df2 (q ▸ hb)) e, ?_⟩
        rcases hz with ⟨hz, a, b, hTO⟩ | ⟨T, f, oT, hz, hT, r1, r2, r3, r4⟩
        · exact .inl ⟨hk _ _ (Ne.symm dz) hz, a, b, hk _ _ (Ne.symm dTO) hTO⟩
        · exact .inr ⟨T, f, oT, hk _ _ (Ne.symm dz) hz, hk _ _ r4 hT, r1, r2, r3, r4⟩
      item := fun i s₁ Q₁ E₁ hi st hds hQ => by
        obtain ⟨hTI, s1, s2, hz⟩ := st
        have hA1 : A.in1.handled = none := hA
        have lt : ∀ {c o}, s₁.heap.get? c = some o → s₁.heap.objs.size ≠ c := fun e => Nat.ne_of_gt (Heap.lt_size e)
        have n1 : s₁.heap.objs.size ≠ i1 := let ⟨_, e⟩ := (D1 _ hA).live _ _ s1; lt e
        have n2 : s₁.heap.objs.size ≠ i2 := let ⟨_, e⟩ := (D2 _ hA).live _ _ s2; lt e
        rcases hz with ⟨hz, a, b, hTO⟩ | ⟨T, f, oT, hz, hT, r1, r2, r3, r4⟩
        · refine wpAny_pyNext_zipD2_item S (D1 _ hA1) (D2 _ hA1) hz hTI hTO s1 s2 hi hi fun x y h' tk px py a1 a2 a3 a4 a5 a6 hk => ?_
          exact hQ s₁.heap.objs.size x y h' tk ⟨px, py⟩ (.inl ⟨_, a5, rfl, _, rfl⟩)
            ⟨hk _ _ S.TIz S.TITO S.TIi1 S.TIi2 hTI, a3, a4, .inr ⟨s₁.heap.objs.size, false, _, a1, a5, lt hz, n1, n2, Nat.ne_of_gt hds⟩⟩
            fun c o hc e => hk c o (fun x => hc (by simp [x])) (fun x => hc (by simp [x])) (fun x => hc (by simp [x])) (fun x => hc (by simp [x])) e
        · refine zd_item S (D1 _ hA1) (D2 _ hA1) hz hT hTI s1 s2 hi hi fun x y h' tk px py a1 a3 a4 a5 hk => ?_
          exact hQ s₁.heap.objs.size x y h' tk ⟨px, py⟩ (.inl ⟨_, a5, rfl, _, rfl⟩)
            ⟨hk _ _ S.TIz S.TIi1 S.TIi2 hTI, a3, a4, .inr ⟨T, true, oT, a1, hk _ _ r1 r2 r3 hT, r1, r2, r3, r4⟩⟩
            fun c o hc e => hk c o (fun x => hc (by simp [x])) (fun x => hc (by simp [x])) (fun x => hc (by simp [x])) e
      done := fun s₁ Q₁ E₁ st hQ => by
        obtain ⟨hTI, s1, s2, hz⟩ := st
        have hA1 : A.in1.handled = none := hA
        rcases hz with ⟨hz, a, b, hTO⟩ | ⟨T, f, oT, hz, hT, r1, r2, r3, r4⟩
        · exact wpAny_pyNext_zipD2_end S (D1 _ hA1) (D2 _ hA1) hz hTI hTO s1 s2 (Nat.le_refl _) (Nat.le_refl _) (.inl rfl) fun h' tk hk => hQ h' tk fun c o hc e => hk c o (fun x => hc (by simp [x])) (fun x => hc (by simp [x])) (fun x => hc (by simp [x])) (fun x => hc (by simp [x])) e
        · exact zd_end S (D1 _ hA1) hz hT hTI s1 fun h' hk => hQ h' s₁.toks fun c o hc e => hk c o (fun x => hc (by simp [x])) (fun x => hc (by simp [x])) (fun x => hc (by simp [x])) e }
end
/-- the pairs, as they are stored -/
def zipKV (zs : List Str) (ys : List V) : List (Key × V) := (zs.zip ys).map fun p => (.inr p.1, p.2)
section
variable {X : Cx} {pins : List (Addr × Obj)} {σ : L2.St} {H : Hp} {s : Shared}
theorem zip_sep {m a b : Nat} (la : a < m) (lb : b < m) : ZipSep2 (m + 4) (m + 2) (m + 3) m (m + 1) [m, a] [m + 1, b] := by
  have ma : ∀ k, m + k ≠ a := fun k => Nat.ne_of_gt (Nat.lt_of_lt_of_le la (Nat.le_add_right m k))
  have mb : ∀ k, m + k ≠ b := fun k => Nat.ne_of_gt (Nat.lt_of_lt_of_le lb (Nat.le_add_right m k))
  have m0 : m ≠ b := mb 0
  have mm : ∀ {k l : Nat}, k ≠ l → m + k ≠ m + l := fun h e => h (Nat.add_left_cancel e)
  have m1 : ∀ {k : Nat}, k ≠ 0 → m + k ≠ m := fun h e => h (Nat.add_left_cancel (k := 0) e)
  exact ⟨mm (by decide), mm (by decide), mm (by decide), m1 (by decide), by simp, fun h => by
      rcases List.mem_cons.mp h with h | h
      · exact m1 (by decide) h
      · exact ma 4 (List.mem_singleton.mp h), fun h => by
      rcases List.mem_cons.mp h with h | h
      · exact m1 (by decide) h
      · exact ma 3 (List.mem_singleton.mp h), mm (by decide), by simp, fun h => by
      rcases List.mem_cons.mp h with h | h
      · exact mm (by decide) h
      · exact mb 4 (List.mem_singleton.mp h), fun h => by
      rcases List.mem_cons.mp h with h | h
      · exact mm (by decide) h
      · exact mb 3 (List.mem_singleton.mp h), fun h => by
      rcases List.mem_cons.mp h with h | h
      · exact m1 (k := 1) (by decide) h.symm
      · exact m0 (List.mem_singleton.mp h), fun h => by
      rcases List.mem_cons.mp h with h | h
      · exact m1 (k := 1) (by decide) h
      · exact ma 1 (List.mem_singleton.mp h)⟩
/-- the pairs of zip as keys and values -/
theorem zip_have {P : Program} {w : World} {zs : List Str} {ys : List V} {ia ib : List Value} (rv : Vals (zs.map V.str) ia) (rw' : Vals ys ib) (hl : zs.length = ys.length) :
    ∃ prs : List (Key × Value), PairsHave (mixKind P w) zs.length (fun i k v => ia[i]? = some k ∧ ib[i]? = some v) prs ∧ KV (zipKV zs ys) prs := by
  induction zs generalizing ys ia ib with
  | nil =>
    cases ys with
    | nil =>
      cases rv
      exact ⟨[], ⟨rfl, fun i k v h => by simp at h⟩, .nil⟩
    | cons y r => cases hl
  | cons z r ih =>
    cases ys with
    | nil => cases hl
    | cons y ry =>
      cases rv with
      | cons r1 r2 =>
        cases rw' with
        | cons q1 q2 =>
          obtain ⟨prs, ⟨l, h⟩, kv⟩ := ih r2 q2 (Nat.succ.inj hl)
          refine ⟨(.inr z, _) :: prs, ⟨by rw [List.length_cons, List.length_cons, l], fun i k v hh => ?_⟩, .cons ⟨rfl, q1⟩ kv⟩
          cases i with
          | zero =>
            obtain ⟨e1, e2⟩ := hh
            cases e1
            cases e2
            exact ⟨.inr z, rfl, kV_is r1⟩
          | succ i =>
            obtain ⟨k', e1, e2⟩ := h i k v (by simpa using hh)
            exact ⟨k', by simpa using e1, e2⟩
def tDictZip (K : PySem.W.Frag) (ta : TA) : TE := fun σ H Q => ta σ H fun vs H1 => ∃ (a b : Addr) (zs : List Str) (ys : List V), vs = [.ref a, .ref b] ∧ SqT K H1 a (zs.map V.str) ∧ (SqT K H1 b ys ∨ SqL K H1 b ys) ∧ zs.length = ys.length ∧
  ∀ D, H1 D = none → Q (.ref D) (upd H1 D (.dK (mergeK [] (zipKV zs ys))))
theorem dict_zip_done {A : Around} {zs : List Str} {ys : List V} {ia ib : List Value} {a b : Addr} {h' : Heap} {P1 P2 : Nat → Value → Prop} {St1 St2 : Nat → Heap → Prop} {Q : VK} {n : Nat} (I : Inv X pins σ H s) (rv : Vals (zs.map V.str) ia) (rw' : Vals ys ib) (hl : zs.length = ys.length) (hn : n = zs.length) (hz : n ≤ sizeLine) (la : a < s.heap.objs.size) (lb : b < s.heap.objs.size)
    (D1 : ∀ A : Around, A.handled = none → Draws X.prog X.w A s.heap.objs.size [s.heap.objs.size, a] n P1 St1) (D2 : ∀ A : Around, A.handled = none → Draws X.prog X.w A (s.heap.objs.size + 1) [s.heap.objs.size + 1, b] n P2 St2) (p1 : ∀ i k, P1 i k → ia[i]? = some k) (p2 : ∀ i k, P2 i k → ib[i]? = some k)
    (th1 : ∀ h, St1 0 h → ∀ b' ∈ [s.heap.objs.size, a], ∃ o, h.get? b' = some o) (th2 : ∀ h, St2 0 h → ∀ b' ∈ [s.heap.objs.size + 1, b], ∃ o, h.get? b' = some o)
    (hZ : IsZip h' (s.heap.objs.size + 4) (s.heap.objs.size + 2) (s.heap.objs.size + 3) .none) (hTI : IsPair h' (s.heap.objs.size + 2) (.ref s.heap.objs.size) (.ref (s.heap.objs.size + 1))) (hTO : IsPair h' (s.heap.objs.size + 3) .none .none) (s1 : St1 0 h') (s2 : St2 0 h') (hsz : h'.objs.size = s.heap.objs.size + 5) (hk : ∀ c o, s.heap.get? c = some o → h'.get? c = some o)
    (hh : A.handled = none) (hA : X.A.handled = none) (q : ∀ D, H D = none → Q (.ref D) (upd H D (.dK (mergeK [] (zipKV zs ys))))) :
    wpAny (model X.prog X.w) A (call (.type "dict") [.ref (s.heap.objs.size + 4)]) (EP X pins σ Q) X.xe { s with heap := h' } := by
  obtain ⟨prs, hv, kv⟩ := zip_have (P := X.prog) (w := X.w) rv rw' hl
  have S := zip_sep (m := s.heap.objs.size) (a := a) (b := b) la lb
  refine call_dict_pairs (knd := mixKind X.prog X.w) (kvs := prs) (PairArg.zipD S D1 D2 th1 th2 (D1 A hh).frame (D2 A hh).frame) hh ⟨hZ, hTI, ⟨_, _, hTO⟩, s1, s2⟩ ⟨by rw [hn]; exact hv.1, fun i k v r => hv.2 i k v ⟨p1 i k r.1, p2 i v r.2⟩⟩ hz fun h3 tk hd kp => ?_
  have kk : ∀ b' o, s.heap.get? b' = some o → h3.get? b' = some o := fun b' o e => kp b' o (fun z => by
    have := Heap.lt_size e
    simp only [List.mem_cons, List.not_mem_nil, or_false] at z
    exact na_old this (by rcases z with z | z | z | z <;> simp [z])) (hk b' o e)
  have hm : (h'.objs.size == sysModules) = false := beq_eq_false_iff_ne.mpr (Nat.ne_of_gt (Nat.lt_of_lt_of_le I.big (by rw [hsz]; exact Nat.le_add_right _ _)))
  have hL : s.heap.objs.size ≤ h'.objs.size := by rw [hsz]; exact Nat.le_add_right _ _
  have lk : (zipKV zs ys).length = zs.length := by
    unfold zipKV
    rw [List.length_map, List.length_zip]
    omega
  have hlen : (mergeK [] (zipKV zs ys)).length ≤ sizeLine := by
    refine Nat.le_trans (length_mergeK (zipKV zs ys) []) ?_
    rw [List.length_nil, Nat.zero_add, lk, ← hn]
    exact hz
  exact ⟨.ref h'.objs.size, upd H h'.objs.size (.dK (mergeK [] (zipKV zs ys))), I.laid (t' := tk) kk hL (show ObjOk X.prog X.w _ _ _ (.dK (mergeK [] (zipKV zs ys))) from ⟨hlen, hm, merged [] prs, KV.merge kv .nil, hd⟩), rfl, q _ (I.hok.fresh hL)⟩
theorem pe_dictZip {e e2 : Expr} {ta : TA} {p p2 pos pos2 : Pos} (hg : Gl X "dict") (hm : X.mg "dict" = none) (hgz : Gl X "zip") (hmz : X.mg "zip" = none) (hc : X.calm = true) (hp : PA X [e, e2] ta)
    (hs : starEach [.Call (.Name "zip" p2) [e, e2] [] pos2] X.env = (false, eval (.Call (.Name "zip" p2) [e, e2] [] pos2) X.env) :: starEach [] X.env := by rfl) (hpl : (backTo pos (starEach [] X.env)).any (·.1) = false := by rfl)
    (hs2 : starEach [e, e2] X.env = (false, eval e X.env) :: starEach [e2] X.env := by rfl) (hpl2 : (backTo pos2 (starEach [e2] X.env)).any (·.1) = false := by rfl) :
    PE X (.Call (.Name "dict" p) [.Call (.Name "zip" p2) [e, e2] [] pos2] [] pos) (tDictZip X.K ta) := by
  refine ⟨fun pins s σ H Q I h => ?_⟩
  refine Call_ (ld_blt I hg hm (show bootBuiltins "dict" = some (Value.type "dict") by decide +kernel) (PyProof.Rows.callWith_type1 ?_ hs hpl))
  rw [hs]
  show wpAny _ _ (spliced ((false, eval (.Call (.Name "zip" p2) [e, e2] [] pos2) X.env) :: backTo pos (starEach [] X.env))) _ _ s
  refine Calls.spliced_cons ?_
  refine Call_ (ld_blt I hgz hmz PyProof.Rows.boot_zip (PyProof.Rows.callWith_type1 (thn (hp.run pos2 pins s σ H _ I h) fun us s1 ⟨vs, H1, I1, r1, q1⟩ => ?_) hs2 hpl2))
  obtain ⟨a, b, zs, ys, ex, hx, hq, hl, q⟩ := q1
  subst ex
  cases r1 with
  | cons r rr =>
    cases rr with
    | cons r' rr =>
      cases rr
      cases r
      cases r'
      have hh : X.A.handled = none := I1.ok.hd hc
      obtain ⟨ia, rv, pa1, z1⟩ := I1.tuple hx
      have na : ia.toArray.size = zs.length := by rw [List.size_toArray, ← rv.length, List.length_map]
      have la : a < s1.heap.objs.size := by
        obtain ⟨_, r, _⟩ := id pa1
        exact Heap.lt_size r
      have hz : ia.toArray.size ≤ sizeLine := by
        rw [na]
        rw [List.length_map] at z1
        exact z1
      rcases hq with hy | hy
      · obtain ⟨ib, rw', pb1, _⟩ := I1.tuple hy
        have lb : b < s1.heap.objs.size := by
          obtain ⟨_, r, _⟩ := id pb1
          exact Heap.lt_size r
        have nb : ib.toArray.size = ia.toArray.size := by rw [na, List.size_toArray, ← rw'.length]; exact hl.symm
        refine zip_begins2 (begins_tuple a ia.toArray) (begins_tuple b ib.toArray) pa1 pb1 fun h' hZ hTI hTO g1 g2 hsz hk => Calls.spliced_nil ?_
        have D2 : ∀ A : Around, A.handled = none → Draws X.prog X.w A (s1.heap.objs.size + 1) [s1.heap.objs.size + 1, b] ia.toArray.size (fun i v => ib.toArray[i]? = some v) (fun i h => h.IsTupleIter (s1.heap.objs.size + 1) b i ∧ h.IsTuple b ib.toArray) := fun A hA => by
          rw [← nb]
          exact Draws.tuple hA _ b (Nat.ne_of_lt (Nat.lt_succ_of_lt lb)) ib.toArray
        exact dict_zip_done (A := X.A) I1 rv rw' hl na hz la lb (fun A hA => Draws.tuple hA _ a (Nat.ne_of_lt la) ia.toArray) D2 (fun i k r => by simpa using r) (fun i k r => by simpa using r)
          (fun h st b' hb => by
            obtain ⟨⟨o1, e1, _⟩, ⟨o2, e2, _⟩⟩ := st
            rcases List.mem_cons.mp hb with rfl | hb
            · exact ⟨_, e1⟩
            · rw [List.mem_singleton.mp hb]
              exact ⟨_, e2⟩)
          (fun h st b' hb => by
            obtain ⟨⟨o1, e1, _⟩, ⟨o2, e2, _⟩⟩ := st
            rcases List.mem_cons.mp hb with rfl | hb
            · exact ⟨_, e1⟩
            · rw [List.mem_singleton.mp hb]
              exact ⟨_, e2⟩)
          hZ hTI hTO ⟨⟨_, g1, rfl, rfl⟩, Heap.IsTuple.at pa1 fun o e => hk _ o e⟩ ⟨⟨_, g2, rfl, rfl⟩, Heap.IsTuple.at pb1 fun o e => hk _ o e⟩ hsz hk hh hh q
      · obtain ⟨ib, rw', pb1, _⟩ := I1.list hy
        have lb : b < s1.heap.objs.size := pb1.lt
        have nb : ib.toArray.size = ia.toArray.size := by rw [na, List.size_toArray, ← rw'.length]; exact hl.symm
        refine zip_begins2 (begins_tuple a ia.toArray) (begins_list b ib.toArray) pa1 pb1.isList fun h' hZ hTI hTO g1 g2 hsz hk => Calls.spliced_nil ?_
        have D2 : ∀ A : Around, A.handled = none → Draws X.prog X.w A (s1.heap.objs.size + 1) [s1.heap.objs.size + 1, b] ia.toArray.size (fun i v => ib.toArray[i]? = some v) (fun i h => h.IsListIter (s1.heap.objs.size + 1) b i ∧ h.IsList b ib.toArray) := fun A hA => by
          rw [← nb]
          exact Draws.list hA _ b (Nat.ne_of_lt (Nat.lt_succ_of_lt lb)) ib.toArray
        exact dict_zip_done (A := X.A) I1 rv rw' hl na hz la lb (fun A hA => Draws.tuple hA _ a (Nat.ne_of_lt la) ia.toArray) D2 (fun i k r => by simpa using r) (fun i k r => by simpa using r)
          (fun h st b' hb => by
            obtain ⟨⟨o1, e1, _⟩, ⟨o2, e2, _⟩⟩ := st
            rcases List.mem_cons.mp hb with rfl | hb
            · exact ⟨_, e1⟩
            · rw [List.mem_singleton.mp hb]
              exact ⟨_, e2⟩)
          (fun h st b' hb => by
            obtain ⟨⟨o1, e1, _⟩, ⟨o2, e2, _⟩⟩ := st
            rcases List.mem_cons.mp hb with rfl | hb
            · exact ⟨_, e1⟩
            · rw [List.mem_singleton.mp hb]
              exact ⟨_, e2⟩)
          hZ hTI hTO ⟨⟨_, g1, rfl, rfl⟩, Heap.IsTuple.at pa1 fun o e => hk _ o e⟩ ⟨⟨_, g2, rfl, rfl⟩, pb1.isList.at fun o e => hk _ o e⟩ hsz hk hh hh q
end
end L3

/-! o.m( *e), e a tuple or a list -/
namespace L3
open PySem PySem.Spec PyProof.Rows L2 StX
def tMethSL (K : PySem.W.Frag) (C : Addr) (m : Str) (g : Addr) (sp : Sp) (E : XK) (ta te : TE) : TE := fun σ H Q => ta σ H fun x H1 => ∃ a dx fs, x = .ref a ∧ H1 a = some (.ins C dx fs) ∧ fs.lookup m = none ∧
  ∀ q, H1 q = none → te σ (upd H1 q (.met g a)) fun y H2 => ∃ b vs, y = .ref b ∧ (SqT K H2 b vs ∨ SqL K H2 b vs) ∧ H2 q = some (.met g a) ∧ sp (.ref a :: vs) H2 Q E
theorem pe_methSL {X : Cx} {CX : CXT} {k : Nat} {C g : Addr} {m : Str} {sp : Sp} {E : XK} {o e : Expr} {ta te : TE} {p apos pos : Pos} (he : PE X o ta) (c : Cls X.K C) (b : BMeth X.K C m g) (F : FnR X.prog X.w X.K X.mg X.base CX k g sp) (hr : Room k X.A)
    (hx : Passes CX X E) (ha : PE X e te) (hbase : attributeBase o m X.env (eval o X.env) = eval o X.env := by rfl) : PE X (.Call (.Attribute o m apos) [.Starred e p] [] pos) (tMethSL X.K C m g sp E ta te) := by
  refine ⟨fun pins s σ H Q I h => ?_⟩
  refine starcall_of hbase (thn (he.run pins s σ H _ I h) fun u s1 ⟨x, H1, I1, rx, a, dx, fs, ex, ea, l, q⟩ => ?_)
  subst ex
  obtain rfl : u = Value.ref a := rx
  refine getbound_ok I1 ea c b l fun q1 s2 hq1 I2 => ?_
  refine PySem.W.ks_call (P := PySem.W.MethP X.K q1 g (.ref a)) rfl (PySem.W.keeps_M b.fi) (PySem.W.ks_lone ?_)
  refine thn (ha.run pins s2 σ _ _ I2 (q q1 hq1)) fun v s3 ⟨y, H2, I3, ry, t, vs, ey, ht, hm, hsp⟩ => ?_
  subst ey
  obtain rfl : v = Value.ref t := ry
  refine star_any I3 ht fun us s4 I4 rv => ⟨met_P I4 hm, ?_⟩
  exact wpAny_call (PySem.W.method_call (met_P I4 hm).1 (run_fnR (us := Value.ref a :: us) (vs := V.ref a :: vs) F hr hx I4 (.cons rfl rv) hsp))
end L3

namespace L3
open PySem L2 StX RT
/-! ### kinds as data -/
theorem Kd.isK : ∀ {k : Kd}, k.nmd → isKindD k.dat = true
  | .var x, h => by
    have h : isNameD (.str x) = true := h
    show isKindD (.tuple [.str "var", .str x]) = true
    rw [show isKindD (.tuple [.str "var", .str x]) = isKindL [.str "var", .str x] by simp only [isKindD], isKindL_else (ds := [.str "var", .str x]) (show 2 ≠ 3 by decide)]
    show ((isS "var" (.str "var") || isS "con" (.str "var")) && isNameD (.str x)) = true
    rw [h, Bool.and_true]
    decide +kernel
  | .con x, h => by
    have h : isNameD (.str x) = true := h
    show isKindD (.tuple [.str "con", .str x]) = true
    rw [show isKindD (.tuple [.str "con", .str x]) = isKindL [.str "con", .str x] by simp only [isKindD], isKindL_else (ds := [.str "con", .str x]) (show 2 ≠ 3 by decide)]
    show ((isS "var" (.str "con") || isS "con" (.str "con")) && isNameD (.str x)) = true
    rw [h, Bool.and_true]
    decide +kernel
  | .app a b, h => by
    show isKindD (.tuple [.str "apply", a.dat, b.dat]) = true
    rw [show isKindD (.tuple [.str "apply", a.dat, b.dat]) = isKindL [.str "apply", a.dat, b.dat] by simp only [isKindD], isKindL_three, Kd.isK h.1, Kd.isK h.2]
    decide +kernel
theorem Wok.okD {x : Str} (h : Wok x) : okD (.str x) = true := by
  simp only [L3.okD, h.str, Bool.and_true, decide_eq_true_eq]
  have := h.2.1
  omega
theorem Kd.okK : ∀ {k : Kd} {n : Nat}, k.fit n → okD k.dat = true
  | .var x, n, h => by
    show L3.okD (.tuple [.str "var", .str x]) = true
    simp only [L3.okD, okL, (wok_of_var h).str, Bool.and_true, Bool.and_eq_true, decide_eq_true_eq]
    have := (wok_of_var h).2.1
    exact ⟨by decide +kernel, by omega⟩
  | .con x, n, h => by
    show L3.okD (.tuple [.str "con", .str x]) = true
    simp only [L3.okD, okL, (wok_of_con h).str, Bool.and_true, Bool.and_eq_true, decide_eq_true_eq]
    have := (wok_of_con h).2.1
    exact ⟨by decide +kernel, by omega⟩
  | .app a b, n, h => by
    obtain ⟨m, rfl, h1, h2⟩ := Kd.fit_app h
    show L3.okD (.tuple [.str "apply", a.dat, b.dat]) = true
    have e1 := Kd.okK h1
    have e2 := Kd.okK h2
    simp only [L3.okD, okL, e1, e2, Bool.and_true]
    decide +kernel
theorem Kd.psz_le : ∀ k : Kd, psz k.dat ≤ 3 * k.size
  | .var x => by simp [Kd.dat, psz, pszL, Kd.size]
  | .con x => by simp [Kd.dat, psz, pszL, Kd.size]
  | .app a b => by
    have h1 := Kd.psz_le a
    have h2 := Kd.psz_le b
    simp only [Kd.dat, psz, pszL, Kd.size]
    omega
theorem Kd.size8 {k : Kd} (h : k.fit 8) : k.size ≤ 511 := by
  have := Kd.size_fit h
  omega
/-- a need that may stand in a scheme -/
structure Nok (nd : Nd) : Prop where
  nm : Wok nd.nm ∧ isNameD (.str nd.nm) = true
  k1 : 1 ≤ nd.ks.length
  k2 : nd.ks.length ≤ 2
  ks : ∀ k ∈ nd.ks, k.fit 8 ∧ k.nmd
theorem Nok.at {nd : Nd} (h : Nok nd) : Ndok 8 nd := ⟨fun k hk => (h.ks k hk).1, h.k1, h.k2⟩
theorem Nok.two {nd : Nd} (h : Nok nd) : (∃ a, nd.ks = [a]) ∨ ∃ a b, nd.ks = [a, b] := by
  have h1 := h.k1
  have h2 := h.k2
  match e : nd.ks, h1, h2 with
  | [a], _, _ => exact .inl ⟨a, rfl⟩
  | [a, b], _, _ => exact .inr ⟨a, b, rfl⟩
  | [], h1, _ => simp at h1
  | _ :: _ :: _ :: _, _, h2 => simp at h2
theorem Nok.isN {nd : Nd} (h : Nok nd) : isNeedD nd.dat = true := by
  unfold Nd.dat
  rcases h.two with ⟨a, e⟩ | ⟨a, b, e⟩
  · have ha := h.ks a (by rw [e]; exact List.mem_cons_self)
    rw [e]
    show (isNameD (.str nd.nm) && isKindD a.dat) = true
    rw [h.nm.2, Kd.isK ha.2]
    rfl
  · have ha := h.ks a (by rw [e]; exact List.mem_cons_self)
    have hb := h.ks b (by rw [e]; simp)
    rw [e]
    show (isNameD (.str nd.nm) && (isKindD a.dat && isKindD b.dat)) = true
    rw [h.nm.2, Kd.isK ha.2, Kd.isK hb.2]
    rfl
theorem okL_map : ∀ {ks : List Kd}, (∀ k ∈ ks, k.fit 8) → okL (ks.map Kd.dat) = true
  | [], _ => by simp [okL]
  | k :: r, h => by
    rw [List.map_cons]
    simp only [okL, Kd.okK (h k List.mem_cons_self), okL_map (fun y hy => h y (List.mem_cons_of_mem _ hy)), Bool.and_true]
theorem Nok.okD {nd : Nd} (h : Nok nd) : okD nd.dat = true := by
  unfold Nd.dat
  simp only [L3.okD, okL, okL_map (fun k hk => (h.ks k hk).1), Bool.and_true, Bool.and_eq_true, decide_eq_true_eq]
  have := h.nm.1.2.1
  exact ⟨by omega, h.nm.1.str⟩
theorem Nok.psz {nd : Nd} (h : Nok nd) : psz nd.dat ≤ 900000 := by
  unfold Nd.dat
  rcases h.two with ⟨a, e⟩ | ⟨a, b, e⟩
  · have ha := h.ks a (by rw [e]; exact List.mem_cons_self)
    have := Kd.psz_le a
    have := Kd.size8 ha.1
    rw [e]
    simp only [List.map_cons, List.map_nil, L3.psz, pszL]
    omega
  · have ha := h.ks a (by rw [e]; exact List.mem_cons_self)
    have hb := h.ks b (by rw [e]; simp)
    have := Kd.psz_le a
    have := Kd.size8 ha.1
    have := Kd.psz_le b
    have := Kd.size8 hb.1
    rw [e]
    simp only [List.map_cons, List.map_nil, L3.psz, pszL]
    omega
theorem NdsAt.da {t : Addr} {H : Hp} : ∀ {us : List V} {nds : List Nd}, NdsAt H us nds → DaAll t H us (nds.map Nd.dat)
  | [], _, .nil => .nil
  | _ :: _, _ :: _, .cons a b => .cons a.da (NdsAt.da b)
theorem sizeL_nds : ∀ {nds : List Nd}, (∀ nd ∈ nds, Nok nd) → sizeL (ksOf nds) ≤ 1022 * nds.length
  | [], _ => Nat.le_refl _
  | nd :: r, h => by
    have h1 := sizeL_nds (nds := r) fun y hy => h y (List.mem_cons_of_mem _ hy)
    have hn := h nd List.mem_cons_self
    have e : ksOf (nd :: r) = nd.ks ++ ksOf r := rfl
    have h2 : sizeL nd.ks ≤ 1022 := by
      rcases hn.two with ⟨a, e⟩ | ⟨a, b, e⟩
      · have ha := Kd.size8 (hn.ks a (by rw [e]; exact List.mem_cons_self)).1
        rw [e]
        simp only [sizeL]
        omega
      · have ha := Kd.size8 (hn.ks a (by rw [e]; exact List.mem_cons_self)).1
        have hb := Kd.size8 (hn.ks b (by rw [e]; simp)).1
        rw [e]
        simp only [sizeL]
        omega
    rw [e, sizeL_append, List.length_cons]
    omega
/-- a scheme: its kind, its needs -/
structure SchAt (C : Addr) (H : Hp) (x : Addr) (v : V) (p : Addr) (us : List V) (kd : Kd) (nds : List Nd) : Prop where
  ex : ∃ dx fs r, H x = some (.ins C dx fs) ∧ Fs fs v p r (Size kd nds) ∧ H r = some (.tup ((Vars kd nds).map V.str))
  needs : H p = some (.tup us)
  kd : KdAt H v kd
  nds : NdsAt H us nds
theorem SchAt.same {C : Addr} {H H' : Hp} {x : Addr} {v : V} {p : Addr} {us : List V} {kd : Kd} {nds : List Nd} (h : SchAt C H x v p us kd nds) (s : Same H H') : SchAt C H' x v p us kd nds := by
  obtain ⟨dx, fs, r, g, f, gr⟩ := h.ex
  exact ⟨⟨dx, fs, r, s _ _ g, f, s _ _ gr⟩, s _ _ h.needs, h.kd.tups (same_tups s), NdsAt.tups (same_tups s) h.nds⟩
theorem SchAt.ext {K : PySem.W.Frag} {t c : Addr} {b : Nat} {C : Addr} {H H' : Hp} {x : Addr} {v : V} {p : Addr} {us : List V} {kd : Kd} {nds : List Nd} (h : SchAt C H x v p us kd nds) (hT : Tape K H t c b) (e : Ext t H H') : SchAt C H' x v p us kd nds := by
  obtain ⟨kvs, hk⟩ := hT.dict
  obtain ⟨dx, fs, r, g, f, gr⟩ := h.ex
  have tp := Ext.tups e hT
  have gx := e _ _ (ne_of g hk (by intro r; cases r)) g
  exact ⟨⟨dx, fs, r, gx, f, tp _ _ gr⟩, tp _ _ h.needs, h.kd.tups tp, NdsAt.tups tp h.nds⟩
/-- how a scheme is to be made -/
structure Mkw (H : Hp) (t : Addr) (v : V) (us : List V) (d : PyData) (ds : List PyData) : Prop where
  hd : Da t H v d
  hds : DaAll t H us ds
  ok : okD d = true
  sz : psz d ≤ 900000
  all : ∀ e ∈ ds, okD e = true ∧ psz e ≤ 900000
theorem Mkw.same {H H' : Hp} {t : Addr} {v : V} {us : List V} {d : PyData} {ds : List PyData} (h : Mkw H t v us d ds) (s : Same H H') : Mkw H' t v us d ds := ⟨h.hd.kp (kp_same s), h.hds.kp (kp_same s), h.ok, h.sz, h.all⟩
def MkOut (C CK CN : Addr) (H : Hp) (v : V) (us : List V) (d : PyData) (ds : List PyData) (Q : VK) (E : XK) : Prop :=
  (isKindD d = false → ∀ H' dx', Same H H' → H' dx' = some (.xd [("value", v)]) → E (.ref CK) (some dx') H') ∧
  (isKindD d = true → ∀ (i : Nat) (u : V) (e : PyData), us[i]? = some u → ds[i]? = some e → isNeedD e = false → (∀ (j : Nat) (e : PyData), j < i → ds[j]? = some e → isNeedD e = true) → ∀ H' dx', Same H H' → H' dx' = some (.xd [("value", u)]) → E (.ref CN) (some dx') H') ∧
  (isKindD d = true → (∀ e ∈ ds, isNeedD e = true) → ∃ (kd : Kd) (nds : List Nd), KdAt H v kd ∧ NdsAt H us nds ∧ kd.fit 8 ∧ (∀ nd ∈ nds, Nok nd) ∧ nds.length ≤ 90 ∧
    ∀ H' x p, Same H H' → H x = none → SchAt C H' x v p us kd nds → Q (.ref x) H')
theorem MkOut.same {C CK CN : Addr} {H H1 : Hp} {v : V} {us : List V} {d : PyData} {ds : List PyData} {Q : VK} {E : XK} (h : MkOut C CK CN H v us d ds Q E) (s : Same H H1) : MkOut C CK CN H1 v us d ds Q E := by
  obtain ⟨h1, h2, h3⟩ := h
  refine ⟨fun a H' dx' s' g => h1 a H' dx' (s.trans s') g, fun a i u e q1 q2 q3 q4 H' dx' s' g => h2 a i u e q1 q2 q3 q4 H' dx' (s.trans s') g, fun a q => ?_⟩
  obtain ⟨kd, nds, k1, k2, k3, k4, k5, k6⟩ := h3 a q
  exact ⟨kd, nds, k1.tups (same_tups s), NdsAt.tups (same_tups s) k2, k3, k4, k5, fun H' x p s' g z => k6 H' x p (s.trans s') (s.free g) z⟩
theorem init_mk {C CK CN t : Addr} {H : Hp} {v : V} {us : List V} {d : PyData} {ds : List PyData} {Q : VK} {E : XK} (h : Mkw H t v us d ds) (hl : us.length ≤ 1000) (k : MkOut C CK CN H v us d ds Q E) :
    ∀ x dx, H x = none → H dx = none → dx ≠ x → spStar 2 (spInit C CK CN) (.ref x :: v :: us) (upd (upd H dx (.own x)) x (.ins C dx [])) (fun v H2 => v = .non ∧ Q (.ref x) H2) E := by
  intro x dx hx hdx hne
  have s1 : Same H (upd (upd H dx (.own x)) x (.ins C dx [])) := (same_new hdx).trans (same_new (by rw [upd_ne (Ne.symm hne)]; exact hx))
  have gx : (upd (upd H dx (.own x)) x (.ins C dx [])) x = some (.ins C dx []) := upd_same
  generalize upd (upd H dx (.own x)) x (.ins C dx []) = H1 at s1 gx ⊢
  refine ⟨[.ref x, v], us, rfl, rfl, slz (Nat.ble_eq.mpr hl), fun p hp => ?_⟩
  have s2 := s1.trans (same_new (o := .tup us) hp)
  have gx2 := same_new (o := .tup us) hp _ _ gx
  have gp2 : (upd H1 p (.tup us)) p = some (.tup us) := upd_same
  generalize upd H1 p (.tup us) = H2 at s2 gx2 gp2 ⊢
  have m := h.same s2
  have px : p ≠ x := fun z => by rw [z, gx2] at gp2; cases gp2
  refine ⟨t, x, p, dx, v, us, d, ds, rfl, gx2, gp2, m.hd, m.hds, m.ok, m.sz, m.all, fun a H' dx' s' g => k.1 a H' dx' (s2.trans s') g, fun a i u e q1 q2 q3 q4 H' dx' s' g => k.2.1 a i u e q1 q2 q3 q4 H' dx' (s2.trans s') g, fun a b => ?_⟩
  obtain ⟨kd, nds, r1, r2, r3, r4, r5, r6⟩ := k.2.2 a b
  have z1 := Kd.size8 r3
  have z2 := sizeL_nds r4
  refine ⟨kd, nds, r1.tups (same_tups s2), NdsAt.tups (same_tups s2) r2, fun nd hn => (r4 nd hn).k2, by omega, by simp only [sizeL]; omega, fun H' fs r kp g f gr => ⟨rfl, ?_⟩⟩
  have s3 : Same H H' := fun b o e => kp b o (fun z => by rw [z, hx] at e; cases e) (s2 _ _ e)
  exact r6 H' x p s3 hx ⟨⟨dx, fs, r, g, f, gr⟩, kp _ _ px gp2, r1.tups (same_tups s3), NdsAt.tups (same_tups s3) r2⟩
end L3

namespace L3
open PySem L2 StX RT
/-! ### put with names of the scheme -/
theorem put_fresh : ∀ {kvs : List (Key × V)} {k : Key} {v : V}, k ∉ kvs.map (·.1) → putK kvs k v = kvs ++ [(k, v)] := by
  intro kvs k v h
  unfold putK
  rw [if_neg]
  intro z
  obtain ⟨p, hp, e⟩ := List.any_eq_true.mp z
  exact h (List.mem_map.mpr ⟨p, hp, of_decide_eq_true e⟩)
theorem merge_fresh : ∀ {more kvs : List (Key × V)}, (kvs.map (·.1) ++ more.map (·.1)).Nodup → mergeK kvs more = kvs ++ more
  | [], kvs, _ => (List.append_nil _).symm
  | p :: r, kvs, h => by
    rw [List.map_cons] at h
    have h0 := List.nodup_append.mp h
    have hp : p.1 ∉ kvs.map (·.1) := fun z => h0.2.2 _ z _ List.mem_cons_self rfl
    show mergeK (putK kvs p.1 p.2) r = _
    rw [put_fresh hp, merge_fresh (by rw [List.map_append, List.map_cons, List.map_nil, List.append_assoc]; exact h), List.append_assoc]
    rfl
theorem zipKV_keys {zs : List Str} {ys : List V} (h : zs.length = ys.length) : (zipKV zs ys).map (·.1) = zs.map (fun z => (.inr z : Key)) := by
  unfold zipKV
  rw [List.map_map]
  induction zs generalizing ys with
  | nil => rfl
  | cons z r ih =>
    cases ys with
    | nil => cases h
    | cons y ry =>
      rw [List.zip_cons_cons, List.map_cons, List.map_cons, ih (Nat.succ.inj h)]
      rfl
theorem merge_zip {zs : List Str} {ys : List V} (h : zs.length = ys.length) (n : zs.Nodup) : mergeK [] (zipKV zs ys) = zipKV zs ys := by
  rw [merge_fresh, List.nil_append]
  rw [List.map_nil, List.nil_append, zipKV_keys h]
  exact List.Pairwise.map _ (fun a b e z => e (Sum.inr.inj z)) n
theorem zip_at {H : Hp} : ∀ {zs : List Str} {ys : List V} {ks : List Kd}, KdsAt H ys ks → ByAt H (zipKV zs ys) (zs.zip ks)
  | [], _, _, _ => .nil
  | _ :: _, [], _, .nil => .nil
  | _ :: _, _ :: _, _ :: _, .cons a r => .cons ⟨rfl, a⟩ (zip_at r)
theorem vars_len {kd : Kd} {nds : List Nd} (h : kd.fit 8) (hn : ∀ nd ∈ nds, Nok nd) (hl : nds.length ≤ 90) : (Vars kd nds).length ≤ 92491 := by
  have h1 := vsL_len (kd :: ksOf nds) []
  have h2 := Kd.size8 h
  have h3 := sizeL_nds hn
  simp only [sizeL, List.length_nil] at h1
  unfold Vars
  omega
theorem vars_nodup (kd : Kd) (nds : List Nd) : (Vars kd nds).Nodup := vsL_nodup _ List.nodup_nil
section
variable {P : Program} {w : World} {K : PySem.W.Frag} {mg : Str → Option Value} {base : Heap} {C CK CN CC fI : Addr}
def spAt (C CC : Addr) : Sp := fun vs H Q E => ∃ (x p q : Addr) (v : V) (us kus : List V) (kd : Kd) (nds : List Nd), vs = [.ref x, .ref q] ∧ SchAt C H x v p us kd nds ∧ kd.fit 8 ∧ (∀ nd ∈ nds, Nok nd) ∧ nds.length ≤ 90 ∧ H q = some (.tup kus) ∧
  (kus.length ≠ (Vars kd nds).length → ∀ H' dx', Same H H' → H' dx' = some (.xd [("number", .int (kus.length : Int))]) → E (.ref CC) (some dx') H') ∧
  (kus.length = (Vars kd nds).length → ∃ ks, KdsAt H kus ks ∧ ∀ H' r v' p' us', Same H H' → H' r = some (.tup [v', .ref p']) → H' p' = some (.tup us') → KdAt H' v' (kd.put ((Vars kd nds).zip ks)) → NdsAt H' us' (nds.map (·.put ((Vars kd nds).zip ks))) → Q (.ref r) H')
abbrev s_Scheme_at : Stmt := inS (topS 49) 4
abbrev N_Scheme_at : List Str := ["self", "kinds", "by"]
theorem sc_Scheme_at : FnScope N_Scheme_at ["self", "kinds"] (defScope s_Scheme_at) := ⟨rfl, rfl, rfl, by decide +kernel, rfl, by decide +kernel, by decide +kernel⟩
theorem ok_at {f : Addr} {fd : FuncData} (F : Fun K "at" "Scheme.at" s_Scheme_at f fd) (SC : ScK K mg C fI) (B : Bl mg) (X_InvalidCount : E1 P w K mg base "InvalidCount" "number" mroV "ValueError.__new__" CC)
    (D_put : Kn P w K mg base 9 "put" ["kind", "by"] (spPutK K 8)) (D_put_needs : Kn P w K mg base 11 "put_needs" ["needs", "by"] (spPutNs K 8)) : FnR P w K mg base (L2.CX P w) 12 f (spStar 1 (spAt C CC)) := by
  refine fn_starX (ps := ["self"]) F sc_Scheme_at (fun _ _ _ _ _ _ us rest hl => match us, rest, hl with | [_], [], _ => rfl | [_], _ :: _, _ => rfl) (fun cdv A outer s H vs Q E hr h => ?_)
  obtain ⟨x, p, q, v, us, kus, kd, nds, rfl, hs, hk, hn, hl, gq, kC, kG⟩ := h
  have hr_put : Room 9 _ := hr.mono (by decide)
  have hr_put_needs : Room 11 _ := hr
  have hr2 : Room 2 _ := hr.mono (by decide)
  obtain ⟨dx, fs, r, gx, f, gr⟩ := hs.ex
  refine ⟨_, (pss_cons (ps_if (pt_cmpR op_ne (pe_callB call_len (by rfl) B.len PySem.boot_len (pa_cons (pv 1) pa_nil)) (pe_callB call_len (by rfl) B.len PySem.boot_len (pa_cons (L2.pe_fld (pv 0) rfl) pa_nil)) (nomark _))
  (pss_one (ps_raise rfl (takes_of rfl rfl rfl rfl) (pmk_newX PySem.F.excBase_ValueError X_InvalidCount.T X_InvalidCount.R.sb X_InvalidCount.ty X_InvalidCount.I hr2 X_InvalidCount.hm (pa_cons (pe_callB call_len (by rfl) B.len PySem.boot_len (pa_cons (pv 1) pa_nil)) pa_nil))))
  pss_nil)
  (pss_cons (ps_set (i := 2) sc_Scheme_at.nd rfl (Or.inl rfl) (pe_dictZip (by rfl) B.dict (by rfl) B.zip rfl (pa_cons (L2.pe_fld (pv 0) rfl) (pa_cons (pv 1) pa_nil))))
  (pss_one (ps_ret (pe_tup (pa_cons (pe_kn D_put hr_put (pa_cons (L2.pe_fld (pv 0) rfl) (pa_cons (pv 2) pa_nil))) (pa_cons (pe_callTy call_tuple_of (by rfl) B.tuple (by decide +kernel) (pa_cons (pe_kn D_put_needs hr_put_needs (pa_cons (L2.pe_fld (pv 0) rfl) (pa_cons (pv 2) pa_nil))) pa_nil)) pa_nil))))))), ?_⟩
  have lv := vars_len hk hn hl
  refine ⟨_, rfl, _, _, rfl, .inr ⟨_, SqT.of gq, rfl⟩, ?_⟩
  refine ⟨_, rfl, x, C, dx, fs, .ref r, rfl, gx, SC.cl, SC.nv, f.vars, ?_⟩
  refine ⟨_, (Vars kd nds).length, rfl, .inr ⟨_, SqT.of gr, (List.length_map ..).symm⟩, ?_⟩
  refine ⟨rfl, _, rfl, ?_⟩
  by_cases e : kus.length = (Vars kd nds).length
  case neg =>
    refine iT ?_ ?_
    · rw [Bool.not_eq_true']
      exact decide_eq_false fun z => e (Int.ofNat.inj (V.int.inj z))
    refine ⟨_, rfl, _, _, rfl, .inr ⟨_, SqT.of gq, rfl⟩, raise_one X_InvalidCount fun H' dx' s2 g => kC e H' dx' s2 g⟩
  refine iF ?_ ?_
  · rw [Bool.not_eq_false']
    exact decide_eq_true (by rw [e])
  obtain ⟨ks, hks, k⟩ := kG e
  have lz : (Vars kd nds).length = kus.length := e.symm
  refine ⟨_, rfl, x, C, dx, fs, .ref r, rfl, gx, SC.cl, SC.nv, f.vars, ?_⟩
  refine ⟨_, rfl, r, q, Vars kd nds, kus, rfl, SqT.of gr, .inl (SqT.of gq), lz, fun D hD => ?_⟩
  rw [merge_zip lz (vars_nodup _ _)]
  have s1 := same_new (o := .dK (zipKV (Vars kd nds) kus)) hD
  have gD : (upd H D (.dK (zipKV (Vars kd nds) kus))) D = some (.dK (zipKV (Vars kd nds) kus)) := upd_same
  have hb := zip_at (zs := Vars kd nds) (KdsAt.tups (same_tups s1) hks)
  generalize upd H D (.dK (zipKV (Vars kd nds) kus)) = H1 at s1 gD hb ⊢
  refine ⟨_, rfl, x, C, dx, fs, v, rfl, s1 _ _ gx, SC.cl, SC.nk, f.kind, ?_⟩
  refine ⟨_, rfl, v, D, kd, _, _, rfl, hs.kd.tups (same_tups s1), hk, gD, hb, fun H2 v' s2 g2 => ?_⟩
  have S2 := s1.trans s2
  refine ⟨_, rfl, x, C, dx, fs, .ref p, rfl, S2 _ _ gx, SC.cl, SC.nn, f.needs, ?_⟩
  refine ⟨_, rfl, p, D, us, nds, _, _, rfl, SqT.of (S2 _ _ hs.needs), NdsAt.tups (same_tups S2) hs.nds, fun nd h => (hn nd h).at, by omega, s2 _ _ gD, ByAt.tups (same_tups s2) hb, fun H3 l ws s3 gl hw => ?_⟩
  have S3 := S2.trans s3
  refine ⟨l, ws, rfl, .inl ⟨SqL.of gl, fun p' hp' => ?_⟩⟩
  have s4 := same_new (o := .tup ws) hp'
  have g4 : (upd H3 p' (.tup ws)) p' = some (.tup ws) := upd_same
  generalize upd H3 p' (.tup ws) = H4 at s4 g4 ⊢
  refine ⟨slz rfl, fun r' hr' => ?_⟩
  have s5 := same_new (o := .tup [v', .ref p']) hr'
  exact k _ r' v' p' ws ((S3.trans s4).trans s5) upd_same (s5 _ _ g4) (g2.tups (same_tups (s3.trans (s4.trans s5)))) (NdsAt.tups (same_tups (s4.trans s5)) hw)
end
end L3

namespace L3
open PySem L2 StX RT
theorem kit_listAny {K : PySem.W.Frag} : PySem.W.kitAny K (.type "list") [.type "list", .type "tuple"] = some true :=
  kitAny_cons (b := true) (kit_ty (show kitB "list" "list" = some true by decide +kernel)) nofun (fun _ => rfl)
section
variable {P : Program} {w : World} {K : PySem.W.Frag} {mg : Str → Option Value} {base : Heap} {C CK CN CC fI : Addr}
def spUnder (K : PySem.W.Frag) (C CK CN : Addr) : Sp := fun vs H Q E => ∃ (t l : Addr) (v : V) (us : List V) (d : PyData) (ds : List PyData), vs = [.ref C, v, .ref l] ∧ H l = some (.lst us) ∧ us.length ≤ 1000 ∧ Mkw H t v us d ds ∧ MkOut C CK CN H v us d ds Q E
abbrev s_Scheme_under : Stmt := inS (topS 49) 1
abbrev N_Scheme_under : List Str := ["cls", "kind", "needs"]
theorem sc_Scheme_under : FnScope N_Scheme_under ["cls", "kind", "needs"] (defScope s_Scheme_under) := ⟨rfl, rfl, rfl, by decide +kernel, rfl, by decide +kernel, by decide +kernel⟩
theorem ok_under {f : Addr} {fd : FuncData} (F : Fun K "under" "Scheme.under" s_Scheme_under f fd) (SC : ScK K mg C fI) (B : Bl mg) (B9 : Bl9 mg) (X_InvalidKind : E1 P w K mg base "InvalidKind" "value" mroV "ValueError.__new__" CK) (X_InvalidNeed : E1 P w K mg base "InvalidNeed" "value" mroV "ValueError.__new__" CN)
    (D_is_kind : Kn P w K mg base 4 "is_kind" ["value"] spKind) (D_Scheme : FnR P w K mg base (L2.CX P w) 6 fI (spStar 2 (spInit C CK CN))) : FnOk P w K mg base (L2.CX P w) 8 f fd ["cls", "kind", "needs"] (spUnder K C CK CN) := by
  refine F.okX sc_Scheme_under (fun vs H Q E h => ?_) (fun cdv A outer s H vs Q E hr h => ?_)
  · obtain ⟨t, l, v, us, d, ds, rfl, _⟩ := h
    rfl
  obtain ⟨t, l, v, us, d, ds, rfl, gl, h1000, m, k⟩ := h
  have hr_is_kind : Room 4 _ := hr.mono (by decide)
  have hr_Scheme : Room 7 _ := hr
  have hr2 : Room 2 _ := hr.mono (by decide)
  refine ⟨_, (pss_cons (ps_if (pt_not (pt_val (pe_kn D_is_kind hr_is_kind (pa_cons (pv 1) pa_nil))))
  (pss_one (ps_raise rfl (takes_of rfl rfl rfl rfl) (pmk_newX PySem.F.excBase_ValueError X_InvalidKind.T X_InvalidKind.R.sb X_InvalidKind.ty X_InvalidKind.I hr2 X_InvalidKind.hm (pa_cons (pv 1) pa_nil))))
  pss_nil)
  (pss_cons (ps_if (pt_not (pt_val (pe_callB call_isiT (by rfl) B9.isinstance PyProof.Rows.boot_isinstance (pa_cons (pv 2) (pa_cons (pe_tup (pa_cons (pe_bltn (v := .ty "list") (by rfl) B.list (by decide +kernel) rfl) (pa_cons (pe_bltn (v := .ty "tuple") (by rfl) B9.tuple (by decide +kernel) rfl) pa_nil))) pa_nil)))))
  (pss_one (ps_raise rfl (takes_of rfl rfl rfl rfl) (pmk_newX PySem.F.excBase_ValueError X_InvalidNeed.T X_InvalidNeed.R.sb X_InvalidNeed.ty X_InvalidNeed.I hr2 X_InvalidNeed.hm (pa_cons (pv 2) pa_nil))))
  pss_nil)
  (pss_one (ps_ret (pe_makeLS (i := 0) SC.mke D_Scheme hr_Scheme (by rfl) (by first | exact Or.inl rfl | exact Or.inr (Or.inl rfl)) (passes_call (takes_of rfl rfl rfl rfl) fun _ _ _ _ h => h) (pa_cons (pv 1) (pa_star (pv 2) pa_nil))))))), ?_⟩
  refine ⟨_, rfl, t, v, d, rfl, m.hd, m.ok, m.sz, fun H1 s1 => ?_⟩
  refine ⟨_, rfl, ?_⟩
  cases hkd : isKindD d with
  | false =>
    refine iT rfl ?_
    exact ⟨_, rfl, raise_one X_InvalidKind fun H' dx' s2 g => k.1 hkd H' dx' (s1.trans s2) g⟩
  | true =>
  refine iF rfl ?_
  refine ⟨_, rfl, ?_⟩
  refine ⟨slz rfl, fun tp htp => ?_⟩
  have s2 := same_new (o := .tup [.ty "list", .ty "tuple"]) htp
  refine ⟨_, tp, _, .type "list", _, true, rfl, upd_same, .cons (.ty "list") (.cons (.ty "tuple") .nil), ?ty, kit_listAny, ?_⟩
  case ty => exact .base (.lst (s2 _ _ (s1 _ _ gl)))
  refine ⟨_, rfl, ?_⟩
  refine iF rfl ?_
  have S2 := s1.trans s2
  refine ⟨rfl, _, rfl, _, rfl, l, us, rfl, .inr (SqL.of (S2 _ _ gl)), ?_⟩
  show ∀ x dx, _ → _ → _ → spStar 2 (spInit C CK CN) (V.ref x :: v :: (us ++ [])) _ _ E
  rw [List.append_nil]
  exact init_mk (m.same S2) h1000 (k.same S2)
abbrev s_Scheme_named : Stmt := inS (topS 49) 3
abbrev N_Scheme_named : List Str := ["self", "names", "kind", "needs", "name"]
theorem sc_Scheme_named : FnScope N_Scheme_named ["self"] (defScope s_Scheme_named) := ⟨rfl, rfl, rfl, by decide +kernel, rfl, by decide +kernel, by decide +kernel⟩
def spNamed (C : Addr) : Sp := fun vs H Q _ => ∃ (x p : Addr) (v : V) (us : List V) (kd : Kd) (nds : List Nd), vs = [.ref x] ∧ SchAt C H x v p us kd nds ∧ kd.fit 8 ∧ kd.nmd ∧ (∀ nd ∈ nds, Nok nd) ∧ nds.length ≤ 90 ∧ (Vars kd nds).length ≤ 64 ∧
  ∀ H' y p' v' us', Same H H' → H y = none → SchAt C H' y v' p' us' (kd.put ((Vars kd nds).zip ((fstN (Vars kd nds).length).map Kd.var))) (nds.map (·.put ((Vars kd nds).zip ((fstN (Vars kd nds).length).map Kd.var)))) → Q (.ref y) H'
theorem fst_len {n : Nat} (h : n ≤ 64) : (fstN n).length = n := by
  unfold fstN
  rw [List.length_take]
  have : 79 ≤ (nmsTo 80).length := by have := nms_many 80 (by omega); omega
  omega
theorem fst_all : ∀ x ∈ nmsTo 80, Wok x ∧ isNameD (.str x) = true := fun x hx => by
  have h : isNameD (.str x) = true := (List.mem_filter.mp hx).2
  have h2 : wok x = true := by
    have h : (wok x && _) = true := h
    exact (Bool.and_eq_true_iff.mp h).1
  refine ⟨?_, h⟩
  unfold wok at h2
  simp only [Bool.and_eq_true, decide_eq_true_eq] at h2
  refine ⟨h2.1.1, h2.1.2, fun c hc => ?_⟩
  have := (Array.all_eq_true'.mp h2.2) c (by simpa using hc)
  unfold lo at this
  simpa only [Bool.and_eq_true, decide_eq_true_eq] using this
theorem lk_zip {zs : List Str} {ys : List Str} {x : Str} {k : Kd} (h : lk (zs.zip (ys.map Kd.var)) x = some k) : ∃ y ∈ ys, k = .var y := by
  have := lk_mem h
  rw [List.zip_map_right] at this
  obtain ⟨p, hp, e⟩ := List.mem_map.mp this
  exact ⟨p.2, (List.of_mem_zip hp).2, by cases e; rfl⟩
theorem put_nmd {b : By} (h : ∀ x k, lk b x = some k → k.nmd) : ∀ {k : Kd}, k.nmd → (k.put b).nmd
  | .var x, hk => by
    show ((lk b x).getD (.var x)).nmd
    cases e : lk b x with
    | none => exact hk
    | some q => exact h x q e
  | .con x, hk => hk
  | .app a c, hk => ⟨put_nmd h hk.1, put_nmd h hk.2⟩
theorem Nok.put {nd : Nd} {b : By} (h : Nok nd) (h1 : ∀ x k, lk b x = some k → k.nmd ∧ k.fit 0) : Nok (nd.put b) := by
  refine ⟨h.nm, ?_, ?_, fun k hk => ?_⟩
  · show 1 ≤ (nd.ks.map _).length
    rw [List.length_map]
    exact h.k1
  · show (nd.ks.map _).length ≤ 2
    rw [List.length_map]
    exact h.k2
  · obtain ⟨k0, hk0, rfl⟩ := List.mem_map.mp (show k ∈ nd.ks.map _ from hk)
    exact ⟨Kd.fit_put (fun x k e => (h1 x k e).2) (h.ks k0 hk0).1, put_nmd (fun x k e => (h1 x k e).1) (h.ks k0 hk0).2⟩
theorem mkw_of {H : Hp} {t : Addr} {v : V} {us : List V} {kd : Kd} {nds : List Nd} (h1 : KdAt H v kd) (h2 : NdsAt H us nds) (h3 : kd.fit 8) (h4 : ∀ nd ∈ nds, Nok nd) : Mkw H t v us kd.dat (nds.map Nd.dat) := by
  refine ⟨h1.daN, NdsAt.da h2, Kd.okK h3, ?_, fun e he => ?_⟩
  · have := Kd.psz_le kd
    have := Kd.size8 h3
    omega
  · obtain ⟨n, hn, rfl⟩ := List.mem_map.mp he
    exact ⟨(h4 n hn).okD, (h4 n hn).psz⟩
theorem mkout_of {C CK CN : Addr} {H : Hp} {v : V} {us : List V} {kd : Kd} {nds : List Nd} {Q : VK} {E : XK} (h1 : KdAt H v kd) (h2 : NdsAt H us nds) (h3 : kd.fit 8) (h5 : kd.nmd) (h4 : ∀ nd ∈ nds, Nok nd) (hl : nds.length ≤ 90)
    (k : ∀ H' x p, Same H H' → H x = none → SchAt C H' x v p us kd nds → Q (.ref x) H') : MkOut C CK CN H v us kd.dat (nds.map Nd.dat) Q E := by
  refine ⟨fun z => (by rw [Kd.isK h5] at z; cases z), fun _ i u e _ q z => ?_, fun _ _ => ⟨kd, nds, h1, h2, h3, h4, hl, k⟩⟩
  obtain ⟨n, hn, rfl⟩ := List.mem_map.mp (List.mem_of_getElem? q)
  rw [(h4 n hn).isN] at z
  cases z
theorem ok_named {f gA : Addr} {fd : FuncData} (F : Fun K "named" "Scheme.named" s_Scheme_named f fd) (SC : ScK K mg C fI) (B : Bl mg) (BM_at : BMeth K C "at" gA)
    (D_first_names : Kn P w K mg base 4 "first_names" ["count"] spFirst) (D_var : Kn P w K mg base 1 "var" ["name"] spVar) (D_at : FnR P w K mg base (L2.CX P w) 12 gA (spStar 1 (spAt C CC))) (D_Scheme : FnR P w K mg base (L2.CX P w) 6 fI (spStar 2 (spInit C CK CN))) : FnOk P w K mg base CX0 13 f fd ["self"] (spNamed C) := by
  refine F.ok sc_Scheme_named (fun vs H Q E h => ?_) (fun cdv A outer s H vs Q E hr h => ?_)
  · obtain ⟨x, p, v, us, kd, nds, rfl, _⟩ := h
    rfl
  obtain ⟨x, p, v, us, kd, nds, rfl, hs, hk, hnm, hn, hl, h64, k⟩ := h
  have hr_first_names : Room 4 _ := hr.mono (by decide)
  have hr_var : Room 1 _ := hr.mono (by decide)
  have hr_at : Room 12 _ := hr
  have hr_Scheme : Room 7 _ := hr.mono (by decide)
  obtain ⟨dx, fs, r, gx, f, gr⟩ := hs.ex
  refine ⟨_, (pss_cons (ps_setLc (i := 1) (own := [("name", 4)]) rfl sc_Scheme_named.nd rfl rfl (sw_true rfl rfl rfl (by decide +kernel)) (pi_tup (pe_kn D_first_names hr_first_names (pa_cons (pe_callB call_len (by rfl) B.len PySem.boot_len (pa_cons (L2.pe_fld (pv 0) rfl) pa_nil)) pa_nil))) (blkOk_by (N := N_Scheme_named) (sc := (defScope s_Scheme_named)) (own := [("name", 4)]) (by decide +kernel)) (fun _ _ _ _ _ => (pg_name (i := 4) sc_Scheme_named.nd rfl (Or.inl rfl))) (fun _ _ _ _ _ => pts_nil) (fun _ _ _ _ _ => (pe_kn D_var hr_var (pa_cons (pv 4) pa_nil))))
  (pss_cons (ps_asg (pe_methSL (pv 0) SC.cl BM_at D_at hr_at (passes_call LamX.takes0 fun _ _ _ _ h => h) (pv 1)) (pg_tup (by rfl) (pgs_cons (pg_name (i := 2) sc_Scheme_named.nd rfl (Or.inl rfl)) (pgs_cons (pg_name (i := 3) sc_Scheme_named.nd rfl (Or.inl rfl)) pgs_nil))))
  (pss_one (ps_ret (pe_makeS2 SC.mke D_Scheme hr_Scheme (by rfl) SC.hm (passes_call LamX.takes0 fun _ _ _ _ h => h) (pa_cons (pv 2) (pa_star (pv 3) pa_nil))))))), ?_⟩
  refine ⟨_, rfl, x, C, dx, fs, .ref r, rfl, gx, SC.cl, SC.nv, f.vars, ?_⟩
  refine ⟨_, (Vars kd nds).length, rfl, .inr ⟨_, SqT.of gr, (List.length_map ..).symm⟩, ?_⟩
  refine ⟨_, rfl, h64, fun H1 q s1 gq => ?_⟩
  have lf := fst_len h64
  refine ⟨q, rfl, ⟨_, SqT.of gq⟩, fun D hD => lc_it (J := Itt K q) walk_tup (fun i H' => Same H1 H' ∧ ∃ ws, H' D = some (.lst ws) ∧ KdsAt H' ws (((fstN (Vars kd nds).length).take i).map Kd.var)) ⟨same_new hD, [], upd_same, .nil⟩ (fun i H' _ h => SqT.of (h.1 _ _ gq)) ?_ ?_⟩
  · rintro i y H2 H3 hi ⟨s2, ws, g2, w2⟩ ⟨rfl, ey⟩
    obtain ⟨z, hz, rfl⟩ : ∃ z, (fstN (Vars kd nds).length)[i]? = some z ∧ y = .str z := by
      rw [List.getElem?_map] at ey
      cases e : (fstN (Vars kd nds).length)[i]? with
      | none => rw [e] at ey; cases ey
      | some z => rw [e] at ey; exact ⟨z, rfl, by cases ey; rfl⟩
    refine ⟨rfl, ?_⟩
    refine ⟨_, rfl, z, rfl, fun q2 hq2 => ?_⟩
    have s3 := same_new (o := .tup [.str "var", .str z]) hq2
    have g3 := s3 _ _ g2
    have lws : ws.length ≤ 64 := by
      rw [Paired.length w2, List.length_map, List.length_take]
      omega
    refine ⟨ws, g3, szl (by omega), fun b o e => ?_, ws ++ [.ref q2], upd_same, ?_⟩
    · rw [upd_ne (ne_of_none e hD)]
      exact s3 _ _ (s2 _ _ e)
    · have tp : Tups _ (upd (upd H3 q2 (.tup [.str "var", .str z])) D (.lst (ws ++ [.ref q2]))) := Tups.put g3 nofun
      rw [List.take_add_one, hz, List.map_append]
      exact Paired.snoc (KdsAt.tups tp (KdsAt.tups (same_tups s3) w2)) ⟨q2, rfl, tp _ _ upd_same⟩
  rintro H2 ⟨s2, ws, g2, w2⟩
  rw [List.length_map, List.take_length] at w2
  have S2 := s1.trans s2
  refine ⟨_, rfl, x, dx, fs, rfl, S2 _ _ gx, f.na, fun m hm => ?_⟩
  have s3 := same_new (o := .met gA x) hm
  have S3 := S2.trans s3
  refine ⟨_, rfl, D, ws, rfl, .inr (SqL.of (s3 _ _ g2)), upd_same, ?_⟩
  have lws : ws.length = (Vars kd nds).length := by rw [Paired.length w2, List.length_map, lf]
  refine ⟨[.ref x], ws, rfl, rfl, slz (Nat.ble_eq.mpr (by omega)), fun pq hpq => ?_⟩
  have s4 := same_new (o := .tup ws) hpq
  have S4 := S3.trans s4
  refine ⟨x, p, pq, v, us, ws, kd, nds, rfl, hs.same S4, hk, hn, hl, upd_same, fun e => absurd lws e, fun _ => ⟨_, KdsAt.tups (same_tups (s3.trans s4)) w2, fun H5 r' v' p' us' s5 gr' gp' k' n' => ?_⟩⟩
  refine ⟨r', _, rfl, SqT.of gr', rfl, _, _, rfl, _, _, rfl, rfl, ?_⟩
  refine ⟨_, rfl, _, rfl, p', us', rfl, .inl (SqT.of gp'), ?_⟩
  show ∀ x dx, _ → _ → _ → spStar 2 (spInit C CK CN) (V.ref x :: v' :: (us' ++ [])) _ _ E0
  rw [List.append_nil]
  have S5 := S4.trans s5
  have hl0 : ∀ x k, lk ((Vars kd nds).zip ((fstN (Vars kd nds).length).map Kd.var)) x = some k → k.nmd ∧ k.fit 0 := fun x k e => by
    obtain ⟨y, hy, rfl⟩ := lk_zip e
    have := fst_all y (List.mem_of_mem_take hy)
    exact ⟨this.2, fitV this.1⟩
  have hkp : (kd.put ((Vars kd nds).zip ((fstN (Vars kd nds).length).map Kd.var))).fit 8 := Kd.fit_put (fun x k e => (hl0 x k e).2) hk
  have hnp : (kd.put ((Vars kd nds).zip ((fstN (Vars kd nds).length).map Kd.var))).nmd := put_nmd (fun x k e => (hl0 x k e).1) hnm
  have hnn : ∀ nd ∈ nds.map (·.put ((Vars kd nds).zip ((fstN (Vars kd nds).length).map Kd.var))), Nok nd := fun nd h => by
    obtain ⟨n0, h0, rfl⟩ := List.mem_map.mp h
    exact (hn n0 h0).put hl0
  have luv : us'.length ≤ 90 := by rw [Paired.length n', List.length_map]; exact hl
  exact init_mk (t := x) (mkw_of k' n' hkp hnn) (by omega) (mkout_of k' n' hkp hnp hnn (by rw [List.length_map]; exact hl) fun H6 y p6 s6 hy g6 => k H6 y p6 v' us' (S5.trans s6) (S5.free hy) g6)
end
end L3

namespace L3
open PySem L2 StX RT ClX
section
variable {P : Program} {w : World} {K : PySem.W.Frag} {mg : Str → Option Value} {base : Heap} {C CK CN CC fI gA pU gU : Addr} {mc : Value}
abbrev s__law_scheme_of : Stmt := topS 63
abbrev N__law_scheme_of : List Str := ["_law_head", "_law_some"]
theorem sc__law_scheme_of : FnScope N__law_scheme_of ["_law_head", "_law_some"] (defScope s__law_scheme_of) := ⟨rfl, rfl, rfl, by decide +kernel, rfl, by decide +kernel, by decide +kernel⟩
def spSchOf (C CK CN : Addr) : Sp := fun vs H Q E => ∃ (t l : Addr) (v : V) (us : List V) (d : PyData) (ds : List PyData), vs = [v, .ref l] ∧ H l = some (.lst us) ∧ us.length ≤ 1000 ∧ Mkw H t v us d ds ∧ MkOut C CK CN H v us d ds Q E
theorem ok_schof {f : Addr} {fd : FuncData} (F : Fun K "_law_scheme_of" "_law_scheme_of" s__law_scheme_of f fd) (SC : ScK K mg C fI) (B : Bl mg) (CR : ClX.CRead K C mc) (CM : ClX.CMet K C mc "under" pU gU)
    (D_under : FnR P w K mg base (L2.CX P w) 8 gU (spUnder K C CK CN)) (D_Scheme : FnR P w K mg base (L2.CX P w) 6 fI (spStar 2 (spInit C CK CN))) : FnOk P w K mg base (L2.CX P w) 9 f fd ["_law_head", "_law_some"] (spSchOf C CK CN) := by
  refine F.okX sc__law_scheme_of (fun vs H Q E h => ?_) (fun cdv A outer s H vs Q E hr h => ?_)
  · obtain ⟨t, l, v, us, d, ds, rfl, _⟩ := h
    rfl
  obtain ⟨t, l, v, us, d, ds, rfl, gl, h1000, m, k⟩ := h
  have hr_under : Room 8 _ := hr
  have hr_Scheme : Room 7 _ := hr.mono (by decide)
  refine ⟨_, (pss_cons (ps_if (pt_cmpR op_gt (pe_callB call_len (by rfl) B.len PySem.boot_len (pa_cons (pv 1) pa_nil)) pe_int (nomark _))
  (pss_one (ps_ret (pe_cmeth (pe_gc (v := .ref C) (by rfl) ⟨_, SC.hm, rfl⟩) CR CM D_under hr_under (passes_call (takes_of rfl rfl rfl rfl) fun _ _ _ _ h => h) (pa_cons (pv 0) (pa_cons (pv 1) pa_nil)))))
  pss_nil)
  (pss_cons (ps_if (pt_cmpR op_eq (pe_callB call_len (by rfl) B.len PySem.boot_len (pa_cons (pv 1) pa_nil)) pe_int (nomark _))
  (pss_one (ps_ret (pe_makeR SC.mke D_Scheme hr_Scheme (by rfl) SC.hm (passes_call (takes_of rfl rfl rfl rfl) fun _ _ _ _ h => h) (pa_cons (pv 0) (pa_cons (pe_ix ix_list (pv 1) pe_int (fun _ _ => rfl)) (pa_cons (pe_ix ix_list (pv 1) pe_int (fun _ _ => rfl)) pa_nil))))))
  pss_nil)
  (pss_one (ps_ret (pe_ifExp (pt_cmpR op_eq (pe_callB call_len (by rfl) B.len PySem.boot_len (pa_cons (pv 1) pa_nil)) pe_int (nomark _)) (pe_makeR SC.mke D_Scheme hr_Scheme (by rfl) SC.hm (passes_call (takes_of rfl rfl rfl rfl) fun _ _ _ _ h => h) (pa_cons (pv 0) (pa_cons (pe_ix ix_list (pv 1) pe_int (fun _ _ => rfl)) pa_nil))) (pe_makeR SC.mke D_Scheme hr_Scheme (by rfl) SC.hm (passes_call (takes_of rfl rfl rfl rfl) fun _ _ _ _ h => h) (pa_cons (pv 0) pa_nil))))))), ?_⟩
  refine ⟨_, rfl, _, _, rfl, .inl ⟨_, SqL.of gl, rfl⟩, ?_⟩
  refine ⟨_, _, rfl, rfl, _, rfl, ?_⟩
  by_cases c3 : 2 < us.length
  · refine iT (decide_eq_true (by omega)) ?_
    exact ⟨rfl, _, rfl, _, rfl, t, l, v, us, d, ds, rfl, gl, h1000, m, k⟩
  refine iF (decide_eq_false (by omega)) ?_
  refine ⟨_, rfl, _, _, rfl, .inl ⟨_, SqL.of gl, rfl⟩, ?_⟩
  refine ⟨rfl, _, rfl, ?_⟩
  match us, gl, h1000, m, k, c3 with
  | [u1, u2], gl, h1000, m, k, _ =>
    refine iT rfl ?_
    refine ⟨_, rfl, _, rfl, _, _, _, _, rfl, rfl, SqL.of gl, rfl, _, rfl, _, _, _, _, rfl, rfl, SqL.of gl, rfl, ?_⟩
    exact init_mk m (by simp) k
  | [u1], gl, h1000, m, k, _ =>
    refine iF rfl ?_
    refine ⟨_, rfl, _, _, rfl, .inl ⟨_, SqL.of gl, rfl⟩, ?_⟩
    refine ⟨rfl, _, rfl, ?_⟩
    refine iT rfl ?_
    refine ⟨_, rfl, _, rfl, _, _, _, _, rfl, rfl, SqL.of gl, rfl, ?_⟩
    exact init_mk m (by simp) k
  | [], gl, h1000, m, k, _ =>
    refine iF rfl ?_
    refine ⟨_, rfl, _, _, rfl, .inl ⟨_, SqL.of gl, rfl⟩, ?_⟩
    refine ⟨rfl, _, rfl, ?_⟩
    refine iF rfl ?_
    refine ⟨_, rfl, ?_⟩
    exact init_mk m (by simp) k
  | _ :: _ :: _ :: _, _, _, _, _, c3 => exact absurd (by simp) c3
/-! ### put at kinds -/
abbrev s__law_put_at : Stmt := topS 64
abbrev N__law_put_at : List Str := ["_law_made", "_law_rest", "_law_one", "_law_two", "_law_three", "_law_four"]
theorem sc__law_put_at : FnScope N__law_put_at ["_law_made", "_law_rest"] (defScope s__law_put_at) := ⟨rfl, rfl, rfl, by decide +kernel, rfl, by decide +kernel, by decide +kernel⟩
def spPutAt (C CC : Addr) : Sp := fun vs H Q E => ∃ (x p l : Addr) (v : V) (us kus : List V) (kd : Kd) (nds : List Nd), vs = [.ref x, .ref l] ∧ SchAt C H x v p us kd nds ∧ kd.fit 8 ∧ (∀ nd ∈ nds, Nok nd) ∧ nds.length ≤ 90 ∧ H l = some (.lst kus) ∧ kus.length ≤ 4 ∧
  (kus.length ≠ (Vars kd nds).length → ∀ H' dx', Same H H' → H' dx' = some (.xd [("number", .int (kus.length : Int))]) → E (.ref CC) (some dx') H') ∧
  (kus.length = (Vars kd nds).length → ∃ ks, KdsAt H kus ks ∧ ∀ H' r v' p' us', Same H H' → H' r = some (.tup [v', .ref p']) → H' p' = some (.tup us') → KdAt H' v' (kd.put ((Vars kd nds).zip ks)) → NdsAt H' us' (nds.map (·.put ((Vars kd nds).zip ks))) → Q (.ref r) H')
theorem at_go {H H1 : Hp} {x p : Addr} {v : V} {us kus : List V} {kd : Kd} {nds : List Nd} {Q : VK} {E : XK} (s1 : Same H H1) (hs : SchAt C H x v p us kd nds) (hk : kd.fit 8) (hn : ∀ nd ∈ nds, Nok nd) (hl : nds.length ≤ 90) (h4 : kus.length ≤ 4)
    (kC : kus.length ≠ (Vars kd nds).length → ∀ H' dx', Same H H' → H' dx' = some (.xd [("number", .int (kus.length : Int))]) → E (.ref CC) (some dx') H')
    (kG : kus.length = (Vars kd nds).length → ∃ ks, KdsAt H kus ks ∧ ∀ H' r v' p' us', Same H H' → H' r = some (.tup [v', .ref p']) → H' p' = some (.tup us') → KdAt H' v' (kd.put ((Vars kd nds).zip ks)) → NdsAt H' us' (nds.map (·.put ((Vars kd nds).zip ks))) → Q (.ref r) H') :
    spStar 1 (spAt C CC) (.ref x :: kus) H1 Q E := by
  refine ⟨[.ref x], kus, rfl, rfl, slz (Nat.ble_eq.mpr (by omega)), fun q hq => ?_⟩
  have s2 := s1.trans (same_new (o := .tup kus) hq)
  refine ⟨x, p, q, v, us, kus, kd, nds, rfl, hs.same s2, hk, hn, hl, upd_same, fun e H' dx' s' g => kC e H' dx' (s2.trans s') g, fun e => ?_⟩
  obtain ⟨ks, hks, k⟩ := kG e
  exact ⟨ks, KdsAt.tups (same_tups s2) hks, fun H' r v' p' us' s' a b c d => k H' r v' p' us' (s2.trans s') a b c d⟩
theorem ok_putat {f : Addr} {fd : FuncData} (F : Fun K "_law_put_at" "_law_put_at" s__law_put_at f fd) (SC : ScK K mg C fI) (B : Bl mg) (BM_at : BMeth K C "at" gA) (D_at : FnR P w K mg base (L2.CX P w) 12 gA (spStar 1 (spAt C CC))) : FnOk P w K mg base (L2.CX P w) 13 f fd ["_law_made", "_law_rest"] (spPutAt C CC) := by
  refine F.okX sc__law_put_at (fun vs H Q E h => ?_) (fun cdv A outer s H vs Q E hr h => ?_)
  · obtain ⟨x, p, l, v, us, kus, kd, nds, rfl, _⟩ := h
    rfl
  obtain ⟨x, p, l, v, us, kus, kd, nds, rfl, hs, hk, hn, hl, gl, h4, kC, kG⟩ := h
  have hr_at : Room 12 _ := hr
  obtain ⟨dx, fs, r, gx, f, gr⟩ := hs.ex
  refine ⟨_, (pss_cons (ps_asg (pe_slice sl_list (pe_op op_cat (pv 1) (pe_op op_rep (pe_lst (pa_cons pe_non pa_nil)) pe_int)) po_none (po_some pe_int)) (pg_lst (by rfl) (pgs_cons (pg_name (i := 2) sc__law_put_at.nd rfl (Or.inl rfl)) (pgs_cons (pg_name (i := 3) sc__law_put_at.nd rfl (Or.inl rfl)) (pgs_cons (pg_name (i := 4) sc__law_put_at.nd rfl (Or.inl rfl)) (pgs_cons (pg_name (i := 5) sc__law_put_at.nd rfl (Or.inl rfl)) pgs_nil))))))
  (pss_cons (ps_if (pt_cmpR op_lt (pe_callB call_len (by rfl) B.len PySem.boot_len (pa_cons (pv 1) pa_nil)) pe_int (nomark _))
  (pss_one (ps_ret (pe_ifExp (pt_cmpR op_eq (pe_callB call_len (by rfl) B.len PySem.boot_len (pa_cons (pv 1) pa_nil)) pe_int (nomark _)) (pe_methR (pv 0) SC.cl BM_at.mt D_at hr_at (passes_call (takes_of rfl rfl rfl rfl) fun _ _ _ _ h => h) (pa_cons (pv 2) pa_nil)) (pe_methR0 (pv 0) SC.cl BM_at.mt D_at hr_at (passes_call (takes_of rfl rfl rfl rfl) fun _ _ _ _ h => h)))))
  pss_nil)
  (pss_cons (ps_if (pt_cmpR op_eq (pe_callB call_len (by rfl) B.len PySem.boot_len (pa_cons (pv 1) pa_nil)) pe_int (nomark _))
  (pss_one (ps_ret (pe_methR (pv 0) SC.cl BM_at.mt D_at hr_at (passes_call (takes_of rfl rfl rfl rfl) fun _ _ _ _ h => h) (pa_cons (pv 2) (pa_cons (pv 3) pa_nil)))))
  pss_nil)
  (pss_one (ps_ret (pe_ifExp (pt_cmpR op_eq (pe_callB call_len (by rfl) B.len PySem.boot_len (pa_cons (pv 1) pa_nil)) pe_int (nomark _)) (pe_methR (pv 0) SC.cl BM_at.mt D_at hr_at (passes_call (takes_of rfl rfl rfl rfl) fun _ _ _ _ h => h) (pa_cons (pv 2) (pa_cons (pv 3) (pa_cons (pv 4) pa_nil)))) (pe_methR (pv 0) SC.cl BM_at.mt D_at hr_at (passes_call (takes_of rfl rfl rfl rfl) fun _ _ _ _ h => h) (pa_cons (pv 2) (pa_cons (pv 3) (pa_cons (pv 4) (pa_cons (pv 5) pa_nil))))))))))), ?_⟩
  refine ⟨_, rfl, slz rfl, fun a ha => ?_⟩
  have s1 := same_new (o := .lst [.non]) ha
  refine ⟨a, 4, [.non], rfl, rfl, upd_same, by decide, by decide, slz rfl, fun b hb => ?_⟩
  have s2 := s1.trans (same_new (o := .lst (List.replicate (4 : Int).toNat [V.non]).flatten) hb)
  refine ⟨l, b, kus, _, rfl, rfl, s2 _ _ gl, upd_same, ?_, fun c hc => ?_⟩
  · rw [sizeLine_eq]
    show kus.length + 4 ≤ _
    omega
  have s3 := s2.trans (same_new (o := .lst (kus ++ (List.replicate (4 : Int).toNat [V.non]).flatten)) hc)
  refine ⟨_, rfl, c, _, rfl, SqL.of upd_same, fun d hd => ?_⟩
  have s4 := s3.trans (same_new (o := .lst (cutV (kus ++ (List.replicate (4 : Int).toNat [V.non]).flatten) none (some 4))) hd)
  have gd : (upd (upd (upd (upd H a (.lst [.non])) b (.lst (List.replicate (4 : Int).toNat [V.non]).flatten)) c (.lst (kus ++ (List.replicate (4 : Int).toNat [V.non]).flatten))) d (.lst (cutV (kus ++ (List.replicate (4 : Int).toNat [V.non]).flatten) none (some 4)))) d = some (.lst (cutV (kus ++ (List.replicate (4 : Int).toNat [V.non]).flatten) none (some 4))) := upd_same
  generalize upd (upd (upd (upd H a (.lst [.non])) b (.lst (List.replicate (4 : Int).toNat [V.non]).flatten)) c (.lst (kus ++ (List.replicate (4 : Int).toNat [V.non]).flatten))) d (.lst (cutV (kus ++ (List.replicate (4 : Int).toNat [V.non]).flatten) none (some 4))) = H1 at s4 gd ⊢
  have len : ∀ σ : L2.St, True := fun _ => trivial
  match kus, gl, h4, kC, kG, gd with
  | [], gl, h4, kC, kG, gd =>
    refine ⟨d, _, rfl, SqL.of gd, rfl, _, _, rfl, _, _, rfl, _, _, rfl, _, _, rfl, rfl, ?_⟩
    refine ⟨_, rfl, _, _, rfl, .inl ⟨_, SqL.of (s4 _ _ gl), rfl⟩, ?_⟩
    refine ⟨_, _, rfl, rfl, _, rfl, ?_⟩
    refine iT rfl ?_
    refine ⟨_, rfl, _, _, rfl, .inl ⟨_, SqL.of (s4 _ _ gl), rfl⟩, ?_⟩
    refine ⟨rfl, _, rfl, ?_⟩
    refine iF rfl ?_
    exact ⟨_, rfl, x, dx, fs, rfl, s4 _ _ gx, f.na, at_go s4 hs hk hn hl h4 kC kG⟩
  | [k1], gl, h4, kC, kG, gd =>
    refine ⟨d, _, rfl, SqL.of gd, rfl, _, _, rfl, _, _, rfl, _, _, rfl, _, _, rfl, rfl, ?_⟩
    refine ⟨_, rfl, _, _, rfl, .inl ⟨_, SqL.of (s4 _ _ gl), rfl⟩, ?_⟩
    refine ⟨_, _, rfl, rfl, _, rfl, ?_⟩
    refine iT rfl ?_
    refine ⟨_, rfl, _, _, rfl, .inl ⟨_, SqL.of (s4 _ _ gl), rfl⟩, ?_⟩
    refine ⟨rfl, _, rfl, ?_⟩
    refine iT rfl ?_
    exact ⟨_, rfl, x, dx, fs, rfl, s4 _ _ gx, f.na, _, rfl, at_go s4 hs hk hn hl h4 kC kG⟩
  | [k1, k2], gl, h4, kC, kG, gd =>
    refine ⟨d, _, rfl, SqL.of gd, rfl, _, _, rfl, _, _, rfl, _, _, rfl, _, _, rfl, rfl, ?_⟩
    refine ⟨_, rfl, _, _, rfl, .inl ⟨_, SqL.of (s4 _ _ gl), rfl⟩, ?_⟩
    refine ⟨_, _, rfl, rfl, _, rfl, ?_⟩
    refine iF rfl ?_
    refine ⟨_, rfl, _, _, rfl, .inl ⟨_, SqL.of (s4 _ _ gl), rfl⟩, ?_⟩
    refine ⟨rfl, _, rfl, ?_⟩
    refine iT rfl ?_
    exact ⟨_, rfl, x, dx, fs, rfl, s4 _ _ gx, f.na, _, rfl, _, rfl, at_go s4 hs hk hn hl h4 kC kG⟩
  | [k1, k2, k3], gl, h4, kC, kG, gd =>
    refine ⟨d, _, rfl, SqL.of gd, rfl, _, _, rfl, _, _, rfl, _, _, rfl, _, _, rfl, rfl, ?_⟩
    refine ⟨_, rfl, _, _, rfl, .inl ⟨_, SqL.of (s4 _ _ gl), rfl⟩, ?_⟩
    refine ⟨_, _, rfl, rfl, _, rfl, ?_⟩
    refine iF rfl ?_
    refine ⟨_, rfl, _, _, rfl, .inl ⟨_, SqL.of (s4 _ _ gl), rfl⟩, ?_⟩
    refine ⟨rfl, _, rfl, ?_⟩
    refine iF rfl ?_
    refine ⟨_, rfl, _, _, rfl, .inl ⟨_, SqL.of (s4 _ _ gl), rfl⟩, ?_⟩
    refine ⟨rfl, _, rfl, ?_⟩
    refine iT rfl ?_
    exact ⟨_, rfl, x, dx, fs, rfl, s4 _ _ gx, f.na, _, rfl, _, rfl, _, rfl, at_go s4 hs hk hn hl h4 kC kG⟩
  | [k1, k2, k3, k4], gl, h4, kC, kG, gd =>
    refine ⟨d, _, rfl, SqL.of gd, rfl, _, _, rfl, _, _, rfl, _, _, rfl, _, _, rfl, rfl, ?_⟩
    refine ⟨_, rfl, _, _, rfl, .inl ⟨_, SqL.of (s4 _ _ gl), rfl⟩, ?_⟩
    refine ⟨_, _, rfl, rfl, _, rfl, ?_⟩
    refine iF rfl ?_
    refine ⟨_, rfl, _, _, rfl, .inl ⟨_, SqL.of (s4 _ _ gl), rfl⟩, ?_⟩
    refine ⟨rfl, _, rfl, ?_⟩
    refine iF rfl ?_
    refine ⟨_, rfl, _, _, rfl, .inl ⟨_, SqL.of (s4 _ _ gl), rfl⟩, ?_⟩
    refine ⟨rfl, _, rfl, ?_⟩
    refine iF rfl ?_
    exact ⟨_, rfl, x, dx, fs, rfl, s4 _ _ gx, f.na, _, rfl, _, rfl, _, rfl, _, rfl, at_go s4 hs hk hn hl h4 kC kG⟩
  | _ :: _ :: _ :: _ :: _ :: _, _, h4, _, _, _ => simp at h4
end
end L3

/-! try with several clauses 'except C as n', all of one name n -/
namespace L3
open PySem PySem.Spec PyProof.Rows L2
/-- a clause: the class it names, what its suite does -/
abbrev Clause := Value × (Addr → Value → Option Addr → TS)
/-- behind a suite the name at slot i is gone -/
def goneE (i : Nat) (D : Ends) : Ends := ⟨fun τ G => D.nx (τ.set i none) G, D.rt, fun τ G => D.bk (τ.set i none) G, fun τ G => D.ct (τ.set i none) G⟩
/-- what the clauses want of what flies, from the first on -/
def wantAs (K : PySem.W.Frag) (i : Nat) (out : WX) (D : Ends) : List Clause → WX
  | [] => out
  | q :: r => fun cls d τ G => ∃ y : Bool, PySem.W.exmOne K cls q.1 = some y ∧ (y = false → wantAs K i out D r cls d τ G) ∧ (y = true → ∀ a, G a = none → q.2 a cls d (goneE i D) (τ.set i (some (.ref a))) G)
/-- the clauses stand as they are written -/
inductive ClsAs (X : Cx) (n : Str) : List ExceptHandler → List Clause → Prop
  | nil : ClsAs X n [] []
  | cons {x : Str} {c : Value} {ts : Addr → Value → Option Addr → TS} {b : Stmt} {bs : List Stmt} {p1 p2 : Pos} {hs : List ExceptHandler} {r : List Clause} (nm : Names X x c)
      (su : ∀ (a : Addr) (ob : Obj) (cls : Value) (d : Option Addr) (pn : List (Addr × Obj)), Zc cls d ob → (∃ fs, ob.data = .fields fs) → PSs (X.suite a ((a, ob) :: pn)) (b :: bs) (ts a cls d)) (rest : ClsAs X n hs r) :
      ClsAs X n (.ExceptHandler (some (.Name x p1)) (some n) (b :: bs) p2 :: hs) ((c, ts) :: r)
section
variable {X : Cx} {n : Str} {i : Nat} {body : List Stmt} {h1 : ExceptHandler} {hs : List ExceptHandler} {cs : List Clause} {pos : Pos} {tb : WX → TS} {out : WX}
theorem ps_try_ases (st : X.stack = X.env :: X.outer) (fr : X.env.frame = some X.env.locals) (nd : X.N.Nodup) (ni : X.N[i]? = some n) (kl : X.env.kindOf n = some .local) (tk : Takes X out)
    (hb : ∀ (W : WX) (pn : List (Addr × Obj)) (xe : Value → Shared → Prop), Takes (X.tr pn xe) W → PassesOwn (model X.prog X.w) X.A X.env xe → PSs (X.tr pn xe) body (tb W))
    (hc : ClsAs X n (h1 :: hs) cs) : PS X (.Try body (h1 :: hs) [] [] pos) (fun D σ H => tb (wantAs X.K i out D cs) D σ H) := by
  constructor
  intro pins s σ H D I want
  have ok := I.ok
  have frs' : X.A.frames = some (X.env :: X.outer) := st ▸ ok.frames
  apply wpAny_Try_except
  refine wpAny_mono ((hb _ (X.pn ++ pins) (fun v t1 => wpAny (model X.prog X.w) X.A (noteFrame v X.env) (fun _ t2 => wpAny (model X.prog X.w) X.A (setFlight v none) (fun _ t3 => wpAny (model X.prog X.w) X.A (handleBy v X.env (h1 :: hs)) (SP X pins D) X.xe t3) X.xe t2) X.xe t1)
    (fun v t flying => ?_) PassesOwn.looking).run [] s σ H D (I.toTry _) want) (fun flow t z => ?_) (fun _ _ z => z)
  · obtain ⟨e, B, s0, pins2, τ, G, cls, d, rfl, J0, below, up, sky, fresh, os, ag, wish⟩ := flying
    have J : Inv X pins τ G s0 := J0.ofTry ok
    show wpAny (model X.prog X.w) X.A (noteFrame (.ref e) X.env) _ _ _
    refine Sky.land Zc.steady frs' fr (show Sky B (X.env :: X.outer) e (Zc cls d) X.env.locals t.heap from st ▸ sky) fun g land up2 => ?_
    obtain ⟨ob, vs, look, zc, fld⟩ := land.there
    have J2 : Inv X pins τ G { t with heap := g } := J.landed below land.1 (up.trans up2) os ag
    have apart : e ∉ frs (X.env :: X.outer) := by
      intro m
      obtain ⟨_, ob', look', nf⟩ := land.2.2.1.mem m
      cases look.symm.trans look'
      exact nf _ fld
    have notL : e ≠ X.env.locals := by
      rintro rfl
      exact apart (List.mem_filterMap.mpr ⟨X.env, .head _, fr⟩)
    have notF : e ∉ X.fs := by
      intro m
      obtain ⟨v, hv, q⟩ := List.mem_filterMap.mp m
      exact apart (List.mem_filterMap.mpr ⟨v, .tail _ hv, q⟩)
    have S := J2.suite look fld fresh notL notF
    clear want
    revert wish
    generalize h1 :: hs = hds at hc ⊢
    induction hc with
    | nil =>
      intro wish
      refine wpAny_handleBy_nil ?_
      obtain ⟨_, _, _, o1, w1, T, o2, w2, l1, z1, f1, tb1, r1⟩ := id land
      unfold PySem.passOn
      refine wpAny_bind (wpAny_field l1 f1 tb1 ?_)
      rw [if_neg (by simp)]
      have last : wpAny (model X.prog X.w) X.A (setFlight (.ref e) X.env.frame) (fun _ t4 => wpAny (model X.prog X.w) X.A (throw (.ref e) : Sem Flow) (SP X pins D) X.xe t4) X.xe { t with heap := g } := by
        rw [fr]
        refine HandSPX.setFlight_upZ land fun g4 sky4 up4 => wpAny_throw (tk _ _ ⟨e, B, s0, pins, τ, G, cls, d, rfl, J, below, (up.trans up2).trans up4, .inr (.inr (by rw [st]; exact sky4)), fresh, os, ag, wish⟩)
      first
        | exact wpAny_bind (wpAny_pure (wpAny_bind last))
        | exact wpAny_bind last
    | @cons x c ts b bs p1 p2 hs2 r nm su rest ih =>
      rintro ⟨y, ex, no, yes⟩
      refine wpAny_handleBy_cons (codeAny_handlers_test ?_) nofun
      have named : ∀ {Q : Value → Shared → Prop} {E : Value → Shared → Prop}, Q c { t with heap := g } → wpAny (model X.prog X.w) (X.A.mark (some (.ref e))) (eval (.Name x p1) X.env) Q E { t with heap := g } := by
        intro Q E hq
        obtain ⟨gl, db, m | ⟨m, bv, nn⟩⟩ := nm
        · exact ld_glob (X := X.suite e ((e, ob) :: (X.pn ++ pins))) S gl m hq db
        · exact ld_blt (X := X.suite e ((e, ob) :: (X.pn ++ pins))) S gl m bv hq nn db
      have typed : PySem.W.Looks (model X.prog X.w) g (typeOf (.ref e)) cls := fun _ _ _ _ kp hq => wpAny_typeOf_ref (kp _ _ look) (zc.1 ▸ hq)
      refine named ((PySem.W.exm_one (M := model X.prog X.w) J2.kIn typed ex).here ?_)
      cases y with
      | false =>
        show wpAny _ X.A (handleBy (.ref e) X.env hs2) _ _ _
        exact ih (no rfl)
      | true =>
        refine codeAny_handlers_suite_as (HandSPX.lands_againZ land fun g4 land4 up4 => ?_)
        have J4 : Inv X pins τ G { t with heap := g4 } := J.landed below land4.1 ((up.trans up2).trans up4) os ag
        obtain ⟨ob4, vs4, look4, zc4, fld4⟩ := land4.there
        refine store_ok (X := X.suite e ((e, ob4) :: (X.pn ++ pins))) (v := .ref e) (J4.suite look4 fld4 fresh notL notF) nd ni (.inl kl) rfl (fun t5 S5 => ?_) (.inr kl)
        refine wpAny_mono ((su e ob4 cls d (X.pn ++ pins) zc4 ⟨_, fld4⟩).run [] t5 _ G _ S5 (yes rfl e fresh)) (fun flow t6 z => ?_) (fun _ _ z => z.elim)
        have drop : ∀ {τ6 : L2.St} {G6 : Hp} {Q : Shared → Prop}, Inv (X.suite e ((e, ob4) :: (X.pn ++ pins))) [] τ6 G6 t6 → (∀ t7, Inv X pins (τ6.set i none) G6 t7 → Q t7) → wpAny (model X.prog X.w) X.A (do bindName X.env n .none; unbindBehindTheSuite X.env n p2) (fun _ t7 => Q t7) X.xe t6 :=
          fun S6 hq => gone_ok (S6.unsuite ok) nd ni kl hq
        cases flow with
        | ret u =>
          obtain ⟨v6, τ6, G6, S6, r6, q6⟩ := z
          exact drop S6 fun _ J7 => ⟨v6, _, G6, J7, r6, q6⟩
        | next =>
          obtain ⟨τ6, G6, S6, q6⟩ := z
          exact drop S6 fun _ J7 => ⟨_, G6, J7, q6⟩
        | brk =>
          obtain ⟨τ6, G6, S6, q6⟩ := z
          exact drop S6 fun _ J7 => ⟨_, G6, J7, q6⟩
        | cont =>
          obtain ⟨τ6, G6, S6, q6⟩ := z
          exact drop S6 fun _ J7 => ⟨_, G6, J7, q6⟩
  · cases flow with
    | ret u =>
      obtain ⟨v, τ, G, J, r, q⟩ := z
      exact ⟨v, τ, G, J.ofTry ok, r, q⟩
    | next =>
      obtain ⟨τ, G, J, q⟩ := z
      exact wpAny_execs_nil ⟨τ, G, J.ofTry ok, q⟩
    | brk =>
      obtain ⟨τ, G, J, q⟩ := z
      exact ⟨τ, G, J.ofTry ok, q⟩
    | cont =>
      obtain ⟨τ, G, J, q⟩ := z
      exact ⟨τ, G, J.ofTry ok, q⟩
end
end L3

/-! repr of a value of any kind, at the law's own level -/
namespace L3
open PySem PySem.Spec PyProof.Rows L2
section
variable {X : Cx}
def rReprV (t : Addr) : List V → Hp → VK → Prop := fun xs H Q => ∃ (v : V) (d : PyData), xs = [v] ∧ Da t H v d ∧ d.showable = true ∧ d.depth ≤ 60 ∧ d.shown.length ≤ sizeLine ∧ (∀ i, d = .int i → i.natAbs.log2 < 1920) ∧ Q (.str d.shown) H
theorem call_reprV (t : Addr) (hg : X.A.guards = some []) (hu : X.A.units + 64 < cLine) : CallR X (.builtin "repr") (rReprV t) := by
  intro pins s σ H xs us Q I r h
  obtain ⟨v, d, rfl, hd, hs, hdep, hsz, hi, q⟩ := h
  obtain ⟨u, rfl, rx⟩ := vals1 r
  have any : ∀ E a, v = .ref a → wpAny (model X.prog X.w) X.A (call (.builtin "repr") [u]) (EP X pins σ Q) E s := fun E a e => by
    subst e
    obtain rfl : u = Value.ref a := rx
    obtain ⟨as, hr, n⟩ := Da.reads I d _ _ hd (show RelV (.ref a) (.ref a) from rfl)
    exact repr_of_reads' hr hs (fun _ => n) hg (by omega) (fun _ _ e => e) (fun h' u tk hk => ⟨.str d.shown, H, I.kept (t' := tk) hk, ⟨u, rfl⟩, q⟩) hsz
  cases d with
  | none =>
    cases hd
    cases (show u = Value.none from rx)
    exact PySem.P.repr_of_none ⟨.str _, H, I.tok _, ⟨_, rfl⟩, q⟩
  | bool b =>
    cases hd
    cases (show u = Value.bool b from rx)
    exact PySem.P.repr_of_bool ⟨.str _, H, I.tok _, ⟨_, rfl⟩, q⟩
  | int i =>
    cases hd
    obtain ⟨k, rfl⟩ := (show ∃ k, u = Value.int i k from rx)
    exact PySem.P.repr_of_int (hi i rfl) ⟨.str _, H, I.tok _, ⟨_, rfl⟩, q⟩
  | str x =>
    cases hd
    obtain ⟨k, rfl⟩ := (show ∃ k, u = Value.str x k from rx)
    exact PySem.P.repr_of_str ⟨.str _, H, I.tok _, ⟨_, rfl⟩, q⟩ hsz
  | list ds => cases id hd with | lst => exact any _ _ rfl
  | tuple ds => cases id hd with | tup => exact any _ _ rfl
  | dict ds => cases id hd with | dct => exact any _ _ rfl
end
end L3

/-! an own exception with fields, caught: isinstance(e, T) in the suite; what its class is -/
namespace L3
open PySem PySem.Spec PyProof.Rows L2
def rIsS (K : PySem.W.Frag) (C a : Addr) (cls : Value) (d : Option Addr) : List V → Hp → VK → Prop := fun xs H Q => ∃ (c : V) (cv : Value) (b : Bool), xs = [.ref a, c] ∧ cls = .ref C ∧ (∃ dd fs, d = some dd ∧ H dd = some (.xd fs)) ∧ (∀ u, RelV c u → u = cv) ∧ PySem.W.kitOne K (.ref C) cv = some b ∧ Q (.bl b) H
theorem call_isS {X : Cx} {a C : Addr} {oe : Obj} {cls : Value} {d : Option Addr} {pn : List (Addr × Obj)} (T : Xr X.K C) (hz : Zc cls d oe) (hf : ∃ vs, oe.data = .fields vs) : CallR (X.suite a ((a, oe) :: pn)) (.builtin "isinstance") (rIsS X.K C a cls d) := by
  intro pins s σ H xs us Q I r ⟨c, cv, b, exs, ec, ⟨dd, fs, ed, ea⟩, hc, e, q⟩
  subst exs
  subst ec
  subst ed
  cases r with
  | cons ra rr =>
    cases rr with
    | cons rc rr =>
      cases rr
      cases ra
      cases hc _ rc
      obtain ⟨ha, _⟩ := I.pin (a, oe) (List.mem_append_left _ List.mem_cons_self)
      obtain ⟨vs, hd⟩ := hf
      have hx : ObjOk X.prog X.w H s.heap dd (.xd fs) := I.hok dd _ ea
      obtain ⟨mA, hns, hr⟩ := hx
      obtain ⟨od, ho, hl⟩ := lookIn_ns hns
      have J : PySem.W.InstAt s.heap a oe C (some od) := ⟨ha, hz.1, by unfold PySem.W.notCls; rw [hd] <;> rfl, by rw [hz.2]; exact ho⟩
      have cl : (PySem.W.clsIn X.K C).isSome = true := by
        obtain ⟨cd, h1, _⟩ := PySem.W.any_some T.dct
        rw [h1]
        rfl
      exact PySem.W.kia_one (PySem.W.kitx_exc cl T.ga T.gg T.sb T.cl T.gs T.tk T.ob) I.kIn J e (fun z => nomatch z) fun tk => ⟨.bl b, H, I.kept (t' := tk) fun _ _ z => z, rfl, q⟩
theorem Xr.xf {K : PySem.W.Frag} {C : Addr} (R : Xr K C) : XfC K C := ⟨R.ga, R.gg, R.sb, R.dct⟩
theorem call_reprAny {X : Cx} (hg : X.A.guards = some []) (hu : X.A.units + 64 < cLine) : CallR X (.builtin "repr") (fun xs H Q => ∃ t, rReprV t xs H Q) :=
  fun pins s σ H xs us Q I r ⟨t, h⟩ => call_reprV t hg hu pins s σ H xs us Q I r h
/-- an own class in its own except clause -/
theorem exm_self {K : PySem.W.Frag} {C : Addr} {bm : List Value} (R : Xr K C) (h : ∃ cd, PySem.W.clsIn K C = some cd ∧ cd.mro = .ref C :: bm) (ty : PySem.W.typeIn K (.ref C) = some (.type "type")) : PySem.W.exmOne K (.ref C) (.ref C) = some true := by
  refine PySem.W.exm_ref R.sb R.dct ty ?_
  obtain ⟨cd, e1, e2⟩ := h
  unfold PySem.W.subIn
  dsimp only
  unfold PySem.W.mroIn
  rw [e1, Option.bind_some, e2]
  show some (List.contains (Value.ref C :: bm) (.ref C)) = some true
  rw [List.contains_cons]
  simp
theorem kit_base {K : PySem.W.Frag} {C : Addr} {bm : List Value} {T : String} (h : ∃ cd, PySem.W.clsIn K C = some cd ∧ cd.mro = .ref C :: bm) (hm : PySem.W.kitMeta T = true) (hb : bm.contains (.type T) = true) : PySem.W.kitOne K (.ref C) (.type T) = some true := by
  obtain ⟨cd, e1, e2⟩ := h
  unfold PySem.W.kitOne
  rw [if_neg (by simp)]
  unfold PySem.W.kitCls
  dsimp only
  rw [if_pos hm]
  unfold PySem.W.subIn
  dsimp only
  unfold PySem.W.mroIn
  rw [e1, Option.bind_some, e2]
  show some (List.contains (Value.ref C :: bm) (.type T)) = some true
  rw [List.contains_cons, hb]
  simp
end L3

namespace L3
open PySem L2 StX LamX
abbrev s__law_refused : Stmt := topS 62
abbrev N__law_refused : List Str := ["_law_call", "e"]
theorem sc__law_refused : FnScope N__law_refused ["_law_call"] (defScope s__law_refused) := ⟨rfl, rfl, rfl, by decide +kernel, rfl, by decide +kernel, by decide +kernel⟩
/-- what can be shown by the law -/
structure Shw (d : PyData) : Prop where
  sh : d.showable = true
  dep : d.depth ≤ 60
  len : d.shown.length ≤ sizeLine
  small : ∀ i, d = .int i → i.natAbs.log2 < 1920
/-- what the field of an error gives -/
def Told (f g : Str) (d : Option Addr) (H : Hp) (Q : VK) : Prop := ∃ (t dd : Addr) (u : V) (dat : PyData), d = some dd ∧ H dd = some (.xd [(f, u)]) ∧ Da t H u dat ∧ Shw dat ∧ ∀ l, H l = none → Q (.ref l) (upd H l (.lst [.str g, .str dat.shown, .bl true]))
def TTref (CK CN CC : Addr) : (XK → Hp → VK → Prop) → Hp → VK → Prop := fun tl H Q =>
  tl (fun cls d H' => (cls = .ref CK ∧ Told "value" "kind" d H' Q) ∨ (cls = .ref CN ∧ Told "value" "need" d H' Q) ∨ (cls = .ref CC ∧ Told "number" "count" d H' Q)) H fun x H' => 2 ≤ sizeLine ∧ ∀ r, H' r = none → Q (.ref r) (upd H' r (.lst [.str "told", x]))
theorem exm_not {K : PySem.W.Frag} {C D : Addr} {bm : List Value} (R : Xr K D) (hC : ∃ cd, PySem.W.clsIn K C = some cd ∧ cd.mro = .ref C :: bm) (ty : PySem.W.typeIn K (.ref D) = some (.type "type")) (ne : D ≠ C) (nb : bm.contains (.ref D) = false) : PySem.W.exmOne K (.ref C) (.ref D) = some false := by
  refine PySem.W.exm_ref R.sb R.dct ty ?_
  obtain ⟨cd, e1, e2⟩ := hC
  unfold PySem.W.subIn
  dsimp only
  unfold PySem.W.mroIn
  rw [e1, Option.bind_some, e2]
  show some (List.contains (Value.ref C :: bm) (.ref D)) = some false
  rw [List.contains_cons, nb]
  simp [ne]
theorem takes_lenS {X : Cx} {W : WX} (tk : Takes X W) : Takes X (fun cls d σ H => σ.length = X.N.length → W cls d σ H) := fun u s' x => by
  obtain ⟨a, B, sI, pins, σ, H, cls, d, e, I, nb, up, sky, na, os, ag, w⟩ := x
  exact tk u s' ⟨a, B, sI, pins, σ, H, cls, d, e, I, nb, up, sky, na, os, ag, w I.len⟩
theorem ref_gives {X : Cx} {q : Str} {g CK CN CC : Addr} {cdg : Value} {P : Program} {w : World} {base : Heap} (hK : E1 P w X.K X.mg base "InvalidKind" "value" mroV "ValueError.__new__" CK) (hN : E1 P w X.K X.mg base "InvalidNeed" "value" mroV "ValueError.__new__" CN) (hC : E1 P w X.K X.mg base "InvalidCount" "number" mroV "ValueError.__new__" CC) (nKN : CN ≠ CK) (nKC : CC ≠ CK) (nNC : CC ≠ CN)
    (B : Bl X.mg) (B9 : Bl9 X.mg) (hVE : X.mg "ValueError" = none) (hgd : X.A.guards = some []) (hu : ∀ env, (X.A.deeper env).units + 64 < cLine) :
    GivesTo X N__law_refused "_law_refused" (defScope s__law_refused) g cdg (defBody s__law_refused) "_law_call" q (TTref CK CN CC) := by
  intro f c' s H Q tl act hc h
  have glK : Gl (cxOf C8.CX0 X.prog X.w X.K X.mg X.base N__law_refused "_law_refused" (defScope s__law_refused) g cdg X.A X.stack s H C8.E0).nox "InvalidKind" := by rfl
  have glN : Gl (cxOf C8.CX0 X.prog X.w X.K X.mg X.base N__law_refused "_law_refused" (defScope s__law_refused) g cdg X.A X.stack s H C8.E0).nox "InvalidNeed" := by rfl
  have glC : Gl (cxOf C8.CX0 X.prog X.w X.K X.mg X.base N__law_refused "_law_refused" (defScope s__law_refused) g cdg X.A X.stack s H C8.E0).nox "InvalidCount" := by rfl
  refine ⟨_, pss_one (ps_try_ases (X := (cxOf C8.CX0 X.prog X.w X.K X.mg X.base N__law_refused "_law_refused" (defScope s__law_refused) g cdg X.A X.stack s H C8.E0).nox) (i := 1)
      (tb := fun W D σ H => ∃ Ech : XK, (∀ cls d (σ' : L2.St) H', σ'.length = 2 → Ech cls d H' → W cls d σ' H') ∧ σ[0]? = some (some (.ref f)) ∧ H c' = some (CodeO c' q) ∧ tl Ech H fun x H1 => 2 ≤ sizeLine ∧ ∀ r, H1 r = none → D.rt (.ref r) (upd H1 r (.lst [.str "told", x])))
      rfl rfl sc__law_refused.nd rfl rfl LamX.takes0 ?hb
      (.cons (c := .ref CK) ⟨glK, by decide, .inl hK.hm⟩ (fun a oe cls d pn hz hf => pss_one (ps_ret (pe_lst (pa_cons pe_str (pa_cons
        (pe_callB (call_reprAny hgd (hu (PyProof.Rows.envOfC "_law_refused" (defScope s__law_refused) s.heap.objs.size g cdg))) (by rfl) B.repr (by decide +kernel) (pa_cons (pe_xf hK.R.xf hK.no hz hf (pv 1)) pa_nil)) (pa_cons (pe_callB (call_isS hK.R hz hf) (by rfl) B9.isinstance PyProof.Rows.boot_isinstance (pa_cons (pv 1) (pa_cons (pe_bltn (v := .ty "ValueError") (by rfl) hVE (by decide +kernel) rfl) pa_nil))) pa_nil))))))
      (.cons (c := .ref CN) ⟨glN, by decide, .inl hN.hm⟩ (fun a oe cls d pn hz hf => pss_one (ps_ret (pe_lst (pa_cons pe_str (pa_cons
        (pe_callB (call_reprAny hgd (hu (PyProof.Rows.envOfC "_law_refused" (defScope s__law_refused) s.heap.objs.size g cdg))) (by rfl) B.repr (by decide +kernel) (pa_cons (pe_xf hN.R.xf hN.no hz hf (pv 1)) pa_nil)) (pa_cons (pe_callB (call_isS hN.R hz hf) (by rfl) B9.isinstance PyProof.Rows.boot_isinstance (pa_cons (pv 1) (pa_cons (pe_bltn (v := .ty "ValueError") (by rfl) hVE (by decide +kernel) rfl) pa_nil))) pa_nil))))))
      (.cons (c := .ref CC) ⟨glC, by decide, .inl hC.hm⟩ (fun a oe cls d pn hz hf => pss_one (ps_ret (pe_lst (pa_cons pe_str (pa_cons
        (pe_callB (call_reprAny hgd (hu (PyProof.Rows.envOfC "_law_refused" (defScope s__law_refused) s.heap.objs.size g cdg))) (by rfl) B.repr (by decide +kernel) (pa_cons (pe_xf hC.R.xf hC.no hz hf (pv 1)) pa_nil)) (pa_cons (pe_callB (call_isS hC.R hz hf) (by rfl) B9.isinstance PyProof.Rows.boot_isinstance (pa_cons (pv 1) (pa_cons (pe_bltn (v := .ty "ValueError") (by rfl) hVE (by decide +kernel) rfl) pa_nil))) pa_nil))))))
      .nil)))), ?rd⟩
  case hb =>
    intro W pn xe tk _
    refine ⟨fun pins s' σ H' D I h' => ?_⟩
    obtain ⟨Ech, hW, h1, h2, h3⟩ := h'
    exact (pss_one (ps_ret (pe_lst (pa_cons pe_str (pa_cons (act _ pn xe Ech _ _ (takes_lenS tk) fun cls d σ' H' he hl => hW cls d σ' H' hl he) pa_nil))))).run pins s' σ H' D I ⟨h1, h2, h3⟩
  case rd =>
    refine ⟨fun cls d H' => (cls = .ref CK ∧ Told "value" "kind" d H' Q) ∨ (cls = .ref CN ∧ Told "value" "need" d H' Q) ∨ (cls = .ref CC ∧ Told "number" "count" d H' Q), fun cls d σ' H' hl hh => ?_, rfl, hc, h⟩
    have e1 : ∀ a : Addr, (σ'.set 1 (some (V.ref a)))[1]? = some (some (V.ref a)) := fun a => List.getElem?_set_self (by omega)
    rcases hh with ⟨ec, t, dd, u, dat, ed, gd, hd, ho, k⟩ | ⟨ec, t, dd, u, dat, ed, gd, hd, ho, k⟩ | ⟨ec, t, dd, u, dat, ed, gd, hd, ho, k⟩
    · refine ⟨true, by rw [ec]; exact exm_self hK.R hK.cd hK.ty, nofun, fun _ a ha => ?_⟩
      have e1 := e1 a
      refine ⟨_, e1, rfl, ec, dd, _, u, ed, gd, rfl, t, u, dat, rfl, hd, ho.sh, ho.dep, ho.len, ho.small, _, e1, .ty "ValueError", .type "ValueError", true, rfl, ec, ⟨dd, _, ed, gd⟩, fun u hu => hu, kit_base hK.cd (by decide +kernel) (by decide +kernel), ?_⟩
      exact ⟨slz rfl, fun l hl2 => k l hl2⟩
    · refine ⟨false, by rw [ec]; exact exm_not hK.R hN.cd hK.ty nKN.symm (by rfl), fun _ => ?_, nofun⟩
      refine ⟨true, by rw [ec]; exact exm_self hN.R hN.cd hN.ty, nofun, fun _ a ha => ?_⟩
      have e1 := e1 a
      refine ⟨_, e1, rfl, ec, dd, _, u, ed, gd, rfl, t, u, dat, rfl, hd, ho.sh, ho.dep, ho.len, ho.small, _, e1, .ty "ValueError", .type "ValueError", true, rfl, ec, ⟨dd, _, ed, gd⟩, fun u hu => hu, kit_base hN.cd (by decide +kernel) (by decide +kernel), ?_⟩
      exact ⟨slz rfl, fun l hl2 => k l hl2⟩
    · refine ⟨false, by rw [ec]; exact exm_not hK.R hC.cd hK.ty nKC.symm (by rfl), fun _ => ?_, nofun⟩
      refine ⟨false, by rw [ec]; exact exm_not hN.R hC.cd hN.ty nNC.symm (by rfl), fun _ => ?_, nofun⟩
      refine ⟨true, by rw [ec]; exact exm_self hC.R hC.cd hC.ty, nofun, fun _ a ha => ?_⟩
      have e1 := e1 a
      refine ⟨_, e1, rfl, ec, dd, _, u, ed, gd, rfl, t, u, dat, rfl, hd, ho.sh, ho.dep, ho.len, ho.small, _, e1, .ty "ValueError", .type "ValueError", true, rfl, ec, ⟨dd, _, ed, gd⟩, fun u hu => hu, kit_base hC.cd (by decide +kernel) (by decide +kernel), ?_⟩
      exact ⟨slz rfl, fun l hl2 => k l hl2⟩
end L3

namespace L3
open PySem L2 RT
section
variable {P : Program} {w : World} {K : PySem.W.Frag} {mg : Str → Option Value} {base : Heap}
abbrev s__law_with : Stmt := topS 59
abbrev N__law_with : List Str := ["_law_need", "_law_by", "_law_kind"]
theorem sc__law_with : FnScope N__law_with ["_law_need", "_law_by"] (defScope s__law_with) := ⟨rfl, rfl, rfl, by decide +kernel, rfl, by decide +kernel, by decide +kernel⟩
def spWith (n : Nat) : Sp := fun vs H Q _ => ∃ (v : V) (d : Addr) (nd : Nd) (kvs : List (Key × V)) (by' : By), vs = [v, .ref d] ∧ NdAt H v nd ∧ (∀ k ∈ nd.ks, k.fit n) ∧ 1 ≤ nd.ks.length ∧ nd.ks.length ≤ 2 ∧ H d = some (.dK kvs) ∧ ByAt H kvs by' ∧ ∀ H' v', Same H H' → NdAt H' v' (nd.put by') → Q v' H'
theorem ok_with {n : Nat} {f : Addr} {fd : FuncData} (F : Fun K "_law_with" "_law_with" s__law_with f fd) (B : Bl mg) (D__law_put : Kn P w K mg base (n + 1) "_law_put" ["_law_kind", "_law_by"] (spPut K n)) : FnOk P w K mg base CX0 (n + 2) f fd ["_law_need", "_law_by"] (spWith n) := by
  refine F.ok sc__law_with (fun vs H Q E h => ?_) (fun cdv A outer s H vs Q E hr h => ?_)
  · obtain ⟨v, d, nd, kvs, by', rfl, _⟩ := h
    rfl
  · obtain ⟨v, d, nd, kvs, by', rfl, hv, hf, h1, h2, gd, hb, k⟩ := h
    have hr__law_put : Room (n + 1) _ := hr
    refine ⟨_, (pss_one (ps_ret (pe_op op_catT (pe_tup (pa_cons (pe_ix ix_tup (pv 0) pe_int (fun _ _ => rfl)) pa_nil)) (pe_callTy call_tuple_of (by rfl) B.tuple (by decide +kernel) (pa_cons (pe_lc (own := [("_law_kind", 2)]) rfl sc__law_with.nd (pi_tup (pe_slice sl_tup (pv 0) (po_some pe_int) po_none)) (blkOk_by (N := N__law_with) (sc := (defScope s__law_with)) (own := [("_law_kind", 2)]) (by decide +kernel)) (fun _ _ _ _ _ => (pg_name (i := 2) sc__law_with.nd rfl (Or.inl rfl))) (fun _ _ _ _ _ => pts_nil) (fun _ _ _ _ _ => (pe_kn D__law_put hr__law_put (pa_cons (pv 2) (pa_cons (pv 1) pa_nil))))) pa_nil))))), ?_⟩
    obtain ⟨a, us, rfl, ga, hk⟩ := id hv
    have lu : us.length = nd.ks.length := Paired.length hk
    refine ⟨_, rfl, a, _, 0, _, rfl, rfl, SqT.of ga, at_ofG (j := 0) rfl rfl, slz rfl, fun q hq => ?_⟩
    have s1 := same_new (o := .tup [.str nd.nm]) hq
    refine ⟨_, rfl, _, rfl, a, _, rfl, SqT.of (s1 _ _ ga), not_tail, fun p hp => ?_⟩
    rw [cut_tail, List.tail_cons]
    have s2 := s1.trans (same_new (o := .tup us) hp)
    have gq : (upd (upd H q (.tup [.str nd.nm])) p (.tup us)) q = some (.tup [.str nd.nm]) := same_new hp _ _ upd_same
    have gp : (upd (upd H q (.tup [.str nd.nm])) p (.tup us)) p = some (.tup us) := upd_same
    generalize upd (upd H q (.tup [.str nd.nm])) p (.tup us) = H1 at s2 gq gp ⊢
    refine ⟨p, rfl, ⟨_, SqT.of gp⟩, fun D hD => lc_it (J := Itt K p) (g := gName 2) walk_tup (fun i H' => Same H1 H' ∧ ∃ ws, H' D = some (.lst ws) ∧ KdsAt H' ws ((nd.ks.take i).map (·.put by'))) ⟨same_new hD, [], upd_same, .nil⟩ (fun i H' _ h => SqT.of (h.1 _ _ gp)) ?_ ?_⟩
    · rintro i y H2 H3 hi ⟨s3, ws, g3, w3⟩ ⟨rfl, ey⟩
      obtain ⟨ky, hky, hy⟩ := paired_get hk ey
      have S3 := s2.trans s3
      refine ⟨rfl, ?_⟩
      refine ⟨_, rfl, _, rfl, y, d, ky, kvs, by', rfl, hy.tups (same_tups S3), hf _ (List.mem_of_getElem? hky), S3 _ _ gd, ByAt.tups (same_tups S3) hb, fun H4 v4 s4 k4 => ?_⟩
      have g4 := s4 _ _ g3
      have lws : ws.length ≤ 2 := by
        rw [Paired.length w3, List.length_map, List.length_take]
        omega
      refine ⟨ws, g4, szl (by omega), fun b o z => ?_, ws ++ [v4], upd_same, ?_⟩
      · rw [upd_ne (ne_of_none z hD)]
        exact s4 _ _ (s3 _ _ z)
      · have tp : Tups H4 (upd H4 D (.lst (ws ++ [v4]))) := Tups.put g4 nofun
        rw [List.take_add_one, hky, List.map_append]
        exact Paired.snoc (KdsAt.tups tp (KdsAt.tups (same_tups s4) w3)) (k4.tups tp)
    · rintro H2 ⟨s3, ws, g3, w3⟩
      rw [lu, List.take_length] at w3
      have lws : ws.length = nd.ks.length := by rw [Paired.length w3, List.length_map]
      refine ⟨D, ws, rfl, .inl ⟨SqL.of g3, fun l hl => ?_⟩⟩
      have s4 := same_new (o := .tup ws) hl
      refine ⟨q, l, _, _, rfl, rfl, SqT.of (s4 _ _ (s3 _ _ gq)), SqT.of upd_same, by simp, by rw [sizeLine_eq]; show 1 + ws.length ≤ _; omega, fun z => ?_, fun _ r hr2 => ?_⟩
      · rw [z] at lws
        simp at lws
        omega
      · have s5 := same_new (o := .tup ([.str nd.nm] ++ ws)) hr2
        exact k _ _ (s2.trans (s3.trans (s4.trans s5))) ⟨r, ws, rfl, upd_same, KdsAt.tups (same_tups (s4.trans s5)) w3⟩
abbrev s__law_count_leaves : Stmt := topS 61
abbrev N__law_count_leaves : List Str := ["_law_kind"]
theorem sc__law_count_leaves : FnScope N__law_count_leaves ["_law_kind"] (defScope s__law_count_leaves) := ⟨rfl, rfl, rfl, by decide +kernel, rfl, by decide +kernel, by decide +kernel⟩
def spCount (n : Nat) : Sp := fun vs H Q _ => ∃ (v : V) (k : Kd), vs = [v] ∧ KdAt H v k ∧ k.fit n ∧ n ≤ 10 ∧ Q (.int (k.leaves.length : Int)) H
theorem leaves_pow : ∀ {k : Kd} {n : Nat}, k.fit n → k.leaves.length ≤ 2 ^ n := by
  intro k
  induction k with
  | var x => intro n _; exact Nat.one_le_two_pow
  | con x => intro n _; exact Nat.one_le_two_pow
  | app a b ia ib =>
    intro n h
    obtain ⟨m, rfl, h1, h2⟩ := Kd.fit_app h
    have h1 := ia h1
    have h2 := ib h2
    show (a.leaves ++ b.leaves).length ≤ _
    rw [List.length_append, Nat.pow_succ]
    omega
theorem ok_count_step {n : Nat} {f : Addr} {fd : FuncData} (F : Fun K "_law_count_leaves" "_law_count_leaves" s__law_count_leaves f fd) (D__law_count_leaves : Kn P w K mg base n "_law_count_leaves" ["_law_kind"] (spPrev spCount n)) : FnOk P w K mg base CX0 (n + 1) f fd ["_law_kind"] (spCount n) := by
  refine F.ok sc__law_count_leaves (fun vs H Q E h => ?_) (fun cdv A outer s H vs Q E hr h => ?_)
  · obtain ⟨v, k, rfl, _⟩ := h
    rfl
  · obtain ⟨v, kd, rfl, h1, h2, h10, k⟩ := h
    have hr__law_count_leaves := hr
    have hu := hu_of hr
    refine ⟨_, (pss_one (ps_ret (pe_ifExp (pt_cmpR op_eq (pe_ix ix_tup (pv 0) pe_int (fun _ _ => rfl)) pe_str (nomark _)) (pe_op op_add (pe_kn D__law_count_leaves hr__law_count_leaves (pa_cons (pe_ix ix_tup (pv 0) pe_int (fun _ _ => rfl)) pa_nil)) (pe_kn D__law_count_leaves hr__law_count_leaves (pa_cons (pe_ix ix_tup (pv 0) pe_int (fun _ _ => rfl)) pa_nil))) pe_int))), ?_⟩
    cases kd with
    | app a b =>
      obtain ⟨m, rfl, ha, hb⟩ := Kd.fit_app h2
      obtain ⟨p, u, z, rfl, hp, hu1, hz1⟩ := h1
      have la := leaves_pow ha
      have lb := leaves_pow hb
      have lm : 2 ^ m ≤ 2 ^ 9 := Nat.pow_le_pow_right (by decide) (by omega)
      refine ⟨_, rfl, _, _, _, _, rfl, rfl, SqT.of hp, rfl, rfl, _, rfl, iT tg_aa ?_⟩
      refine ⟨_, rfl, _, _, _, _, rfl, rfl, SqT.of hp, rfl, u, a, rfl, hu1, ha, by omega, ?_⟩
      refine ⟨_, rfl, _, _, _, _, rfl, rfl, SqT.of hp, rfl, z, b, rfl, hz1, hb, by omega, ?_⟩
      refine ⟨_, _, rfl, rfl, ?_⟩
      · have e : ((a.leaves.length : Int) + (b.leaves.length : Int)) = ((Kd.app a b).leaves.length : Int) := by
          show _ = (((a.leaves ++ b.leaves).length : Nat) : Int)
          rw [List.length_append]
          omega
        show Q (.int ((a.leaves.length : Int) + (b.leaves.length : Int))) H
        rw [e]
        exact k
    | var x =>
      obtain ⟨p, rfl, hp⟩ := id h1
      refine ⟨_, rfl, _, _, _, _, rfl, rfl, SqT.of hp, rfl, rfl, _, rfl, iF tg_va ?_⟩
      exact k
    | con x =>
      obtain ⟨p, rfl, hp⟩ := id h1
      refine ⟨_, rfl, _, _, _, _, rfl, rfl, SqT.of hp, rfl, rfl, _, rfl, iF tg_ca ?_⟩
      exact k
theorem ok_count {f : Addr} {fd : FuncData} (F : Fun K "_law_count_leaves" "_law_count_leaves" s__law_count_leaves f fd) (hm : mg "_law_count_leaves" = some (.ref f)) : ∀ n, FnOk P w K mg base CX0 (n + 1) f fd ["_law_kind"] (spCount n)
  | 0 => ok_count_step F ⟨f, fd, fn_false, hm, F.kp, F.binds fun _ _ _ _ _ _ us hl => match us, hl with | [_], _ => rfl⟩
  | n + 1 => ok_count_step F ⟨f, fd, ok_count F hm n, hm, F.kp, F.binds fun _ _ _ _ _ _ us hl => match us, hl with | [_], _ => rfl⟩
abbrev s__law_odd : Stmt := topS 54
abbrev N__law_odd : List Str := ["_law_tape", "_law_some"]
theorem sc__law_odd : FnScope N__law_odd ["_law_tape"] (defScope s__law_odd) := ⟨rfl, rfl, rfl, by decide +kernel, rfl, by decide +kernel, by decide +kernel⟩
def oddA : List PyData := [.none, .bool true, .bool false, .int 0, .int 1, .int (-1), .int 7, .int (10 ^ 40), .str "", .str "a", .str "self", .str "data", .str "A", .str "a b", .str "whole", .tuple [], .list [], .dict [], .tuple [.str "a"]]
def oddB : List PyData := [.list [.str "a"], .tuple [.int 0], .tuple [.int 1, .int 2], .list [.int 0], .tuple [.tuple [.str "a"]], .dict [(.str "a", .int 1)], .tuple [.str "var", .str "a"], .tuple [.str "con", .str "whole"], .tuple [.str "name", .str "a"], .tuple [.none]]
def oddC : List PyData := [.tuple [.str "apply", .tuple [.str "con", .str "to"]], .tuple [.str "var", .int 1], .str "abcdefghi", .tuple [.int 1, .int 1], .tuple [.str "whole", .bool true], .list [.tuple []], .int 3, .tuple [.str "same", .tuple []]]
def oddD : List PyData := [.tuple [.str "given", .int 0, .tuple []], .tuple [.str "case", .str "a", .tuple []], .tuple [.str "whole", .int 1], .tuple [.str "hole"], .tuple [.str "definition", .str "a"], .dict []]
def odds : List PyData := oddA ++ oddB ++ oddC ++ oddD
theorem kp_ext {K : PySem.W.Frag} {t c : Addr} {b : Nat} {H H' : Hp} (e : Ext t H H') (T : Tape K H t c b) : Kp t H H' := by
  obtain ⟨_, _, _, h, _⟩ := T
  exact ⟨fun a xs g => e a _ (fun z => by rw [z, h] at g; cases g) g, fun a xs g => e a _ (fun z => by rw [z, h] at g; cases g) g, fun a kvs n g => e a _ n g⟩
def spOdd (K : PySem.W.Frag) : Sp := fun vs H Q _ => ∃ (t c : Addr) (b : Nat), vs = [.ref t] ∧ Tape K H t c (b + 1) ∧ ∀ (H' : Hp) (v : V) (d : PyData), Ext t H H' → Tape K H' t c b → Da t H' v d → d ∈ odds → Q v H'
theorem ok_odd {f : Addr} {fd : FuncData} (F : Fun K "_law_odd" "_law_odd" s__law_odd f fd) (D__law_pick : Kn P w K mg base 2 "_law_pick" ["_law_tape", "_law_items"] (spPick K)) : FnOk P w K mg base CX0 3 f fd ["_law_tape"] (spOdd K) := by
  refine F.ok sc__law_odd (fun vs H Q E h => ?_) (fun cdv A outer s H vs Q E hr h => ?_)
  · obtain ⟨t, c, b, rfl, _⟩ := h
    rfl
  · obtain ⟨t, c, b, rfl, T, k⟩ := h
    have hr__law_pick : Room 2 _ := hr
    refine ⟨_, (pss_cons (ps_set (i := 1) sc__law_odd.nd rfl (Or.inl rfl) (pl_lstL (t := t) (pl_cons (pl_c pe_non fun _ => .non) (pl_cons (pl_c pe_bl fun _ => .bl _) (pl_cons (pl_c pe_bl fun _ => .bl _) (pl_cons (pl_c pe_int fun _ => .int _) (pl_cons (pl_c pe_int fun _ => .int _) (pl_cons (pl_neg pe_int) (pl_cons (pl_c pe_int fun _ => .int _) (pl_cons (pl_pow pe_int pe_int ⟨by decide, by decide, by decide⟩) (pl_cons (pl_c pe_str fun _ => .str _) (pl_cons (pl_c pe_str fun _ => .str _) (pl_cons (pl_c pe_str fun _ => .str _) (pl_cons (pl_c pe_str fun _ => .str _) (pl_cons (pl_c pe_str fun _ => .str _) (pl_cons (pl_c pe_str fun _ => .str _) (pl_cons (pl_c pe_str fun _ => .str _) (pl_cons (pl_tup pl_nil) (pl_cons (pl_lst pl_nil) (pl_cons pl_d0 (pl_cons (pl_tup (pl_cons (pl_c pe_str fun _ => .str _) pl_nil)) pl_nil)))))))))))))))))))))
  (pss_cons (ps_set (i := 1) sc__law_odd.nd rfl (Or.inl rfl) (pe_op op_cat (pv 1) (pl_lstL (t := t) (pl_cons (pl_lst (pl_cons (pl_c pe_str fun _ => .str _) pl_nil)) (pl_cons (pl_tup (pl_cons (pl_c pe_int fun _ => .int _) pl_nil)) (pl_cons (pl_tup (pl_cons (pl_c pe_int fun _ => .int _) (pl_cons (pl_c pe_int fun _ => .int _) pl_nil))) (pl_cons (pl_lst (pl_cons (pl_c pe_int fun _ => .int _) pl_nil)) (pl_cons (pl_tup (pl_cons (pl_tup (pl_cons (pl_c pe_str fun _ => .str _) pl_nil)) pl_nil)) (pl_cons pl_d1 (pl_cons (pl_tup (pl_cons (pl_c pe_str fun _ => .str _) (pl_cons (pl_c pe_str fun _ => .str _) pl_nil))) (pl_cons (pl_tup (pl_cons (pl_c pe_str fun _ => .str _) (pl_cons (pl_c pe_str fun _ => .str _) pl_nil))) (pl_cons (pl_tup (pl_cons (pl_c pe_str fun _ => .str _) (pl_cons (pl_c pe_str fun _ => .str _) pl_nil))) (pl_cons (pl_tup (pl_cons (pl_c pe_non fun _ => .non) pl_nil)) pl_nil)))))))))))))
  (pss_cons (ps_set (i := 1) sc__law_odd.nd rfl (Or.inl rfl) (pe_op op_cat (pv 1) (pl_lstL (t := t) (pl_cons (pl_tup (pl_cons (pl_c pe_str fun _ => .str _) (pl_cons (pl_tup (pl_cons (pl_c pe_str fun _ => .str _) (pl_cons (pl_c pe_str fun _ => .str _) pl_nil))) pl_nil))) (pl_cons (pl_tup (pl_cons (pl_c pe_str fun _ => .str _) (pl_cons (pl_c pe_int fun _ => .int _) pl_nil))) (pl_cons (pl_c pe_str fun _ => .str _) (pl_cons (pl_tup (pl_cons (pl_c pe_int fun _ => .int _) (pl_cons (pl_c pe_int fun _ => .int _) pl_nil))) (pl_cons (pl_tup (pl_cons (pl_c pe_str fun _ => .str _) (pl_cons (pl_c pe_bl fun _ => .bl _) pl_nil))) (pl_cons (pl_lst (pl_cons (pl_tup pl_nil) pl_nil)) (pl_cons (pl_c pe_int fun _ => .int _) (pl_cons (pl_tup (pl_cons (pl_c pe_str fun _ => .str _) (pl_cons (pl_tup pl_nil) pl_nil))) pl_nil)))))))))))
  (pss_one (ps_ret (pe_kn D__law_pick hr__law_pick (pa_cons (pv 0) (pa_cons (pe_op op_cat (pv 1) (pl_lstL (t := t) (pl_cons (pl_tup (pl_cons (pl_c pe_str fun _ => .str _) (pl_cons (pl_c pe_int fun _ => .int _) (pl_cons (pl_tup pl_nil) pl_nil)))) (pl_cons (pl_tup (pl_cons (pl_c pe_str fun _ => .str _) (pl_cons (pl_c pe_str fun _ => .str _) (pl_cons (pl_tup pl_nil) pl_nil)))) (pl_cons (pl_tup (pl_cons (pl_c pe_str fun _ => .str _) (pl_cons (pl_c pe_int fun _ => .int _) pl_nil))) (pl_cons (pl_tup (pl_cons (pl_c pe_str fun _ => .str _) pl_nil)) (pl_cons (pl_tup (pl_cons (pl_c pe_str fun _ => .str _) (pl_cons (pl_c pe_str fun _ => .str _) pl_nil))) (pl_cons pl_d0 pl_nil)))))))) pa_nil)))))))), ?_⟩
    have hT : ∀ {H' : Hp}, Tape K H' t c (b + 1) → ∃ o, H' t = some o := fun T => by
      obtain ⟨_, _, _, h, _⟩ := T
      exact ⟨_, h⟩
    refine ⟨hT T, fun H1 l1 vs1 s1 n1 g1 d1 => ?_⟩
    have T1 := T.same s1
    refine ⟨_, rfl, hT T1, fun H2 l2 vs2 s2 n2 g2 d2 => ?_⟩
    refine ⟨l1, l2, vs1, vs2, rfl, rfl, s2 _ _ g1, g2, by rw [d1.len, d2.len, sizeLine_eq]; decide, fun p hp => ?_⟩
    have s3 := same_new (o := .lst (vs1 ++ vs2)) hp
    have d12 : DaAll t (upd H2 p (.lst (vs1 ++ vs2))) (vs1 ++ vs2) (oddA ++ oddB) := (DaAll.app (d1.kp (kp_same s2)) d2).kp (kp_same s3)
    have g3 : (upd H2 p (.lst (vs1 ++ vs2))) p = some (.lst (vs1 ++ vs2)) := upd_same
    have S3 := s1.trans (s2.trans s3)
    have T3 := T.same S3
    generalize upd H2 p (.lst (vs1 ++ vs2)) = H3 at d12 g3 S3 T3 ⊢
    refine ⟨_, rfl, hT T3, fun H4 l4 vs4 s4 n4 g4 d4 => ?_⟩
    refine ⟨p, l4, _, vs4, rfl, rfl, s4 _ _ g3, g4, by rw [d12.len, d4.len, sizeLine_eq]; decide, fun p5 hp5 => ?_⟩
    have s5 := same_new (o := .lst (vs1 ++ vs2 ++ vs4)) hp5
    have d5 : DaAll t (upd H4 p5 (.lst (vs1 ++ vs2 ++ vs4))) (vs1 ++ vs2 ++ vs4) (oddA ++ oddB ++ oddC) := (DaAll.app (d12.kp (kp_same s4)) d4).kp (kp_same s5)
    have g5 : (upd H4 p5 (.lst (vs1 ++ vs2 ++ vs4))) p5 = some (.lst (vs1 ++ vs2 ++ vs4)) := upd_same
    have S5 := S3.trans (s4.trans s5)
    have T5 := T.same S5
    generalize upd H4 p5 (.lst (vs1 ++ vs2 ++ vs4)) = H5 at d5 g5 S5 T5 ⊢
    refine ⟨_, rfl, _, rfl, hT T5, fun H6 l6 vs6 s6 n6 g6 d6 => ?_⟩
    refine ⟨p5, l6, _, vs6, rfl, rfl, s6 _ _ g5, g6, by rw [d5.len, d6.len, sizeLine_eq]; decide, fun p7 hp7 => ?_⟩
    have s7 := same_new (o := .lst (vs1 ++ vs2 ++ vs4 ++ vs6)) hp7
    have d7 : DaAll t (upd H6 p7 (.lst (vs1 ++ vs2 ++ vs4 ++ vs6))) (vs1 ++ vs2 ++ vs4 ++ vs6) odds := (DaAll.app (d5.kp (kp_same s6)) d6).kp (kp_same s7)
    have g7 : (upd H6 p7 (.lst (vs1 ++ vs2 ++ vs4 ++ vs6))) p7 = some (.lst (vs1 ++ vs2 ++ vs4 ++ vs6)) := upd_same
    have S7 := S5.trans (s6.trans s7)
    have T7 := T.same S7
    generalize upd H6 p7 (.lst (vs1 ++ vs2 ++ vs4 ++ vs6)) = H7 at d7 g7 S7 T7 ⊢
    refine ⟨t, c, p7, _, b, rfl, SqL.of g7, by rw [d7.len]; decide, by rw [d7.len]; decide, T7, fun H8 v e8 T8 hv => ?_⟩
    obtain ⟨d, hd, dv⟩ := d7.mem hv
    exact k H8 v d ((same_ext S7).trans e8) T8 (dv.kp (kp_ext e8 T7)) hd
end
end L3

namespace L3
open PySem L2
theorem wok_Wok {x : Str} (h : isNameD (.str x) = true) : Wok x := by
  have h2 : wok x = true := by
    have h : (wok x && _) = true := h
    exact (Bool.and_eq_true_iff.mp h).1
  unfold wok at h2
  simp only [Bool.and_eq_true, decide_eq_true_eq] at h2
  refine ⟨h2.1.1, h2.1.2, fun c hc => ?_⟩
  have := (Array.all_eq_true'.mp h2.2) c (by simpa using hc)
  unfold lo at this
  simpa only [Bool.and_eq_true, decide_eq_true_eq] using this
def Nms (ws : List Str) : Prop := ∀ x ∈ ws, Wok x ∧ isNameD (.str x) = true
theorem words_nms {rest : Str} {first n : Nat} {d : Bool} (h1 : rest ∈ rests) (h2 : first < 26) (hn : n ≤ 5) : Nms ((lets first n).map (mkW rest d)) := by
  have key : ∀ rest ∈ rests, ∀ j < 26, ∀ d : Bool, isNameD (.str (mkW rest d (sgn j))) = true := by decide +kernel
  intro x hx
  obtain ⟨c, hc, rfl⟩ := List.mem_map.mp hx
  unfold lets at hc
  obtain ⟨k, hk, rfl⟩ := List.mem_map.mp hc
  have z := key rest h1 ((first + 7 * k) % 26) (Nat.mod_lt _ (by decide)) d
  exact ⟨wok_Wok z, z⟩
theorem vars_few {ws : List Str} {kd : Kd} {nds : List Nd} (h1 : Kd.of ws kd) (h2 : ∀ nd ∈ nds, ∀ k ∈ nd.ks, Kd.of ws k) : (Vars kd nds).length ≤ ws.length := by
  refine List.Nodup.length_le_of_subset (vars_nodup kd nds) (vsL_of (fun k hk => ?_) (fun _ q => nomatch q))
  rcases List.mem_cons.mp hk with rfl | hk
  · exact h1
  · obtain ⟨nd, hn, hk⟩ := List.mem_flatMap.mp (show k ∈ nds.flatMap (·.ks) from hk)
    exact h2 nd hn k hk
section
variable {P : Program} {w : World} {K : PySem.W.Frag} {mg : Str → Option Value} {base : Heap}
abbrev s__law_needs_drawn : Stmt := topS 65
abbrev N__law_needs_drawn : List Str := ["_law_tape", "_law_names", "_law_words_here", "_law_cons", "_law_some", "_law_k", "_law_inner", "_law_j"]
theorem sc__law_needs_drawn : FnScope N__law_needs_drawn ["_law_tape", "_law_names", "_law_words_here", "_law_cons"] (defScope s__law_needs_drawn) := ⟨rfl, rfl, rfl, by decide +kernel, rfl, by decide +kernel, by decide +kernel⟩
structure Ndr (ws : List Str) (nd : Nd) : Prop where
  ok : Nok nd
  f4 : ∀ k ∈ nd.ks, k.fit 4 ∧ Kd.of ws k
def spLKs (K : PySem.W.Frag) (m : Nat) : Sp := fun vs H Q E => ∃ n, n ≤ m ∧ spLK K n vs H Q E
theorem ok_lks {f : Addr} {fd : FuncData} (F : Fun K "_law_letter_kind" "_law_letter_kind" s__law_letter_kind f fd) (hm : mg "_law_letter_kind" = some (.ref f)) (B : Bl mg) (D1 : Kn P w K mg base 1 "_law_draw" ["_law_tape", "_law_many"] (spDraw K)) (D2 : Kn P w K mg base 2 "_law_pick" ["_law_tape", "_law_items"] (spPick K))
    (D3 : Kn P w K mg base 1 "_law_con" ["_law_name", "_law_parts"] (spCon K)) (m : Nat) : FnOk P w K mg base CX0 (m + 3) f fd ["_law_tape", "_law_names", "_law_cons", "_law_deep"] (spLKs K m) :=
  ⟨fun vs H Q E ⟨n, _, h⟩ => (ok_letter F hm B D1 D2 D3 n).len vs H Q E h, fun A outer s H args us vs Q E hr he hb hv ⟨n, hn, h⟩ => (ok_letter F hm B D1 D2 D3 n).run A outer s H args us vs Q E (hr.mono (by omega)) he hb hv h⟩
def spNeeds (K : PySem.W.Frag) : Sp := fun vs H Q _ => ∃ (t c ln lw lc : Addr) (ws wh : List Str) (b : Nat), vs = [.ref t, .ref ln, .ref lw, .ref lc] ∧ SqL K H ln (ws.map V.str) ∧ Nms ws ∧ ws.length < 1000 ∧ SqL K H lw (wh.map V.str) ∧ Nms wh ∧ wh.length = 5 ∧ ConsN K H lc ∧ Tape K H t c (b + 300) ∧
  ∀ (H' : Hp) (l : Addr) (us : List V) (nds : List Nd), Ext t H H' → Tape K H' t c b → H l = none → H' l = some (.lst us) → NdsAt H' us nds → nds.length ≤ 4 → (∀ nd ∈ nds, Ndr ws nd) → Q (.ref l) H'
theorem ok_drawn {f : Addr} {fd : FuncData} (F : Fun K "_law_needs_drawn" "_law_needs_drawn" s__law_needs_drawn f fd) (B : Bl mg) (D__law_draw : Kn P w K mg base 1 "_law_draw" ["_law_tape", "_law_many"] (spDraw K)) (L0 : Kn P w K mg base 5 "_law_letter_kind" ["_law_tape", "_law_names", "_law_cons", "_law_deep"] (spLKs K 2)) : FnOk P w K mg base CX0 6 f fd ["_law_tape", "_law_names", "_law_words_here", "_law_cons"] (spNeeds K) := by
  refine F.ok sc__law_needs_drawn (fun vs H Q E h => ?_) (fun cdv A outer s H vs Q E hr h => ?_)
  · obtain ⟨t, c, ln, lw, lc, ws, wh, b, rfl, _⟩ := h
    rfl
  obtain ⟨t, c, ln, lw, lc, ws, wh, b, rfl, h1, h2, h3, h4, h5, h6, h7, T0, k⟩ := h
  have hr__law_draw : Room 1 _ := hr.mono (by decide)
  have hr__law_letter_kind : Room 5 _ := hr
  have D__law_letter_kind := L0
  refine ⟨_, (pss_cons (ps_set (i := 4) sc__law_needs_drawn.nd rfl (Or.inl rfl) (pe_lst pa_nil))
  (pss_cons (ps_for PassesOwn.never rfl (pi_range1 (by rfl) B.range (pa_cons (pe_kn D__law_draw hr__law_draw (pa_cons (pv 0) (pa_cons pe_int pa_nil))) pa_nil)) (pg_name (i := 5) sc__law_needs_drawn.nd rfl (Or.inl rfl))
  (pss_cons (ps_setLc (i := 6) (own := [("_law_j", 7)]) rfl sc__law_needs_drawn.nd rfl rfl (sw_true rfl rfl rfl (by decide +kernel)) (pi_range1 (by rfl) B.range (pa_cons (pe_op op_add pe_int (pe_kn D__law_draw hr__law_draw (pa_cons (pv 0) (pa_cons pe_int pa_nil)))) pa_nil)) (blkOk_by (N := N__law_needs_drawn) (sc := (defScope s__law_needs_drawn)) (own := [("_law_j", 7)]) (by decide +kernel)) (fun _ _ _ _ _ => (pg_name (i := 7) sc__law_needs_drawn.nd rfl (Or.inl rfl))) (fun _ _ _ _ _ => pts_nil) (fun _ _ _ _ _ => (pe_kn D__law_letter_kind hr__law_letter_kind (pa_cons (pv 0) (pa_cons (pv 1) (pa_cons (pv 3) (pa_cons (pe_kn D__law_draw hr__law_draw (pa_cons (pv 0) (pa_cons pe_int pa_nil))) pa_nil)))))))
  (pss_one (ps_expr (pe_bm PySem.F.plainAttrs_list PySem.F.slot_list_append PySem.F.type_list_append mt_append (pv 4) (pa_cons (pe_op op_catT (pe_tup (pa_cons (pe_ix ix_list (pv 2) (pe_op op_add pe_int (pe_kn D__law_draw hr__law_draw (pa_cons (pv 0) (pa_cons pe_int pa_nil)))) (fun _ _ => rfl)) pa_nil)) (pe_callTy call_tuple_of (by rfl) B.tuple (by decide +kernel) (pa_cons (pv 6) pa_nil))) pa_nil))))))
  (pss_one (ps_ret (pv 4))))), ?_⟩
  refine ⟨slz rfl, fun D hD => ?_⟩
  have E0' : Ext t H (upd H D (.lst [])) := Ext.new hD
  have T1 := T0.new (o := .lst []) hD
  have nD : D ≠ t := T0.ne hD
  have gD : (upd H D (.lst [])) D = some (.lst []) := upd_same
  generalize upd H D (.lst []) = H1 at E0' T1 gD ⊢
  refine ⟨_, rfl, t, c, 5, b + 299, rfl, by decide, by decide, T1.less (by omega), fun H2 r2 E2 T2 hr21 hr22 => ?_⟩
  obtain ⟨m, rfl⟩ : ∃ m : Nat, r2 = (m : Int) := ⟨r2.toNat, (Int.toNat_of_nonneg hr21).symm⟩
  have hm5 : m < 5 := by omega
  have E12 := E0'.trans E2
  have gD2 := E2 _ _ nD gD
  refine ⟨_, rfl, by omega, by omega, ?_⟩
  refine for_range (lo := 0) (n := m) (fun i σ H' => Ext t H H' ∧ Tape K H' t c (b + (m - i) * 60) ∧ (∃ (v5 v6 : Option V), σ = [some (.ref t), some (.ref ln), some (.ref lw), some (.ref lc), some (.ref D), v5, v6, none]) ∧ ∃ us nds, H' D = some (.lst us) ∧ NdsAt H' us nds ∧ nds.length = i ∧ ∀ nd ∈ nds, Ndr ws nd) ⟨E12, T2.less (by omega), ⟨_, _, rfl⟩, [], [], gD2, .nil, rfl, fun _ q => nomatch q⟩ (fun i σ H3 hi h => ?_) (fun σ H3 h => ?_)
  · obtain ⟨E3, T3, ⟨v5, v6, rfl⟩, us, nds, gD3, n3, l3, ok3⟩ := h
    obtain ⟨B3, hB3⟩ : ∃ B3, B3 = b + (m - (i + 1)) * 60 := ⟨_, rfl⟩
    have T3 : Tape K H3 t c (B3 + 60) := by
      have e : (m - i) * 60 = (m - (i + 1)) * 60 + 60 := by rw [show m - i = (m - (i + 1)) + 1 by omega, Nat.succ_mul]
      rw [hB3]
      exact T3.less (by omega)
    refine ⟨_, rfl, t, c, 2, B3 + 59, rfl, by decide, by decide, T3.less (by omega), fun H4 r4 E4 T4 r41 r42 => ⟨_, _, rfl, rfl, ?_⟩⟩
    obtain ⟨n, eN, hN⟩ : ∃ n : Nat, (1 : Int) + r4 = (n : Int) ∧ 1 ≤ n ∧ n ≤ 2 := ⟨(1 + r4).toNat, by omega, by omega, by omega⟩
    refine ⟨(n : Int), ?_, by omega, by omega, fun D2 hD2 => ?_⟩
    · show [V.int (1 + r4)] = _
      rw [eN]
    have nD2 : D2 ≠ t := T4.ne hD2
    refine lc_range (lo := 0) (n := n) (fun j H' => Ext t H4 H' ∧ Tape K H' t c (B3 + 2 + (n - j) * 28) ∧ ∃ (vs : List V) (ks : List Kd), H' D2 = some (.lst vs) ∧ KdsAt H' vs ks ∧ vs.length = j ∧ ∀ k ∈ ks, k.fit 4 ∧ Kd.of ws k ∧ k.nmd)
      ⟨Ext.new hD2, (T4.new hD2).less (by omega), [], [], upd_same, .nil, rfl, fun _ q => nomatch q⟩ (fun j H' hj ⟨e1, t1, vs, ks, g1, g2, g3, g4⟩ => ⟨rfl, ?_⟩) (fun H5 ⟨e5, t5, vs, ks, g51, g52, g53, g54⟩ => ?_)
    · have em : (n - j) * 28 = (n - (j + 1)) * 28 + 28 := by rw [show n - j = (n - (j + 1)) + 1 by omega, Nat.succ_mul]
      refine ⟨_, rfl, _, rfl, _, rfl, _, rfl, t, c, 3, B3 + 2 + (n - (j + 1)) * 28 + 27, rfl, by decide, by decide, t1.less (by omega), fun H6 r6 e6 t6 r61 r62 => ?_⟩
      obtain ⟨q, rfl⟩ : ∃ q : Nat, r6 = (q : Int) := ⟨r6.toNat, (Int.toNat_of_nonneg r61).symm⟩
      have cq : cost q ≤ 27 := by
        have : q < 3 := by omega
        match q, this with
        | 0, _ => decide
        | 1, _ => decide
        | 2, _ => decide
      have EE := (E3.trans E4).trans (e1.trans e6)
      refine ⟨q, by omega, t, c, ln, lc, ws, B3 + 2 + (n - (j + 1)) * 28, rfl, SqL.extT h1 T0 EE, h2, h3, h7.ext T0 EE, t6.less (by omega), fun H7 v k7 e7 t7 f1 f2 f3 f4 => ?_⟩
      have gD6 := e7 _ _ nD2 (e6 _ _ nD2 g1)
      refine ⟨vs, gD6, small1000 (by omega), (e1.trans (e6.trans e7)).upd hD2, Tape.put T4 (e1.trans (e6.trans e7)) t7 hD2, vs ++ [v], ks ++ [k7], upd_same, ?_, by rw [List.length_append, g3]; rfl, ?_⟩
      · have tu : Tups H7 (upd H7 D2 (.lst (vs ++ [v]))) := Tups.put gD6 (by intro xs z; cases z)
        exact Paired.snoc (KdsAt.tups ((Ext.tups e6 t1).trans ((Ext.tups e7 t6).trans tu)) g2) (KdAt.tups tu f1)
      · intro k hk
        rcases List.mem_append.mp hk with q' | q'
        · exact g4 k q'
        · rw [List.mem_singleton.mp q']
          exact ⟨Kd.fit_mono (by omega) f2, f3, f4⟩
    · have E35 := (E3.trans E4).trans e5
      have lks : ks.length = n := by rw [← Paired.length g52, g53]
      have gD5 := e5 _ _ nD (E4 _ _ nD gD3)
      have n5 : NdsAt H5 us nds := NdsAt.tups ((Ext.tups E4 T3).trans (Ext.tups e5 T4)) n3
      refine ⟨_, rfl, .inl ⟨rfl, _, SqL.of gD5⟩, _, rfl, _, rfl, t, c, 2, B3 + 1, rfl, by decide, by decide, t5.less (by omega), fun H6 r6 e6 t6 r61 r62 => ⟨_, _, rfl, rfl, ?_⟩⟩
      have E36 := E35.trans e6
      obtain ⟨nm, hnm⟩ : ∃ nm, wh[(3 + r6).toNat]? = some nm := ⟨_, List.getElem?_eq_getElem (by omega)⟩
      refine ⟨lw, _, 3 + r6, _, rfl, rfl, SqL.extT h4 T0 E36, at_ofG (j := (3 + r6).toNat) (by omega) (by rw [List.getElem?_map, hnm]; rfl), slz rfl, fun q hq => ?_⟩
      have e7 := e6.trans (Ext.new (o := .tup [.str nm]) hq)
      have t7 := t6.new (o := .tup [.str nm]) hq
      have gq : (upd H6 q (.tup [.str nm])) q = some (.tup [.str nm]) := upd_same
      generalize upd H6 q (.tup [.str nm]) = H7 at e7 t7 gq ⊢
      have g7 := e7 _ _ nD2 g51
      refine ⟨_, rfl, D2, vs, rfl, .inl ⟨SqL.of g7, fun l hl => ?_⟩⟩
      have e8 := e7.trans (Ext.new (o := .tup vs) hl)
      have t8 := t7.new (o := .tup vs) hl
      have gq8 := Ext.new (t := t) (o := .tup vs) hl _ _ (fun z => by rw [z] at gq; obtain ⟨kvs, hd⟩ := t7.dict; rw [gq] at hd; cases hd) gq
      have gl8 : (upd H7 l (.tup vs)) l = some (.tup vs) := upd_same
      generalize upd H7 l (.tup vs) = H8 at e8 t8 gq8 gl8 ⊢
      refine ⟨q, l, _, _, rfl, rfl, SqT.of gq8, SqT.of gl8, by simp, by rw [sizeLine_eq]; show 1 + vs.length ≤ _; omega, fun z => ?_, fun _ r hr2 => ?_⟩
      · rw [z] at g53
        simp at g53
        omega
      have e9 := e8.trans (Ext.new (o := .tup ([.str nm] ++ vs)) hr2)
      have t9 := t8.new (o := .tup ([.str nm] ++ vs)) hr2
      have gr9 : (upd H8 r (.tup ([.str nm] ++ vs))) r = some (.tup ([.str nm] ++ vs)) := upd_same
      generalize upd H8 r (.tup ([.str nm] ++ vs)) = H9 at e9 t9 gr9 ⊢
      have gD9 := e9 _ _ nD gD5
      have lus : us.length = nds.length := Paired.length n3
      refine ⟨D, _, _, rfl, rfl, gD9, szl (by omega), ?_⟩
      have tp : Tups H9 (upd H9 D (.lst (us ++ [.ref r]))) := Tups.put gD9 nofun
      have E9 := E35.trans e9
      refine ⟨E9.upd hD, (Tape.put T0 E9 t9 hD).less (by rw [← hB3]; omega), ⟨_, _, rfl⟩, us ++ [.ref r], nds ++ [⟨nm, ks⟩], upd_same, ?_, by rw [List.length_append, l3]; rfl, fun nd h => ?_⟩
      · exact Paired.snoc (NdsAt.tups ((Ext.tups e9 t5).trans tp) n5) ⟨r, vs, rfl, tp _ _ gr9, KdsAt.tups ((Ext.tups e9 t5).trans tp) g52⟩
      · rcases List.mem_append.mp h with h | h
        · exact ok3 nd h
        · rw [List.mem_singleton.mp h]
          exact ⟨⟨h5 nm (List.mem_of_getElem? hnm), by rw [show (Nd.mk nm ks).ks = ks from rfl, lks]; exact hN.1, by rw [show (Nd.mk nm ks).ks = ks from rfl, lks]; exact hN.2, fun k hk => ⟨Kd.fit_mono (by decide) (g54 k hk).1, (g54 k hk).2.2⟩⟩, fun k hk => ⟨(g54 k hk).1, (g54 k hk).2.1⟩⟩
  · obtain ⟨E3, T3, ⟨v5, v6, rfl⟩, us, nds, gD3, n3, l3, ok3⟩ := h
    refine ⟨_, rfl, ?_⟩
    exact k _ D us nds E3 (T3.less (by omega)) hD gD3 n3 (by omega) ok3
end
end L3

/-! defs that are called where nothing is being shown: they may ask repr -/
namespace L3
open PySem PySem.Spec PyProof.Rows L2
def FnG (P : Program) (w : World) (K : PySem.W.Frag) (mg : Str → Option Value) (base : Heap) (k : Nat) (f : Addr) (sp : Sp) : Prop :=
  ∀ (A : Around) (outer : List Env) (s : Shared) (H : Hp) (us : List Value) (vs : List V) (Q : VK), Room k A → A.guards = some [] → Env0 P w K mg base A outer s H → Vals vs us → sp vs H Q E0 →
    codeAny (model P w) A (.call (.ref f) ⟨us, []⟩) (CR CX0 outer P w H s Q E0) s
structure KnG (P : Program) (w : World) (K : PySem.W.Frag) (mg : Str → Option Value) (base : Heap) (k : Nat) (x : Str) (sp : Sp) : Prop where
  ex : ∃ (f : Addr), FnG P w K mg base k f sp ∧ mg x = some (.ref f) ∧ PySem.W.keepIn K (.ref f) = true
section
variable {X : Cx} {x : Str} {k : Nat} {sp : Sp} {e : Expr} {es : List Expr} {t : TA} {p pos : Pos}
def tCallG (sp : Sp) (t : TA) : TE := fun σ H Q => t σ H fun vs H1 => sp vs H1 Q E0
theorem pe_kg (D : KnG X.prog X.w X.K X.mg X.base k x sp) (hr : Room k X.A) (h0 : X.A.guards = some []) (ha : PA X (e :: es) t) (hg : Gl X x := by rfl) (hdb : (x == ("__debug__" : Str)) = false := by decide)
    (he : starEach (e :: es) X.env = (false, eval e X.env) :: starEach es X.env := by rfl) (hpl : (backTo pos (starEach es X.env)).any (·.1) = false := by rfl) :
    PE X (.Call (.Name x p) (e :: es) [] pos) (tCallG sp t) := by
  obtain ⟨f, F, hm, hk⟩ := D.ex
  refine ⟨fun pins s σ H Q I h => ?_⟩
  refine wpAny_Call_Name_kw (ld_glob I hg hm ?_ hdb)
  refine PySem.W.callWith_K (h₀ := X.base) I.ok.mod.kin hk (thn (ha.run pos pins s σ H _ I h) fun us s1 ⟨vs, H1, I1, r, q⟩ => ⟨I1.kIn, ?_⟩) he hpl
  refine wpAny_call (codeAny_mono (F X.A X.stack s1 H1 us vs Q hr h0 I1.env0 r q) fun r' s' hq => ?_)
  cases r' with
  | error e => exact pass0 pins σ H1 s1 e s' I1 hq
  | ok fl =>
    cases fl with
    | ret u => exact I1.after hq
    | next => exact hq.elim
    | brk => exact hq.elim
    | cont => exact hq.elim
end
section
variable {P : Program} {w : World} {K : PySem.W.Frag} {mg : Str → Option Value} {base : Heap}
theorem fnG_of {qual : Str} {st : Stmt} {f : Addr} {fd : FuncData} {N ps : List Str} {k : Nat} {sp : Sp} (F : Fun K qual qual st f fd) (S : FnScope N ps (defScope st)) (len : ∀ vs H Q E, sp vs H Q E → vs.length = ps.length) (hb : Binds K fd ps [])
    (hbody : ∀ (cdv : Value) (A : Around) (outer : List Env) (s : Shared) (H : Hp) (vs : List V) (Q : VK), Room k (A.deeper (envOfC qual (defScope st) s.heap.objs.size f cdv)) → A.guards = some [] → sp vs H Q E0 →
      ∃ t, PSs (cxOf CX0 P w K mg base N qual (defScope st) f cdv A outer s H E0).nox (defBody st) t ∧ t { nx := fun _ H' => Q .non H', rt := Q } (start N vs) H) : FnG P w K mg base (k + 1) f sp := by
  obtain ⟨oc, od, kV, doc, pm, an, cdv, ct, osl, rfl, lk, hcd⟩ := F.ex
  intro A outer s H us vs Q hr h0 e0 rv hsp
  have inK : K.In s.heap := e0.mod.kin.keeps fun b o z => (e0.bs b o z).1
  have noL : s.heap.NoLimit := e0.mod.nolimit.keeps fun b o z => (e0.bs b o z).1
  have hl := len _ _ _ _ hsp
  have kinds : ∀ y ∈ (ps.zip us : List (Str × Value)), (defScope st).names.lookup y.1 = some .local ∨ ((defScope st).names.lookup y.1 = some .cell ∧ ((cellsFrom (s.heap.objs.size + 1) (defScope st).names []).lookup y.1).isSome = true) := by
    rintro ⟨n, z⟩ hy
    rcases S.par n (List.of_mem_zip hy).1 with q | q
    · exact Or.inl q
    · exact Or.inr ⟨q, PySem.W.cellsFrom_some _ _ _ (Or.inl q)⟩
  have bd : BindsTo s (PySem.W.fnOf qual qual (defArgs st) (defBody st) (defScope st) .none kV doc pm an cdv ct) ⟨us, []⟩ (ps.zip (us ++ [])) := hb s us inK (by rw [List.append_nil, ← rv.length]; exact hl)
  rw [List.append_nil] at bd
  refine codeAny_call_function hr.depth (inK _ _ lk) rfl S.co S.gen rfl (PySem.W.codeRec_of inK hcd) (bd _ _ _ _ ?_)
  refine wpAny_newFunctionEnv_cells S.kind kinds fun env he s1 xx => ?_
  subst he
  refine ⟨noL.keeps xx.toInCall.keep, codeAny_func ?_⟩
  obtain ⟨t, ht, hq⟩ := hbody cdv A outer s H vs Q (hr.deeper _) h0 hsp
  have J : Inv (cxOf CX0 P w K mg base N qual (defScope st) f cdv A outer s H E0) [] (start N vs) H s1 := inv_start S hr.hd e0 hl rv xx
  refine wpAny_mono ((PSs.nox ht).run [] s1 (start N vs) H _ J hq) (fun fl s' hs => ?_) (fun e s' hs => hs)
  cases fl with
  | next =>
    obtain ⟨σ', H', J', q⟩ := hs
    exact ⟨V.non, H', J'.os, J'.bare, J'.base, J'.hok, rfl, q⟩
  | ret z =>
    obtain ⟨v', σ', H', J', rz, q⟩ := hs
    exact ⟨v', H', J'.os, J'.bare, J'.base, J'.hok, rz, q⟩
  | brk =>
    obtain ⟨_, _, _, q⟩ := hs
    exact q.elim
  | cont =>
    obtain ⟨_, _, _, q⟩ := hs
    exact q.elim
theorem grd_deep {A : Around} {env : Env} (h : A.guards = some []) : (A.deeper env).guards = some [] := h
end
end L3

/-! defs that are called where nothing is being shown, and whose code object is known -/
namespace L3
open PySem PySem.Spec PyProof.Rows L2
section
variable {P : Program} {w : World} {K : PySem.W.Frag} {mg : Str → Option Value} {base : Heap}
theorem fnG_code {cD : Addr} {qual : Str} {st : Stmt} {f : Addr} {fd : FuncData} {N ps : List Str} {k : Nat} {sp : Sp} (F : Fun K qual qual st f fd) (hco : fd.code = .ref cD) (S : FnScope N ps (defScope st)) (len : ∀ vs H Q E, sp vs H Q E → vs.length = ps.length) (hb : Binds K fd ps [])
    (hbody : ∀ (A : Around) (outer : List Env) (s : Shared) (H : Hp) (vs : List V) (Q : VK), Room k (A.deeper (envOfC qual (defScope st) s.heap.objs.size f (.ref cD))) → A.guards = some [] → sp vs H Q E0 →
      ∃ t, PSs (cxOf CX0 P w K mg base N qual (defScope st) f (.ref cD) A outer s H E0).nox (defBody st) t ∧ t { nx := fun _ H' => Q .non H', rt := Q } (start N vs) H) : FnG P w K mg base (k + 1) f sp := by
  obtain ⟨oc, od, kV, doc, pm, an, cdv, ct, osl, rfl, lk, hcd⟩ := F.ex
  have ec : cdv = .ref cD := hco
  subst ec
  intro A outer s H us vs Q hr h0 e0 rv hsp
  have inK : K.In s.heap := e0.mod.kin.keeps fun b o z => (e0.bs b o z).1
  have noL : s.heap.NoLimit := e0.mod.nolimit.keeps fun b o z => (e0.bs b o z).1
  have hl := len _ _ _ _ hsp
  have kinds : ∀ y ∈ (ps.zip us : List (Str × Value)), (defScope st).names.lookup y.1 = some .local ∨ ((defScope st).names.lookup y.1 = some .cell ∧ ((cellsFrom (s.heap.objs.size + 1) (defScope st).names []).lookup y.1).isSome = true) := by
    rintro ⟨n, z⟩ hy
    rcases S.par n (List.of_mem_zip hy).1 with q | q
    · exact Or.inl q
    · exact Or.inr ⟨q, PySem.W.cellsFrom_some _ _ _ (Or.inl q)⟩
  have bd : BindsTo s (PySem.W.fnOf qual qual (defArgs st) (defBody st) (defScope st) .none kV doc pm an (.ref cD) ct) ⟨us, []⟩ (ps.zip (us ++ [])) := hb s us inK (by rw [List.append_nil, ← rv.length]; exact hl)
  rw [List.append_nil] at bd
  refine codeAny_call_function hr.depth (inK _ _ lk) rfl S.co S.gen rfl (PySem.W.codeRec_of inK hcd) (bd _ _ _ _ ?_)
  refine wpAny_newFunctionEnv_cells S.kind kinds fun env he s1 xx => ?_
  subst he
  refine ⟨noL.keeps xx.toInCall.keep, codeAny_func ?_⟩
  obtain ⟨t, ht, hq⟩ := hbody A outer s H vs Q (hr.deeper _) h0 hsp
  have J : Inv (cxOf CX0 P w K mg base N qual (defScope st) f (.ref cD) A outer s H E0) [] (start N vs) H s1 := inv_start S hr.hd e0 hl rv xx
  refine wpAny_mono ((PSs.nox ht).run [] s1 (start N vs) H _ J hq) (fun fl s' hs => ?_) (fun e s' hs => hs)
  cases fl with
  | next =>
    obtain ⟨σ', H', J', q⟩ := hs
    exact ⟨V.non, H', J'.os, J'.bare, J'.base, J'.hok, rfl, q⟩
  | ret z =>
    obtain ⟨v', σ', H', J', rz, q⟩ := hs
    exact ⟨v', H', J'.os, J'.bare, J'.base, J'.hok, rz, q⟩
  | brk =>
    obtain ⟨_, _, _, q⟩ := hs
    exact q.elim
  | cont =>
    obtain ⟨_, _, _, q⟩ := hs
    exact q.elim
end
end L3

namespace L3
open PySem L2 StX LamX
theorem shw_small : ∀ j : Nat, j ≤ 4 → Shw (.int (j : Int)) ∧ PyData.strOk (PyData.int (j : Int)).shown = true := by
  intro j hj
  have : j = 0 ∨ j = 1 ∨ j = 2 ∨ j = 3 ∨ j = 4 := by omega
  rcases this with rfl | rfl | rfl | rfl | rfl <;> exact ⟨⟨by decide +kernel, by decide +kernel, by rw [sizeLine_eq]; exact Nat.le_trans (show _ ≤ 10 by decide +kernel) (by omega), fun i e => by cases e; decide⟩, by decide +kernel⟩
def dueD (f : Str) (x : Str) : PyData := .list [.str f, .str x, .bool true]
theorem due_shape {f : Str} {x : Str} (h1 : PyData.strOk f = true) (h2 : PyData.strOk x = true) : SeqAt.shaped (dueD f x) = true := by
  simp [dueD, SeqAt.shaped, PyData.canLay0, PyData.canLayAll0, PyData.depth, PyData.depthAll]
  exact ⟨h1, h2⟩
theorem due_eqv (f : Str) (x : Str) : PyData.eqv (dueD f x) (dueD f x) = true := by
  simp [dueD, PyData.eqv, PyData.eqvAll]
def toldD (kd : Kd) (nds : List Nd) : PyData := .list [.str "told", .tuple [kd.dat, .tuple (nds.map Nd.dat)]]
theorem lay_kds : ∀ {ks : List Kd}, (∀ k ∈ ks, k.fit 40) → PyData.canLayAll0 (ks.map Kd.dat) = true ∧ PyData.depthAll (ks.map Kd.dat) ≤ 41
  | [], _ => ⟨by simp [PyData.canLayAll0], by simp [PyData.depthAll]⟩
  | k :: r, h => by
    obtain ⟨h1, h2⟩ := lay_kds (ks := r) fun y hy => h y (List.mem_cons_of_mem _ hy)
    obtain ⟨a, b⟩ := Kd.lay (h k List.mem_cons_self)
    refine ⟨?_, ?_⟩
    · simp only [List.map_cons, PyData.canLayAll0, a, h1, Bool.and_true]
    · simp only [List.map_cons, PyData.depthAll]
      omega
def Nfit (nd : Nd) : Prop := Wok nd.nm ∧ ∀ k ∈ nd.ks, k.fit 40
theorem lay_nds : ∀ {nds : List Nd}, (∀ nd ∈ nds, Nfit nd) → PyData.canLayAll0 (nds.map Nd.dat) = true ∧ PyData.depthAll (nds.map Nd.dat) ≤ 42
  | [], _ => ⟨by simp [PyData.canLayAll0], by simp [PyData.depthAll]⟩
  | n :: r, h => by
    obtain ⟨h1, h2⟩ := lay_nds (nds := r) fun y hy => h y (List.mem_cons_of_mem _ hy)
    obtain ⟨a, b⟩ := lay_kds (h n List.mem_cons_self).2
    have s := (h n List.mem_cons_self).1.str
    refine ⟨?_, ?_⟩
    · simp only [List.map_cons, PyData.canLayAll0, Nd.dat, PyData.canLay0, a, h1, s, Bool.and_true]
    · simp only [List.map_cons, PyData.depthAll, Nd.dat, PyData.depth]
      omega
theorem two_shape {kd : Kd} {nds : List Nd} (h1 : kd.fit 40) (h2 : ∀ nd ∈ nds, Nfit nd) : (PyData.tuple [kd.dat, .tuple (nds.map Nd.dat)]).canLay0 = true ∧ (PyData.tuple [kd.dat, .tuple (nds.map Nd.dat)]).depth ≤ 45 := by
  obtain ⟨a, b⟩ := Kd.lay h1
  obtain ⟨c, d⟩ := lay_nds h2
  refine ⟨?_, ?_⟩
  · simp only [PyData.canLay0, PyData.canLayAll0, a, c, Bool.and_true]
  · simp only [PyData.depth, PyData.depthAll]
    omega
theorem told_shape {kd : Kd} {nds : List Nd} (h1 : kd.fit 40) (h2 : ∀ nd ∈ nds, Nfit nd) : SeqAt.shaped (toldD kd nds) = true := by
  obtain ⟨a, b⟩ := two_shape h1 h2
  unfold SeqAt.shaped toldD
  generalize PyData.tuple [kd.dat, .tuple (nds.map Nd.dat)] = d at a b ⊢
  rw [Bool.and_eq_true]
  refine ⟨?_, decide_eq_true ?_⟩
  · simp only [PyData.canLay0, PyData.canLayAll0, a, Bool.and_true]
    decide +kernel
  · simp only [PyData.depth, PyData.depthAll]
    omega
theorem tups_extN {H H' : Hp} (e : ExtN H H') : Tups H H' := fun b xs g => e b _ g fun ps z => by cases z
theorem SchAt.extN {C : Addr} {H H' : Hp} {x : Addr} {v : V} {p : Addr} {us : List V} {kd : Kd} {nds : List Nd} (h : SchAt C H x v p us kd nds) (e : ExtN H H') : SchAt C H' x v p us kd nds := by
  obtain ⟨dx, fs, r, g, f, gr⟩ := h.ex
  have tp := tups_extN e
  exact ⟨⟨dx, fs, r, e _ _ g (fun ps z => by cases z), f, tp _ _ gr⟩, tp _ _ h.needs, h.kd.tups tp, NdsAt.tups tp h.nds⟩
theorem eqv_kds : ∀ (ks : List Kd), PyData.eqvAll (ks.map Kd.dat) (ks.map Kd.dat) = true
  | [] => eqv_nn
  | k :: r => by rw [List.map_cons, eqv_cc, Kd.eqv, eqv_kds r]; simp
theorem eqv_nds : ∀ (nds : List Nd), PyData.eqvAll (nds.map Nd.dat) (nds.map Nd.dat) = true
  | [] => eqv_nn
  | n :: r => by
    have e : PyData.eqv n.dat n.dat = true := by
      unfold Nd.dat
      rw [eqv_tt, eqv_cc, eqv_ss, eqv_kds]
      simp
    rw [List.map_cons, eqv_cc, e, eqv_nds r]
    rfl
theorem two_eqv (kd : Kd) (nds : List Nd) : PyData.eqv (.tuple [kd.dat, .tuple (nds.map Nd.dat)]) (.tuple [kd.dat, .tuple (nds.map Nd.dat)]) = true := by
  rw [eqv_tt, eqv_cc, eqv_cc, eqv_nn, eqv_tt, Kd.eqv, eqv_nds]
  simp
theorem told_eqv (kd : Kd) (nds : List Nd) : PyData.eqv (toldD kd nds) (toldD kd nds) = true := by
  unfold toldD
  rw [eqv_ll, eqv_cc, eqv_cc, eqv_nn, two_eqv, eqv_ss]
  simp
theorem NdAt.dp {K : PySem.W.Frag} {H : Hp} {v : V} {n : Nd} (h : NdAt H v n) : Dp K H v n.dat := by
  obtain ⟨a, vs, rfl, e2, e3⟩ := h
  exact .tup (SqT.of e2) (.cons (.str _) (KdsAt.dp e3))
theorem NdsAt.dp {K : PySem.W.Frag} {H : Hp} : ∀ {us : List V} {nds : List Nd}, NdsAt H us nds → DpAll K H us (nds.map Nd.dat)
  | [], _, .nil => .nil
  | _ :: _, _ :: _, .cons a b => .cons a.dp (NdsAt.dp b)
theorem two_dp {K : PySem.W.Frag} {H : Hp} {v : V} {r p : Addr} {us : List V} {kd : Kd} {nds : List Nd} (h1 : H r = some (.tup [v, .ref p])) (h2 : H p = some (.tup us)) (h3 : KdAt H v kd) (h4 : NdsAt H us nds) : Dp K H (.ref r) (.tuple [kd.dat, .tuple (nds.map Nd.dat)]) :=
  .tup (SqT.of h1) (.cons h3.dp (.cons (.tup (SqT.of h2) (NdsAt.dp h4)) .nil))
theorem told_dp {K : PySem.W.Frag} {H : Hp} {v : V} {l r p : Addr} {us : List V} {kd : Kd} {nds : List Nd} (h0 : H l = some (.lst [.str "told", .ref r])) (h1 : H r = some (.tup [v, .ref p])) (h2 : H p = some (.tup us)) (h3 : KdAt H v kd) (h4 : NdsAt H us nds) : Dp K H (.ref l) (toldD kd nds) :=
  .lst (SqL.of h0) (.cons (.str _) (.cons (two_dp h1 h2 h3 h4) .nil))
theorem Nok.nfit {nd : Nd} (h : Nok nd) : Nfit nd := ⟨h.nm.1, fun k hk => Kd.fit_mono (by decide) (h.ks k hk).1⟩
section
variable {P : Program} {w : World} {K : PySem.W.Frag} {mg : Str → Option Value} {base : Heap} {C CK CN CC fI : Addr}
abbrev s__law_is_put_right : Stmt := topS 66
abbrev N__law_is_put_right : List Str := ["_law_made", "_law_head", "_law_some", "_law_rest", "_law_due", "_law_table", "_law_need"]
theorem sc__law_is_put_right : FnScope N__law_is_put_right ["_law_made", "_law_head", "_law_some", "_law_rest"] (defScope s__law_is_put_right) := ⟨rfl, rfl, rfl, by decide +kernel, rfl, by decide +kernel, by decide +kernel⟩
def spPutR (C : Addr) (T : List (Addr × Str)) : Sp := fun vs H Q _ => ∃ (x p ls lr : Addr) (v v0 : V) (us us0 kus : List V) (kd : Kd) (nds : List Nd) (ks : List Kd), vs = [.ref x, v0, .ref ls, .ref lr] ∧ SchAt C H x v p us kd nds ∧ kd.fit 8 ∧ (∀ nd ∈ nds, Nok nd) ∧ nds.length ≤ 90 ∧ KdAt H v0 kd ∧ H ls = some (.lst us0) ∧ NdsAt H us0 nds ∧
  H lr = some (.lst kus) ∧ KdsAt H kus ks ∧ (∀ k ∈ ks, k.fit 8) ∧ kus.length ≤ 4 ∧ Tabs T H ∧ ∀ H', ExtN H H' → Tabs T H' → Q (.bl true) H'
theorem ok_putr {f g cD Pt : Addr} {fd fdm : FuncData} {T : List (Addr × Str)} (F : Fun K "_law_is_put_right" "_law_is_put_right" s__law_is_put_right f fd) (hco : fd.code = .ref cD) (TB : TabB base mg cD Pt) (hb : Binds K fd ["_law_made", "_law_head", "_law_some", "_law_rest"] [])
    (hmT : (Pt, ("_law_is_put_right" : Str) ++ ".<locals>." ++ ("<lambda>" : Str)) ∈ T) (huT : ∀ p ∈ T, p.1 = Pt → p.2 = ("_law_is_put_right" : Str) ++ ".<locals>." ++ ("<lambda>" : Str))
    (B : Bl mg) (B9 : Bl9 mg) (hVE : mg "ValueError" = none) (SC : ScK K mg C fI) (hK : E1 P w K mg base "InvalidKind" "value" mroV "ValueError.__new__" CK) (hN : E1 P w K mg base "InvalidNeed" "value" mroV "ValueError.__new__" CN) (hC : E1 P w K mg base "InvalidCount" "number" mroV "ValueError.__new__" CC) (nKN : CN ≠ CK) (nKC : CC ≠ CK) (nNC : CC ≠ CN)
    (FM : Fun K "_law_refused" "_law_refused" s__law_refused g fdm) (hmm : mg "_law_refused" = some (.ref g)) (hbm : L2.Binds K fdm ["_law_call"] [])
    (D__law_put : Kn P w K mg base 9 "_law_put" ["_law_kind", "_law_by"] (spPut K 8)) (D__law_with : Kn P w K mg base 10 "_law_with" ["_law_need", "_law_by"] (spWith 8)) (D__law_put_at : KnX P w K mg base 13 "_law_put_at" ["_law_made", "_law_rest"] (spPutAt C CC)) : FnG P w K mg base 17 f (spPutR C T) := by
  obtain ⟨oc, od, kV, doc, pm, an, cdm, ct, osl, rfl, lkm, hcm⟩ := FM.ex
  have hkm := FM.kp
  refine fnG_code (k := 16) F hco sc__law_is_put_right (fun vs H Q E h => ?_) hb (fun A outer s H vs Q hr h0 h => ?_)
  · obtain ⟨x, p, ls, lr, v, v0, us, us0, kus, kd, nds, ks, rfl, _⟩ := h
    rfl
  obtain ⟨x, p, ls, lr, v, v0, us, us0, kus, kd, nds, ks, rfl, hs, hk, hn, hl, hv0, gls, hus0, glr, hks, fks, h4, tb, k⟩ := h
  have hgd : (A.deeper (PyProof.Rows.envOfC "_law_is_put_right" (defScope s__law_is_put_right) s.heap.objs.size f (.ref cD))).guards = some [] := grd_deep h0
  have hr__law_put : Room 9 _ := hr.mono (by decide)
  have hr__law_with : Room 10 _ := hr.mono (by decide)
  have hr_lam : Room 15 _ := hr.mono (by decide)
  have hu64 := hr.units
  have huA : ∀ env, ((A.deeper (PyProof.Rows.envOfC "_law_is_put_right" (defScope s__law_is_put_right) s.heap.objs.size f (.ref cD))).deeper env).units + 64 < cLine := fun env => (Room.deeper (hr.mono (show 15 + 1 ≤ 16 by decide)) env).units
  have hcode : (cxOf CX0 P w K mg base N__law_is_put_right "_law_is_put_right" (defScope s__law_is_put_right) f (.ref cD) A outer s H E0).nox.env.code = .ref cD := rfl
  obtain ⟨dx, fs, r, gx, f', gr⟩ := hs.ex
  obtain ⟨shw, shk⟩ := shw_small kus.length h4
  refine ⟨_, (pss_cons (ps_set (i := 4) sc__law_is_put_right.nd rfl (Or.inl rfl) (pe_lst (pa_cons pe_str (pa_cons (pe_callB (call_reprAny hgd hu64) (by rfl) B.repr (by decide +kernel) (pa_cons (pe_callB call_len (by rfl) B.len PySem.boot_len (pa_cons (pv 3) pa_nil)) pa_nil)) (pa_cons pe_bl pa_nil)))))
  (pss_cons (ps_if (pt_cmpR op_eq (pe_callB call_len (by rfl) B.len PySem.boot_len (pa_cons (pv 3) pa_nil)) (pe_callB call_len (by rfl) B.len PySem.boot_len (pa_cons (L2.pe_fld (pv 0) rfl) pa_nil)) (nomark _))
  (pss_cons (ps_set (i := 5) sc__law_is_put_right.nd rfl (Or.inr rfl) (pe_dictZip (by rfl) B.dict (by rfl) B.zip rfl (pa_cons (L2.pe_fld (pv 0) rfl) (pa_cons (pv 3) pa_nil))))
  (pss_one (ps_set (i := 4) sc__law_is_put_right.nd rfl (Or.inl rfl) (pe_lst (pa_cons pe_str (pa_cons (pe_tup (pa_cons (pe_kn D__law_put hr__law_put (pa_cons (pv 1) (pa_cons (pv 5) pa_nil))) (pa_cons (pe_callTy call_tuple_of (by rfl) B.tuple (by decide +kernel) (pa_cons (pe_lc (own := [("_law_need", 6)]) rfl sc__law_is_put_right.nd (pi_list (pv 2)) (blkOk_by (N := N__law_is_put_right) (sc := (defScope s__law_is_put_right)) (own := [("_law_need", 6)]) (by decide +kernel)) (fun _ _ _ _ _ => (pg_name (i := 6) sc__law_is_put_right.nd rfl (Or.inl rfl))) (fun _ _ _ _ _ => pts_nil) (fun _ _ _ _ _ => (pe_kn D__law_with hr__law_with (pa_cons (pv 6) (pa_cons (pv 5) pa_nil))))) pa_nil)) pa_nil))) pa_nil))))))
  pss_nil)
  (pss_one (ps_ret (pe_cmpR (op_eqD hu64) (pe_lamcall (k := 13) (T := T) (TT := TTref CK CN CC) (t := fun E => tCall (spPutAt C CC) [] E (tCons (tVar 0) (tCons (tVar 3) tNil))) (by rfl) hmm hkm lkm hcm hbm sc__law_refused rfl (Or.inl rfl) (ref_gives hK hN hC nKN nKC nNC B B9 hVE hgd huA) TB hcode hmT huT hr_lam (lamS_by (by show lamSB (defScope s__law_is_put_right) _ = true; decide +kernel)) (by rfl) (fun _ _ _ _ _ => by rfl) (fun A outer s H E f c hr0 => pe_knX D__law_put_at hr0 (takes_of rfl rfl rfl rfl) (pa_cons (pv 0) (pa_cons (pv 3) pa_nil)))) (pv 4) (nomark _)))))), ?_⟩
  refine ⟨_, rfl, _, kus.length, rfl, .inl ⟨_, SqL.of glr, rfl⟩, x, _, .int (kus.length : Int), rfl, .int _, shw.sh, shw.dep, shw.len, shw.small, slz rfl, fun l1 hl1 => ?_⟩
  have s1 := same_new (o := .lst [.str "count", .str (PyData.int (kus.length : Int)).shown, .bl true]) hl1
  have g1 : (upd H l1 (.lst [.str "count", .str (PyData.int (kus.length : Int)).shown, .bl true])) l1 = some (.lst [.str "count", .str (PyData.int (kus.length : Int)).shown, .bl true]) := upd_same
  generalize upd H l1 (.lst [.str "count", .str (PyData.int (kus.length : Int)).shown, .bl true]) = H1 at s1 g1 ⊢
  refine ⟨_, rfl, _, kus.length, rfl, .inl ⟨_, SqL.of (s1 _ _ glr), rfl⟩, ?_⟩
  refine ⟨_, rfl, x, C, dx, fs, .ref r, rfl, s1 _ _ gx, SC.cl, SC.nv, f'.vars, ?_⟩
  refine ⟨_, (Vars kd nds).length, rfl, .inr ⟨_, SqT.of (s1 _ _ gr), (List.length_map ..).symm⟩, ?_⟩
  refine ⟨rfl, _, rfl, ?_⟩
  by_cases e : kus.length = (Vars kd nds).length
  case neg =>
    refine iF (decide_eq_false fun z => e (Int.ofNat.inj (V.int.inj z))) ?_
    refine ⟨tb.ext s1, fun H5 eN tb5 => ?_⟩
    have e5 : ExtN H H5 := (ExtN.of s1).trans eN
    refine ⟨_, rfl, _, rfl, x, p, lr, v, us, kus, kd, nds, rfl, hs.extN e5, hk, hn, hl, e5 _ _ glr (fun ps z => by cases z), h4, fun _ H' dx' s' g => ?_, fun q => absurd q e⟩
    refine .inr (.inr ⟨rfl, x, dx', .int (kus.length : Int), .int (kus.length : Int), rfl, g, .int _, shw, fun l2 hl2 => ?_⟩)
    have s6 := same_new (o := .lst [.str "count", .str (PyData.int (kus.length : Int)).shown, .bl true]) hl2
    have g6 := s6 _ _ (s' _ _ (eN _ _ g1 (fun ps z => by cases z)))
    refine ⟨_, rfl, dueD "count" (PyData.int (kus.length : Int)).shown, dueD "count" (PyData.int (kus.length : Int)).shown, .lst (SqL.of upd_same) (.cons (.str _) (.cons (.str _) (.cons (.bl _) .nil))), .lst (SqL.of g6) (.cons (.str _) (.cons (.str _) (.cons (.bl _) .nil))), due_shape (by decide +kernel) shk, due_shape (by decide +kernel) shk, ?_⟩
    rw [due_eqv]
    exact k _ (e5.trans (ExtN.of (s'.trans s6))) (tb5.ext (s'.trans s6))
  refine iT (decide_eq_true (by rw [e])) ?_
  refine ⟨_, rfl, x, C, dx, fs, .ref r, rfl, s1 _ _ gx, SC.cl, SC.nv, f'.vars, ?_⟩
  obtain ⟨by', hby⟩ : ∃ by', by' = (Vars kd nds).zip ks := ⟨_, rfl⟩
  refine ⟨_, rfl, r, lr, Vars kd nds, kus, rfl, SqT.of (s1 _ _ gr), .inr (SqL.of (s1 _ _ glr)), e.symm, fun D hD => ?_⟩
  rw [merge_zip e.symm (vars_nodup _ _)]
  have s2 := s1.trans (same_new (o := .dK (zipKV (Vars kd nds) kus)) hD)
  have gD : (upd H1 D (.dK (zipKV (Vars kd nds) kus))) D = some (.dK (zipKV (Vars kd nds) kus)) := upd_same
  have hba := zip_at (zs := Vars kd nds) (KdsAt.tups (same_tups s2) hks)
  rw [← hby] at hba
  generalize upd H1 D (.dK (zipKV (Vars kd nds) kus)) = H2 at s2 gD hba ⊢
  refine ⟨_, rfl, _, rfl, v0, D, kd, _, _, rfl, hv0.tups (same_tups s2), hk, gD, hba, fun H3 v3 s3 k3 => ?_⟩
  have S3 := s2.trans s3
  have g3 := S3 _ _ gls
  refine ⟨_, rfl, ls, rfl, ⟨_, SqL.of g3⟩, fun D2 hD2 => lc_it walk_list (fun i H' => Same H3 H' ∧ ∃ ws, H' D2 = some (.lst ws) ∧ NdsAt H' ws ((nds.take i).map (·.put by'))) ⟨same_new hD2, [], upd_same, .nil⟩ (fun i H' _ h => SqL.of (h.1 _ _ g3)) ?_ ?_⟩
  · rintro i y H4 H5 hi ⟨s4, ws, g4, w4⟩ ⟨rfl, ey⟩
    obtain ⟨nd, hnd, hy⟩ := paired_get hus0 ey
    have S4 := S3.trans s4
    refine ⟨rfl, ?_⟩
    have okn := (hn nd (List.mem_of_getElem? hnd)).at
    refine ⟨_, rfl, _, rfl, y, D, nd, _, _, rfl, hy.tups (same_tups S4), okn.1, okn.2.1, okn.2.2, (s3.trans s4) _ _ gD, ByAt.tups (same_tups (s3.trans s4)) hba, fun H6 v6 s6 k6 => ?_⟩
    have g6 := s6 _ _ g4
    have lws : ws.length ≤ 90 := by
      rw [Paired.length w4, List.length_map, List.length_take]
      omega
    refine ⟨ws, g6, szl (by omega), fun b o z => ?_, ws ++ [v6], upd_same, ?_⟩
    · rw [upd_ne (ne_of_none z hD2)]
      exact s6 _ _ (s4 _ _ z)
    · have tp : Tups H6 (upd H6 D2 (.lst (ws ++ [v6]))) := Tups.put g6 nofun
      rw [List.take_add_one, hnd, List.map_append]
      exact Paired.snoc (NdsAt.tups tp (NdsAt.tups (same_tups s6) w4)) (k6.tups tp)
  rintro H4 ⟨s4, ws, g4, w4⟩
  have lu0 : us0.length = nds.length := Paired.length hus0
  rw [lu0, List.take_length] at w4
  refine ⟨D2, ws, rfl, .inl ⟨SqL.of g4, fun p2 hp2 => ?_⟩⟩
  have s5 := s4.trans (same_new (o := .tup ws) hp2)
  have g5 : (upd H4 p2 (.tup ws)) p2 = some (.tup ws) := upd_same
  have w5 := NdsAt.tups (same_tups (same_new (o := .tup ws) hp2)) w4
  generalize upd H4 p2 (.tup ws) = H5 at s5 g5 w5 ⊢
  refine ⟨slz rfl, fun r2 hr2 => ?_⟩
  have s6 := s5.trans (same_new (o := .tup [v3, .ref p2]) hr2)
  have g6 : (upd H5 r2 (.tup [v3, .ref p2])) r2 = some (.tup [v3, .ref p2]) := upd_same
  have g62 := same_new (o := .tup [v3, .ref p2]) hr2 _ _ g5
  have w6 := NdsAt.tups (same_tups (same_new (o := .tup [v3, .ref p2]) hr2)) w5
  generalize upd H5 r2 (.tup [v3, .ref p2]) = H6 at s6 g6 g62 w6 ⊢
  refine ⟨slz rfl, fun l2 hl2 => ?_⟩
  have q7 := same_new (o := .lst [.str "told", .ref r2]) hl2
  have s7 := s6.trans q7
  have g7 : (upd H6 l2 (.lst [.str "told", .ref r2])) l2 = some (.lst [.str "told", .ref r2]) := upd_same
  have S7 := S3.trans s7
  have T7 := tb.ext S7
  have k7 := k3.tups (same_tups s7)
  have g71 := q7 _ _ g6
  have g72 := q7 _ _ g62
  have w7 := NdsAt.tups (same_tups q7) w6
  generalize upd H6 l2 (.lst [.str "told", .ref r2]) = H7 at S7 T7 k7 g7 g71 g72 w7 ⊢
  refine ⟨T7, fun H8 eN tb8 => ?_⟩
  have e8 : ExtN H H8 := (ExtN.of S7).trans eN
  refine ⟨_, rfl, _, rfl, x, p, lr, v, us, kus, kd, nds, rfl, hs.extN e8, hk, hn, hl, e8 _ _ glr (fun ps z => by cases z), h4, fun q => absurd e q, fun _ => ⟨ks, KdsAt.tups (tups_extN e8) hks, fun H9 r9 v9 p9 us9 s9 a1 a2 a3 a4 => ⟨slz rfl, fun l9 hl9 => ?_⟩⟩⟩
  rw [← hby] at a3 a4
  have q10 := same_new (o := .lst [.str "told", .ref r9]) hl9
  have tpB := (tups_extN eN).trans (same_tups (s9.trans q10))
  have hlk : ∀ x k, lk by' x = some k → k.fit 8 := fun x k e => by
    rw [hby] at e
    have := lk_mem e
    exact fks k (List.of_mem_zip this).2
  have f1 : (kd.put by').fit 40 := Kd.fit_mono (by decide) (Kd.fit_put hlk hk)
  have f2 : ∀ nd ∈ nds.map (·.put by'), Nfit nd := fun nd h => by
    obtain ⟨n0, h0, rfl⟩ := List.mem_map.mp h
    refine ⟨(hn n0 h0).nm.1, fun k hk => ?_⟩
    obtain ⟨k0, hk0, rfl⟩ := List.mem_map.mp (show k ∈ n0.ks.map _ from hk)
    exact Kd.fit_mono (by decide) (Kd.fit_put hlk ((hn n0 h0).ks k0 hk0).1)
  refine ⟨_, rfl, toldD (kd.put by') (nds.map (·.put by')), toldD (kd.put by') (nds.map (·.put by')), told_dp upd_same (q10 _ _ a1) (q10 _ _ a2) (a3.tups (same_tups q10)) (NdsAt.tups (same_tups q10) a4), told_dp (s9.trans q10 _ _ (eN _ _ g7 (fun ps z => by cases z))) (tpB _ _ g71) (tpB _ _ g72) (k7.tups tpB) (NdsAt.tups tpB w7), told_shape f1 f2, told_shape f1 f2, ?_⟩
  rw [told_eqv]
  exact k _ (e8.trans (ExtN.of (s9.trans q10))) (tb8.ext (s9.trans q10))
end
end L3

namespace L3
open PySem L2 StX LamX
def vaS : Str := (PyData.tuple [.str "var", .str "a"]).shown
def cwS : Str := (PyData.tuple [.str "con", .str "whole"]).shown
theorem odd_facts : ∀ d ∈ odds, d.showable = true ∧ d.depth ≤ 60 ∧ d.shown.length ≤ 1000 ∧ (match d with | .int i => decide (i.natAbs.log2 < 1920) | _ => true) = true ∧ PyData.strOk d.shown = true ∧ okD d = true ∧ psz d ≤ 900000 := by decide +kernel
theorem odd_kind : ∀ d ∈ odds, d.shown = vaS ∨ d.shown = cwS ∨ isKindD d = false := by decide +kernel
theorem cut_front (l : List V) (x : V) (r : List V) : cutV (l ++ x :: r) none (some (l.length : Int)) = l := by
  unfold cutV
  rw [HT.sIx_none, HT.sIx_nat, List.length_append, List.length_cons, Nat.min_eq_left (by omega), List.drop_zero, Nat.sub_zero, List.take_left']
  rfl
theorem cut_back (l : List V) (x : V) (r : List V) : cutV (l ++ x :: r) (some ((l.length : Int) + 1)) none = r := by
  unfold cutV
  rw [show (l.length : Int) + 1 = ((l.length + 1 : Nat) : Int) by omega, HT.sIx_none, HT.sIx_nat, List.length_append, List.length_cons, Nat.min_eq_left (by omega)]
  have e : (l ++ x :: r).drop (l.length + 1) = r := by
    rw [← List.drop_drop, List.drop_left]
    rfl
  rw [e, List.take_of_length_le (by omega)]
theorem daAll_split {t : Addr} {H : Hp} : ∀ {ds : List PyData} {vs : List V} (i : Nat), i < vs.length → DaAll t H vs ds → ∃ l x r dl dx dr, vs = l ++ x :: r ∧ ds = dl ++ dx :: dr ∧ l.length = i ∧ DaAll t H l dl ∧ Da t H x dx ∧ DaAll t H r dr
  | [], _, i, hi, h => by cases h; cases hi
  | d :: ds, _, 0, hi, h => by
    cases h with
    | @cons v vs _ _ h1 h2 => exact ⟨[], v, vs, [], d, ds, rfl, rfl, rfl, .nil, h1, h2⟩
  | d :: ds, _, i + 1, hi, h => by
    cases h with
    | @cons v vs _ _ h1 h2 =>
      obtain ⟨l, x, r, dl, dx, dr, e1, e2, e3, g1, g2, g3⟩ := daAll_split i (by simpa using hi) h2
      exact ⟨v :: l, x, r, d :: dl, dx, dr, by rw [e1]; rfl, by rw [e2]; rfl, by rw [List.length_cons, e3], .cons h1 g1, g2, g3⟩
theorem DaAll.length {t : Addr} {H : Hp} {vs : List V} {ds : List PyData} (h : DaAll t H vs ds) : vs.length = ds.length := h.len
theorem nds_split {H : Hp} {us : List V} {nds : List Nd} {i : Nat} (h : NdsAt H us nds) (hi : i < us.length) : ∃ l x r nl nx nr, us = l ++ x :: r ∧ nds = nl ++ nx :: nr ∧ l.length = i ∧ NdsAt H l nl ∧ NdAt H x nx ∧ NdsAt H r nr := by
  induction h generalizing i with
  | nil => cases hi
  | @cons v n vs ns h1 h2 ih =>
    cases i with
    | zero => exact ⟨[], v, vs, [], n, ns, rfl, rfl, rfl, .nil, h1, h2⟩
    | succ i =>
      obtain ⟨l, x, r, nl, nx, nr, e1, e2, e3, g1, g2, g3⟩ := ih (i := i) (by simpa using hi)
      exact ⟨v :: l, x, r, n :: nl, nx, nr, by rw [e1]; rfl, by rw [e2]; rfl, by rw [List.length_cons, e3], .cons h1 g1, g2, g3⟩
/-- what a word is as it is shown -/
def wshB (x : Str) : Bool := (PyData.tuple [.str x]).showable && decide ((PyData.tuple [.str x]).depth ≤ 60) && decide ((PyData.tuple [.str x]).shown.length ≤ 100) && PyData.strOk (PyData.tuple [.str x]).shown
theorem words_wsh {rest : Str} {first n : Nat} {d : Bool} (h1 : rest ∈ rests) (h2 : first < 26) (hn : n ≤ 5) : ∀ x ∈ (lets first n).map (mkW rest d), wshB x = true := by
  have key : ∀ rest ∈ rests, ∀ j < 26, ∀ d : Bool, wshB (mkW rest d (sgn j)) = true := by decide +kernel
  intro x hx
  obtain ⟨c, hc, rfl⟩ := List.mem_map.mp hx
  unfold lets at hc
  obtain ⟨k, hk, rfl⟩ := List.mem_map.mp hc
  exact key rest h1 ((first + 7 * k) % 26) (Nat.mod_lt _ (by decide)) d
theorem va_shw : Shw (.tuple [.str "var", .str "a"]) := ⟨by decide +kernel, by decide +kernel, by rw [sizeLine_eq]; exact Nat.le_trans (show _ ≤ 20 by decide +kernel) (by omega), nofun⟩
theorem cw_shw : Shw (.tuple [.str "con", .str "whole"]) := ⟨by decide +kernel, by decide +kernel, by rw [sizeLine_eq]; exact Nat.le_trans (show _ ≤ 20 by decide +kernel) (by omega), nofun⟩
theorem cut_drop (xs : List V) (n : Nat) (h : n ≤ xs.length) : cutV xs (some (n : Int)) none = xs.drop n := by
  unfold cutV
  rw [HT.sIx_none, HT.sIx_nat, Nat.min_eq_left h, List.take_of_length_le (by rw [List.length_drop]; omega)]
theorem bent_at {nl nr : List Nd} {wn : Str} {i : Nat} {e : PyData} (h1 : ∀ nd ∈ nl, Nok nd) (he : (nl.map Nd.dat ++ [.tuple [.str wn]] ++ nr.map Nd.dat)[i]? = some e) (hne : isNeedD e = false)
    (hall : ∀ (j : Nat) (e' : PyData), j < i → (nl.map Nd.dat ++ [.tuple [.str wn]] ++ nr.map Nd.dat)[j]? = some e' → isNeedD e' = true) : i = nl.length ∧ e = .tuple [.str wn] := by
  have ln : (nl.map Nd.dat).length = nl.length := List.length_map ..
  have mid : (nl.map Nd.dat ++ [.tuple [.str wn]] ++ nr.map Nd.dat)[nl.length]? = some (.tuple [.str wn]) := by
    rw [List.append_assoc, List.getElem?_append_right (by omega), ln, Nat.sub_self]
    rfl
  rcases Nat.lt_trichotomy i nl.length with c | c | c
  · rw [List.append_assoc, List.getElem?_append_left (by omega)] at he
    obtain ⟨n, hn, rfl⟩ := List.mem_map.mp (List.mem_of_getElem? he)
    rw [(h1 n hn).isN] at hne
    cases hne
  · subst c
    rw [mid] at he
    exact ⟨rfl, (Option.some.inj he).symm⟩
  · have := hall _ _ c mid
    cases this
theorem key_same {H : Hp} {N : Prop} {F : Hp → Prop} {G : Prop} (g : (∀ H1, Same H H1 → N → F H1) → G) (h : ∀ H1, Same H H1 → N → F H1) : G := g h
theorem XtN.tape {K : PySem.W.Frag} {t : Addr} {H H' : Hp} (h : ExtN H H') : XtN t H H' := XtN.extN h
section
variable {P : Program} {w : World} {K : PySem.W.Frag} {mg : Str → Option Value} {base : Heap} {C CK CN CC fI : Addr}
abbrev s__law_is_refused_right : Stmt := topS 67
abbrev N__law_is_refused_right : List Str := ["_law_tape", "_law_head", "_law_some", "_law_words_here", "_law_at", "_law_due", "_law_bent", "_law_odd_here"]
theorem sc__law_is_refused_right : FnScope N__law_is_refused_right ["_law_tape", "_law_head", "_law_some", "_law_words_here"] (defScope s__law_is_refused_right) := ⟨rfl, rfl, rfl, by decide +kernel, rfl, by decide +kernel, by decide +kernel⟩
def spRefR (K : PySem.W.Frag) (T : List (Addr × Str)) : Sp := fun vs H Q _ => ∃ (t c ls lw : Addr) (v0 : V) (us : List V) (kd : Kd) (nds : List Nd) (wh : List Str) (b : Nat), vs = [.ref t, v0, .ref ls, .ref lw] ∧ KdAt H v0 kd ∧ kd.fit 8 ∧ kd.nmd ∧ H ls = some (.lst us) ∧ NdsAt H us nds ∧ (∀ nd ∈ nds, Nok nd) ∧ nds.length ≤ 4 ∧
  SqL K H lw (wh.map V.str) ∧ Nms wh ∧ (∀ x ∈ wh, wshB x = true) ∧ wh.length = 5 ∧ Tape K H t c (b + 2) ∧ Tabs T H ∧ ∀ H', XtN t H H' → Tape K H' t c b → Tabs T H' → Q (.bl true) H'
theorem ok_refr {f g cD Pt : Addr} {fd fdm : FuncData} {T : List (Addr × Str)} (F : Fun K "_law_is_refused_right" "_law_is_refused_right" s__law_is_refused_right f fd) (hco : fd.code = .ref cD) (TB : TabB base mg cD Pt) (hb : Binds K fd ["_law_tape", "_law_head", "_law_some", "_law_words_here"] [])
    (hmT : (Pt, ("_law_is_refused_right" : Str) ++ ".<locals>." ++ ("<lambda>" : Str)) ∈ T) (huT : ∀ p ∈ T, p.1 = Pt → p.2 = ("_law_is_refused_right" : Str) ++ ".<locals>." ++ ("<lambda>" : Str))
    (B : Bl mg) (B9 : Bl9 mg) (hVE : mg "ValueError" = none) (hK : E1 P w K mg base "InvalidKind" "value" mroV "ValueError.__new__" CK) (hN : E1 P w K mg base "InvalidNeed" "value" mroV "ValueError.__new__" CN) (hC : E1 P w K mg base "InvalidCount" "number" mroV "ValueError.__new__" CC) (nKN : CN ≠ CK) (nKC : CC ≠ CK) (nNC : CC ≠ CN)
    (FM : Fun K "_law_refused" "_law_refused" s__law_refused g fdm) (hmm : mg "_law_refused" = some (.ref g)) (hbm : L2.Binds K fdm ["_law_call"] [])
    (D__law_odd : Kn P w K mg base 3 "_law_odd" ["_law_tape"] (spOdd K)) (D__law_draw : Kn P w K mg base 1 "_law_draw" ["_law_tape", "_law_many"] (spDraw K)) (D__law_scheme_of : KnX P w K mg base 9 "_law_scheme_of" ["_law_head", "_law_some"] (spSchOf C CK CN)) : FnG P w K mg base 13 f (spRefR K T) := by
  obtain ⟨oc, od, kV, doc, pm, an, cdm, ct, osl, rfl, lkm, hcm⟩ := FM.ex
  have hkm := FM.kp
  refine fnG_code (k := 12) F hco sc__law_is_refused_right (fun vs H Q E h => ?_) hb (fun A outer s H vs Q hr h0 h => ?_)
  · obtain ⟨t, c, ls, lw, v0, us, kd, nds, wh, b, rfl, _⟩ := h
    rfl
  obtain ⟨t, c, ls, lw, v0, us, kd, nds, wh, b, rfl, hv, hk, hnm, gls, hus, hn, h4, hlw, hwh, hsw, lwh, T0, tb0, k⟩ := h
  have hgd : (A.deeper (PyProof.Rows.envOfC "_law_is_refused_right" (defScope s__law_is_refused_right) s.heap.objs.size f (.ref cD))).guards = some [] := grd_deep h0
  have hr__law_odd : Room 3 _ := hr.mono (by decide)
  have hr__law_draw : Room 1 _ := hr.mono (by decide)
  have hr_lam : Room 11 _ := hr.mono (by decide)
  have hu64 := hr.units
  have huA : ∀ env, ((A.deeper (PyProof.Rows.envOfC "_law_is_refused_right" (defScope s__law_is_refused_right) s.heap.objs.size f (.ref cD))).deeper env).units + 64 < cLine := fun env => (Room.deeper (hr.mono (show 11 + 1 ≤ 12 by decide)) env).units
  have hcode : (cxOf CX0 P w K mg base N__law_is_refused_right "_law_is_refused_right" (defScope s__law_is_refused_right) f (.ref cD) A outer s H E0).nox.env.code = .ref cD := rfl
  refine ⟨_, (pss_cons (ps_asg (pe_tup (pa_cons (pe_kn D__law_odd hr__law_odd (pa_cons (pv 0) pa_nil)) (pa_cons (pe_kn D__law_draw hr__law_draw (pa_cons (pv 0) (pa_cons (pe_op op_add (pe_callB call_len (by rfl) B.len PySem.boot_len (pa_cons (pv 2) pa_nil)) pe_int) pa_nil))) pa_nil))) (pg_tup (by rfl) (pgs_cons (pg_name (i := 7) sc__law_is_refused_right.nd rfl (Or.inr rfl)) (pgs_cons (pg_name (i := 4) sc__law_is_refused_right.nd rfl (Or.inl rfl)) pgs_nil))))
  (pss_cons (ps_if (PW.pt (pw_and (pt_cmpR op_eq (pv 4) pe_int (nomark _)) (pw_and1 (pt_cmpR op_notIn_seq (pe_callB (call_reprAny hgd hu64) (by rfl) B.repr (by decide +kernel) (pa_cons (pv 7) pa_nil)) (pe_lst (pa_cons (pe_callB (call_reprAny hgd hu64) (by rfl) B.repr (by decide +kernel) (pa_cons (pe_tup (pa_cons pe_str (pa_cons pe_str pa_nil))) pa_nil)) (pa_cons (pe_callB (call_reprAny hgd hu64) (by rfl) B.repr (by decide +kernel) (pa_cons (pe_tup (pa_cons pe_str (pa_cons pe_str pa_nil))) pa_nil)) pa_nil))) (by rfl)))))
  (pss_one (ps_ret (pe_cmpR (op_eqD hu64) (pe_lamcall (k := 9) (T := T) (TT := TTref CK CN CC) (t := fun E => tCall (spSchOf C CK CN) [] E (tCons (tVar 7) (tCons (tVar 2) tNil))) (by rfl) hmm hkm lkm hcm hbm sc__law_refused rfl (Or.inl rfl) (ref_gives hK hN hC nKN nKC nNC B B9 hVE hgd huA) TB hcode hmT huT hr_lam (lamS_by (by show lamSB (defScope s__law_is_refused_right) _ = true; decide +kernel)) (by rfl) (fun _ _ _ _ _ => by rfl) (fun A outer s H E f c hr0 => pe_knX D__law_scheme_of hr0 (takes_of rfl rfl rfl rfl) (pa_cons (pv 7) (pa_cons (pv 2) pa_nil)))) (pe_lst (pa_cons pe_str (pa_cons (pe_callB (call_reprAny hgd hu64) (by rfl) B.repr (by decide +kernel) (pa_cons (pv 7) pa_nil)) (pa_cons pe_bl pa_nil)))) (nomark _))))
  pss_nil)
  (pss_cons (ps_asg (pe_tup (pa_cons (pe_op op_cat (pe_op op_cat (pe_slice sl_list (pv 2) po_none (po_some (pe_op op_sub (pv 4) pe_int))) (pe_lst (pa_cons (pe_tup (pa_cons (pe_ix ix_list (pv 3) pe_int (fun _ _ => rfl)) pa_nil)) pa_nil))) (pe_slice sl_list (pv 2) (po_some (pv 4)) po_none)) (pa_cons (pe_lst (pa_cons pe_str (pa_cons (pe_callB (call_reprAny hgd hu64) (by rfl) B.repr (by decide +kernel) (pa_cons (pe_tup (pa_cons (pe_ix ix_list (pv 3) pe_int (fun _ _ => rfl)) pa_nil)) pa_nil)) (pa_cons pe_bl pa_nil)))) pa_nil))) (pg_tup (by rfl) (pgs_cons (pg_name (i := 6) sc__law_is_refused_right.nd rfl (Or.inr rfl)) (pgs_cons (pg_name (i := 5) sc__law_is_refused_right.nd rfl (Or.inl rfl)) pgs_nil))))
  (pss_one (ps_ret (pe_or (pe_cmpR op_eq (pv 4) pe_int (nomark _)) (pe_one (pe_cmpR (op_eqD hu64) (pe_lamcall (k := 9) (T := T) (TT := TTref CK CN CC) (t := fun E => tCall (spSchOf C CK CN) [] E (tCons (tVar 1) (tCons (tVar 6) tNil))) (by rfl) hmm hkm lkm hcm hbm sc__law_refused rfl (Or.inl rfl) (ref_gives hK hN hC nKN nKC nNC B B9 hVE hgd huA) TB hcode hmT huT hr_lam (lamS_by (by show lamSB (defScope s__law_is_refused_right) _ = true; decide +kernel)) (by rfl) (fun _ _ _ _ _ => by rfl) (fun A outer s H E f c hr0 => pe_knX D__law_scheme_of hr0 (takes_of rfl rfl rfl rfl) (pa_cons (pv 1) (pa_cons (pv 6) pa_nil)))) (pv 5) (nomark _))))))))), ?_⟩
  have lus : us.length = nds.length := Paired.length hus
  have nls : ls ≠ t := fun z => by
    obtain ⟨kvs, hd⟩ := T0.dict
    rw [← z, gls] at hd
    cases hd
  refine ⟨_, rfl, t, c, b + 1, rfl, T0, fun H1 v1 d1 e1 T1 da1 hd1 => ?_⟩
  refine ⟨_, rfl, _, rfl, _, us.length, rfl, .inl ⟨_, SqL.of (e1 _ _ nls gls), rfl⟩, _, _, rfl, rfl, t, c, (us.length : Int) + 1, b, rfl, by omega, by omega, T1, fun H2 r2 e2 T2 r21 r22 => ?_⟩
  obtain ⟨at_, rfl⟩ : ∃ m : Nat, r2 = (m : Int) := ⟨r2.toNat, (Int.toNat_of_nonneg r21).symm⟩
  have da2 := da1.kp (kp_ext e2 T1)
  refine ⟨slz rfl, fun q hq => ⟨q, _, rfl, SqT.of upd_same, rfl, _, _, rfl, _, _, rfl, rfl, ?_⟩⟩
  have e3 := (e1.trans e2).trans (Ext.new (o := .tup [v1, .int (at_ : Int)]) hq)
  have T3 := T2.new (o := .tup [v1, .int (at_ : Int)]) hq
  have da3 := da2.kp (kp_ext (Ext.new (o := .tup [v1, .int (at_ : Int)]) hq) T2)
  generalize upd H2 q (.tup [v1, .int (at_ : Int)]) = H3 at e3 T3 da3 ⊢
  obtain ⟨f1, f2, f3, f4, f5, f6, f7⟩ := odd_facts d1 hd1
  have fsm : ∀ i, d1 = .int i → i.natAbs.log2 < 1920 := fun i z => by
    rw [z] at f4
    exact of_decide_eq_true f4
  have shw : Shw d1 := ⟨f1, f2, by rw [sizeLine_eq]; omega, fsm⟩
  refine ⟨_, rfl, rfl, _, rfl, ?_⟩
  have tb3 : Tabs T H3 := tabs_ext tb0 e3 T0
  have gls3 := e3 _ _ nls gls
  have tp3 : Tups H H3 := Ext.tups e3 T0
  have hus3 := NdsAt.tups tp3 hus
  have hv3 := hv.tups tp3
  refine' key_same (H := H3) (N := True) (fun h => ?_) (fun H4 s4 _ => ?_)
  rotate_left
  · by_cases c0 : at_ = 0
    · refine iT (decide_eq_true (by rw [c0]; rfl)) ?_
      refine ⟨_, rfl, t, v1, d1, rfl, da3, f1, f2, shw.len, fsm, ?_⟩
      refine ⟨slz rfl, fun p1 hp1 => ⟨t, .ref p1, _, rfl, .tup upd_same (.cons (.str _) (.cons (.str _) .nil)), va_shw.sh, va_shw.dep, va_shw.len, nofun, ?_⟩⟩
      have s4 := same_new (o := .tup [.str "var", .str "a"]) hp1
      generalize upd H3 p1 (.tup [.str "var", .str "a"]) = H4 at s4 ⊢
      refine ⟨slz rfl, fun p2 hp2 => ⟨t, .ref p2, _, rfl, .tup upd_same (.cons (.str _) (.cons (.str _) .nil)), cw_shw.sh, cw_shw.dep, cw_shw.len, nofun, ?_⟩⟩
      have s5 := s4.trans (same_new (o := .tup [.str "con", .str "whole"]) hp2)
      generalize upd H4 p2 (.tup [.str "con", .str "whole"]) = H5 at s5 ⊢
      refine ⟨slz rfl, fun p3 hp3 => ⟨p3, _, rfl, .inl (SqL.of upd_same), rfl, rfl, ?_⟩⟩
      have s6 : Same H3 _ := s5.trans (same_new (o := .lst [.str (PyData.tuple [.str "var", .str "a"]).shown, .str (PyData.tuple [.str "con", .str "whole"]).shown]) hp3)
      refine ⟨_, rfl, ?_⟩
      have ev : inV (.str d1.shown) [.str vaS, .str cwS] = (decide (vaS = d1.shown) || decide (cwS = d1.shown)) := by
        show (eqV (.str vaS) (.str d1.shown) || (eqV (.str cwS) (.str d1.shown) || false)) = _
        rw [eqV_str, eqV_str, Bool.or_false]
      by_cases cin : d1.shown = vaS ∨ d1.shown = cwS
      · refine iF ?_ (h _ s6 trivial)
        show (!inV (.str d1.shown) [.str vaS, .str cwS]) = false
        rw [ev]
        rcases cin with z | z
        · rw [z]; simp
        · rw [z]; simp
      · have hkd : isKindD d1 = false := by
          rcases odd_kind d1 hd1 with z | z | z
          · exact absurd (.inl z) cin
          · exact absurd (.inr z) cin
          · exact z
        refine iT ?_ ?_
        · show (!inV (.str d1.shown) [.str vaS, .str cwS]) = true
          rw [ev, decide_eq_false (fun z => cin (.inl z.symm)), decide_eq_false (fun z => cin (.inr z.symm))]
          rfl
        have tb6 := tb3.ext s6
        refine ⟨tb6, fun H7 eN tb7 => ?_⟩
        have e7 : ExtN H3 H7 := (ExtN.of s6).trans eN
        have k7 := kp_extN (t := t) e7
        have da7 := da3.kp k7
        refine ⟨_, rfl, _, rfl, t, ls, v1, us, d1, nds.map Nd.dat, rfl, e7 _ _ gls3 (fun ps z => by cases z), by omega, ⟨da7, NdsAt.da (NdsAt.tups (tups_extN e7) hus3), f6, f7, fun e he => ?_⟩, fun _ H' dx' s' g => .inl ⟨rfl, t, dx', v1, d1, rfl, g, da7.kp (kp_same s'), shw, fun l8 hl8 => ?_⟩, fun z => ?_, fun z => ?_⟩
        · obtain ⟨n, hn', rfl⟩ := List.mem_map.mp he
          exact ⟨(hn n hn').okD, (hn n hn').psz⟩
        · have s8 := s'.trans (same_new (o := .lst [.str "kind", .str d1.shown, .bl true]) hl8)
          have g8 : (upd H' l8 (.lst [.str "kind", .str d1.shown, .bl true])) l8 = some (.lst [.str "kind", .str d1.shown, .bl true]) := upd_same
          generalize upd H' l8 (.lst [.str "kind", .str d1.shown, .bl true]) = H8 at s8 g8 ⊢
          refine ⟨_, rfl, t, v1, d1, rfl, da7.kp (kp_same s8), f1, f2, shw.len, fsm, slz rfl, fun l9 hl9 => ?_⟩
          have s9 := same_new (o := .lst [.str "kind", .str d1.shown, .bl true]) hl9
          refine ⟨dueD "kind" d1.shown, dueD "kind" d1.shown, .lst (SqL.of (s9 _ _ g8)) (.cons (.str _) (.cons (.str _) (.cons (.bl _) .nil))), .lst (SqL.of upd_same) (.cons (.str _) (.cons (.str _) (.cons (.bl _) .nil))), due_shape (by decide +kernel) f5, due_shape (by decide +kernel) f5, ?_⟩
          rw [due_eqv]
          have S9 := s8.trans s9
          exact k _ ((XtN.ext e3).trans ((XtN.extN e7).trans (XtN.same S9))) (Tape.less ((tape_extN T3 e7).same S9) (by omega)) (tb7.ext S9)
        · rw [hkd] at z
          cases z
        · rw [hkd] at z
          cases z
    · exact iF (decide_eq_false fun z => c0 (by injection z with z; omega)) (iF rfl (h _ (Same.refl _) trivial))
  · have e4 := e3.trans (same_ext s4)
    have T4 := T3.same s4
    have tb4 := tb3.ext s4
    have gls4 := s4 _ _ gls3
    have hlw4 : SqL K H4 lw (wh.map V.str) := SqL.extT hlw T0 e4
    obtain ⟨wn, hwn⟩ : ∃ wn, wh[3]? = some wn := ⟨_, List.getElem?_eq_getElem (by omega)⟩
    have wok3 := hwh wn (List.mem_of_getElem? hwn)
    have wsh3 := hsw wn (List.mem_of_getElem? hwn)
    unfold wshB at wsh3
    simp only [Bool.and_eq_true, decide_eq_true_eq] at wsh3
    obtain ⟨⟨⟨w1, w2⟩, w3⟩, w4⟩ := wsh3
    have wat : ∀ {H' : Hp}, Same H4 H' → SqL K H' lw (wh.map V.str) := fun s => by
      rcases hlw4 with (h | ⟨o, h⟩) | h
      · exact .inl (.inl (s _ _ h))
      · exact .inl (.inr ⟨o, s _ _ h⟩)
      · exact .inr h
    have i3 : atI (wh.map V.str) 3 = some (.str wn) := at_ofG (j := 3) rfl (by rw [List.getElem?_map, hwn]; rfl)
    refine ⟨_, rfl, _, rfl, _, _, rfl, rfl, _, rfl, ls, us, rfl, SqL.of gls4, fun p1 hp1 => ?_⟩
    obtain ⟨La, hL1⟩ : ∃ La, La = cutV us none (some ((at_ : Int) - 1)) := ⟨_, rfl⟩
    have lL1 : La.length ≤ us.length := by rw [hL1]; exact cutV_length _ _ _
    have s5 := same_new (o := .lst (cutV us none (some ((at_ : Int) - 1)))) hp1
    have g5 : (upd H4 p1 (.lst (cutV us none (some ((at_ : Int) - 1))))) p1 = some (.lst La) := by rw [hL1]; exact upd_same
    generalize upd H4 p1 (.lst (cutV us none (some ((at_ : Int) - 1)))) = H5 at s5 g5 ⊢
    refine ⟨_, rfl, lw, _, 3, _, rfl, rfl, wat s5, i3, slz rfl, fun q1 hq1 => ?_⟩
    have s6 := s5.trans (same_new (o := .tup [.str wn]) hq1)
    have gq6 : (upd H5 q1 (.tup [.str wn])) q1 = some (.tup [.str wn]) := upd_same
    have g6 := same_new (o := .tup [.str wn]) hq1 _ _ g5
    generalize upd H5 q1 (.tup [.str wn]) = H6 at s6 gq6 g6 ⊢
    refine ⟨slz rfl, fun l1 hl1 => ?_⟩
    have q7 := same_new (o := .lst [.ref q1]) hl1
    refine ⟨p1, l1, _, _, rfl, rfl, q7 _ _ g6, upd_same, by rw [sizeLine_eq]; show La.length + 1 ≤ _; omega, fun c1 hc1 => ?_⟩
    have s8 := s6.trans (q7.trans (same_new (o := .lst (La ++ [.ref q1])) hc1))
    have gq8 := (q7.trans (same_new (o := .lst (La ++ [.ref q1])) hc1)) _ _ gq6
    have g8 : (upd (upd H6 l1 (.lst [.ref q1])) c1 (.lst (La ++ [.ref q1]))) c1 = some (.lst (La ++ [.ref q1])) := upd_same
    generalize upd (upd H6 l1 (.lst [.ref q1])) c1 (.lst (La ++ [.ref q1])) = H8 at s8 gq8 g8 ⊢
    refine ⟨_, rfl, _, rfl, _, rfl, ls, us, rfl, SqL.of (s8 _ _ gls4), fun p2 hp2 => ?_⟩
    obtain ⟨Lb, hL2⟩ : ∃ Lb, Lb = cutV us (some (at_ : Int)) none := ⟨_, rfl⟩
    have lL2 : Lb.length ≤ us.length := by rw [hL2]; exact cutV_length _ _ _
    have q9 := same_new (o := .lst (cutV us (some (at_ : Int)) none)) hp2
    have g9 : (upd H8 p2 (.lst (cutV us (some (at_ : Int)) none))) p2 = some (.lst Lb) := by rw [hL2]; exact upd_same
    refine ⟨c1, p2, _, _, rfl, rfl, q9 _ _ g8, g9, by rw [sizeLine_eq]; rw [List.length_append, List.length_singleton]; omega, fun c2 hc2 => ?_⟩
    have q10 := q9.trans (same_new (o := .lst (La ++ [.ref q1] ++ Lb)) hc2)
    have s10 := s8.trans q10
    have gq10 := q10 _ _ gq8
    have g10 : (upd (upd H8 p2 (.lst (cutV us (some (at_ : Int)) none))) c2 (.lst (La ++ [.ref q1] ++ Lb))) c2 = some (.lst (La ++ [.ref q1] ++ Lb)) := upd_same
    generalize upd (upd H8 p2 (.lst (cutV us (some (at_ : Int)) none))) c2 (.lst (La ++ [.ref q1] ++ Lb)) = H10 at s10 gq10 g10 ⊢
    obtain ⟨Y, hY⟩ : ∃ Y, Y = (PyData.tuple [.str wn]).shown := ⟨_, rfl⟩
    refine ⟨_, rfl, lw, _, 3, _, rfl, rfl, wat s10, i3, slz rfl, fun q2 hq2 => ⟨t, .ref q2, .tuple [.str wn], rfl, .tup upd_same (.cons (.str _) .nil), w1, w2, by rw [sizeLine_eq]; omega, nofun, slz rfl, fun l2 hl2 => ?_⟩⟩
    rw [← hY] at w4 ⊢
    have q12 := (same_new (o := .tup [.str wn]) hq2).trans (same_new (o := .lst [.str "need", .str Y, .bl true]) hl2)
    have s12 := s10.trans q12
    have g12 := q12 _ _ g10
    have gq12 := q12 _ _ gq10
    have gl12 : (upd (upd H10 q2 (.tup [.str wn])) l2 (.lst [.str "need", .str Y, .bl true])) l2 = some (.lst [.str "need", .str Y, .bl true]) := upd_same
    generalize upd (upd H10 q2 (.tup [.str wn])) l2 (.lst [.str "need", .str Y, .bl true]) = H12 at s12 g12 gq12 gl12 ⊢
    refine ⟨slz rfl, fun q3 hq3 => ⟨q3, _, rfl, SqT.of upd_same, rfl, _, _, rfl, _, _, rfl, rfl, ?_⟩⟩
    have q13 := same_new (o := .tup [.ref c2, .ref l2]) hq3
    have s13 := s12.trans q13
    have g13 := q13 _ _ g12
    have gq13 := q13 _ _ gq12
    have gl13 := q13 _ _ gl12
    generalize upd H12 q3 (.tup [.ref c2, .ref l2]) = H13 at s13 g13 gq13 gl13 ⊢
    have tb13 := tb4.ext s13
    have T13 := T4.same s13
    refine ⟨_, rfl, rfl, ?_⟩
    by_cases c0 : at_ = 0
    · exact ⟨_, rfl, iT (decide_eq_true (by rw [c0]; rfl)) (k _ ((XtN.ext e4).trans (XtN.same s13)) (T13.less (by omega)) tb13)⟩
    refine ⟨_, rfl, iF (decide_eq_false fun z => c0 (by injection z with z; omega)) ?_⟩
    obtain ⟨i, rfl⟩ : ∃ i, at_ = i + 1 := ⟨at_ - 1, by omega⟩
    obtain ⟨l, x, r, nl, nx, nr, eu, en, el, g1', g2', g3'⟩ := nds_split hus (i := i) (by omega)
    have ea : La = l := by rw [hL1, eu, show ((i + 1 : Nat) : Int) - 1 = (l.length : Int) by omega, cut_front]
    have eb : Lb = r := by rw [hL2, eu, show ((i + 1 : Nat) : Int) = (l.length : Int) + 1 by omega, cut_back]
    have lnl : l.length = nl.length := Paired.length g1'
    have hnl : ∀ nd ∈ nl, Nok nd := fun nd h => hn nd (by rw [en]; simp [h])
    have hnr : ∀ nd ∈ nr, Nok nd := fun nd h => hn nd (by rw [en]; simp [h])
    refine ⟨tb13, fun H14 eN tb14 => ?_⟩
    have e14 : ExtN H4 H14 := (ExtN.of s13).trans eN
    have tpH : Tups H H14 := (Ext.tups e4 T0).trans (tups_extN e14)
    have gq14 := tups_extN eN _ _ gq13
    have gl14 := eN _ _ gl13 (fun ps z => by cases z)
    have mkd : ∀ d : PyData, d ∈ nl.map Nd.dat ++ [.tuple [.str wn]] ++ nr.map Nd.dat → okD d = true ∧ psz d ≤ 900000 := fun d hd => by
      rcases List.mem_append.mp hd with hd | hd
      · rcases List.mem_append.mp hd with hd | hd
        · obtain ⟨n, hn', rfl⟩ := List.mem_map.mp hd
          exact ⟨(hnl n hn').okD, (hnl n hn').psz⟩
        · rw [List.mem_singleton.mp hd]
          refine ⟨?_, by simp [psz, pszL]⟩
          have := wok3.1.okD
          simp only [okD] at this
          simp only [okD, okL, Bool.and_true]
          exact this
      · obtain ⟨n, hn', rfl⟩ := List.mem_map.mp hd
        exact ⟨(hnr n hn').okD, (hnr n hn').psz⟩
    refine ⟨_, rfl, _, rfl, t, c2, v0, La ++ [.ref q1] ++ Lb, kd.dat, nl.map Nd.dat ++ [.tuple [.str wn]] ++ nr.map Nd.dat, rfl, eN _ _ g13 (fun ps z => by cases z), ?_, ⟨(hv.tups tpH).daN, ?_, Kd.okK hk, ?_, mkd⟩, fun z => ?_, fun _ i' u e hu he hne hall H' dx' s' g => ?_, fun _ z => ?_⟩
    · rw [List.length_append, List.length_append, List.length_singleton]
      omega
    · rw [ea, eb]
      exact DaAll.app (DaAll.app (NdsAt.da (NdsAt.tups tpH g1')) (.cons (.tup gq14 (.cons (.str _) .nil)) .nil)) (NdsAt.da (NdsAt.tups tpH g3'))
    · have := Kd.psz_le kd
      have := Kd.size8 hk
      omega
    · rw [Kd.isK hnm] at z
      cases z
    · obtain ⟨rfl, rfl⟩ := bent_at hnl he hne hall
      have eu2 : u = .ref q1 := by
        rw [ea, List.append_assoc, List.getElem?_append_right (by omega), lnl, Nat.sub_self] at hu
        exact (Option.some.inj hu).symm
      subst eu2
      refine .inr (.inl ⟨rfl, t, dx', .ref q1, .tuple [.str wn], rfl, g, .tup (s' _ _ gq14) (.cons (.str _) .nil), ⟨w1, w2, by rw [sizeLine_eq]; omega, nofun⟩, fun l16 hl16 => ?_⟩)
      rw [← hY]
      have q16 := same_new (o := .lst [.str "need", .str Y, .bl true]) hl16
      have s16 := s'.trans q16
      refine ⟨_, rfl, dueD "need" Y, dueD "need" Y, .lst (SqL.of upd_same) (.cons (.str _) (.cons (.str _) (.cons (.bl _) .nil))), .lst (SqL.of (s16 _ _ gl14)) (.cons (.str _) (.cons (.str _) (.cons (.bl _) .nil))), due_shape (by decide +kernel) w4, due_shape (by decide +kernel) w4, ?_⟩
      rw [due_eqv]
      exact k _ ((XtN.ext e4).trans ((XtN.extN e14).trans (XtN.same s16))) (((tape_extN T4 e14).same s16).less (by omega)) (tb14.ext s16)
    · have := z (.tuple [.str wn]) (by simp)
      cases this
end
end L3

namespace L3
open PySem L2 StX
theorem init_mkA {C CK CN t : Addr} {H : Hp} {v : V} {us : List V} {d : PyData} {ds : List PyData} {R : Addr → Hp → Prop} {E : XK} (h : Mkw H t v us d ds) (hl : us.length ≤ 1000) (k : MkOut C CK CN H v us d ds (fun v H => ∀ a, v = .ref a → R a H) E) :
    ∀ x dx, H x = none → H dx = none → dx ≠ x → spStar 2 (spInit C CK CN) (.ref x :: v :: us) (upd (upd H dx (.own x)) x (.ins C dx [])) (fun v H2 => v = .non ∧ R x H2) E := by
  intro x dx hx hdx hne
  have s1 : Same H (upd (upd H dx (.own x)) x (.ins C dx [])) := (same_new hdx).trans (same_new (by rw [upd_ne (Ne.symm hne)]; exact hx))
  have gx : (upd (upd H dx (.own x)) x (.ins C dx [])) x = some (.ins C dx []) := upd_same
  generalize upd (upd H dx (.own x)) x (.ins C dx []) = H1 at s1 gx ⊢
  refine ⟨[.ref x, v], us, rfl, rfl, slz (Nat.ble_eq.mpr hl), fun p hp => ?_⟩
  have s2 := s1.trans (same_new (o := .tup us) hp)
  have gx2 := same_new (o := .tup us) hp _ _ gx
  have gp2 : (upd H1 p (.tup us)) p = some (.tup us) := upd_same
  generalize upd H1 p (.tup us) = H2 at s2 gx2 gp2 ⊢
  have m := h.same s2
  have px : p ≠ x := fun z => by rw [z, gx2] at gp2; cases gp2
  refine ⟨t, x, p, dx, v, us, d, ds, rfl, gx2, gp2, m.hd, m.hds, m.ok, m.sz, m.all, fun a H' dx' s' g => k.1 a H' dx' (s2.trans s') g, fun a i u e q1 q2 q3 q4 H' dx' s' g => k.2.1 a i u e q1 q2 q3 q4 H' dx' (s2.trans s') g, fun a b => ?_⟩
  obtain ⟨kd, nds, r1, r2, r3, r4, r5, r6⟩ := k.2.2 a b
  have z1 := Kd.size8 r3
  have z2 := sizeL_nds r4
  refine ⟨kd, nds, r1.tups (same_tups s2), NdsAt.tups (same_tups s2) r2, fun nd hn => (r4 nd hn).k2, by omega, by simp only [sizeL]; omega, fun H' fs r kp g f gr => ⟨rfl, ?_⟩⟩
  have s3 : Same H H' := fun b o e => kp b o (fun z => by rw [z, hx] at e; cases e) (s2 _ _ e)
  exact r6 H' x p s3 hx ⟨⟨dx, fs, r, g, f, gr⟩, kp _ _ px gp2, r1.tups (same_tups s3), NdsAt.tups (same_tups s3) r2⟩ x rfl
/-- the 64 variables, then their tree, level by level -/
def qw (k : Nat) : Str := ⟨#[113, 97 + k / 26, 97 + (k - k / 26 * 26)]⟩
def wl : Nat → List Kd
  | 0 => (List.range 64).map fun k => .var (qw k)
  | n + 1 => (List.range ((wl n).length / 2)).map fun k => .app ((wl n).getD (2 * k) (.con "")) ((wl n).getD (2 * k + 1) (.con ""))
theorem wl_len : ∀ n, n ≤ 6 → (wl n).length = 64 / 2 ^ n := by
  intro n
  induction n with
  | zero => intro _; rw [wl, List.length_map, List.length_range]
  | succ n ih =>
    intro h
    rw [wl, List.length_map, List.length_range, ih (by omega)]
    have : n = 0 ∨ n = 1 ∨ n = 2 ∨ n = 3 ∨ n = 4 ∨ n = 5 := by omega
    rcases this with rfl | rfl | rfl | rfl | rfl | rfl <;> rfl
theorem qw_name : ∀ k < 64, isNameD (.str (qw k)) = true := by decide +kernel
theorem wl_fit : ∀ n, n ≤ 6 → ∀ k ∈ wl n, k.fit n ∧ k.nmd := by
  intro n
  induction n with
  | zero =>
    intro _ k hk
    obtain ⟨j, hj, rfl⟩ := List.mem_map.mp hk
    have := qw_name j (List.mem_range.mp hj)
    exact ⟨fitV (wok_Wok this), this⟩
  | succ n ih =>
    intro hn k hk
    obtain ⟨j, hj, rfl⟩ := List.mem_map.mp hk
    have hj := List.mem_range.mp hj
    have h1 : (wl n).getD (2 * j) (.con "") ∈ wl n := by
      rw [List.getD_eq_getElem?_getD, List.getElem?_eq_getElem (by omega)]
      exact List.getElem_mem _
    have h2 : (wl n).getD (2 * j + 1) (.con "") ∈ wl n := by
      rw [List.getD_eq_getElem?_getD, List.getElem?_eq_getElem (by omega)]
      exact List.getElem_mem _
    exact ⟨⟨(ih (by omega) _ h1).1, (ih (by omega) _ h2).1⟩, (ih (by omega) _ h1).2, (ih (by omega) _ h2).2⟩
def wide : Kd := (wl 6).getD 0 (.con "")
theorem wl_six : wl 6 = [wide] := by
  have h := wl_len 6 (by decide)
  unfold wide
  match e : wl 6, h with
  | [x], _ => rfl
  | [], h => cases h
  | _ :: _ :: _, h => cases h
theorem wide_vars : (Vars wide []).length = 64 := by decide +kernel
theorem wide_named : Vars (wide.put ((Vars wide []).zip ((fstN 64).map Kd.var))) [] = fstN 64 := by decide +kernel
def due51 : List Str := ((List.range 26).map sgn) ++ ((List.range 26).filter fun j => !decide (j = 18)).map fun j => ("a" : Str) ++ sgn j
theorem eqv_words : ∀ ws : List Str, PyData.eqvAll (ws.map PyData.str) (ws.map PyData.str) = true
  | [] => eqv_nn
  | x :: r => by rw [List.map_cons, eqv_cc, eqv_ss, eqv_words r]; simp
theorem due_wok : ∀ x ∈ due51, Wok x := fun x hx => by
  have : ∀ x ∈ due51, isNameD (.str x) = true := by decide +kernel
  exact wok_Wok (this x hx)
theorem abc_sgn {i c : Nat} (h : ("abcdefghijklmnopqrstuvwxyz" : Str).cps[i]? = some c) : i < 26 ∧ (⟨#[c]⟩ : Str) = sgn i := by
  have hi : i < 26 := by
    have := (Array.getElem?_eq_some_iff.mp h).1
    have e : ("abcdefghijklmnopqrstuvwxyz" : Str).cps.size = 26 := by decide +kernel
    omega
  have := abc_at i hi
  rw [Array.getElem?_toList, h] at this
  cases this
  exact ⟨hi, rfl⟩
theorem sgn_s {i : Nat} (h : i < 26) : (!decide (V.str (sgn i) = V.str "s")) = !decide (i = 18) := by
  have key : ∀ i < 26, (decide (sgn i = ("s" : Str))) = decide (i = 18) := by decide +kernel
  rw [← key i h]
  congr 1
  by_cases c : sgn i = "s"
  · rw [decide_eq_true c, decide_eq_true (by rw [c])]
  · rw [decide_eq_false c, decide_eq_false (fun z => c (by injection z))]
theorem fst51 : (fstN 64).take 51 = due51 := by decide +kernel
section
variable {P : Program} {w : World} {K : PySem.W.Frag} {mg : Str → Option Value} {base : Heap} {C CK CN CC fI gN : Addr}
abbrev s__law_is_wide_right : Stmt := topS 68
abbrev N__law_is_wide_right : List Str := ["_law_letters", "_law_wide", "_law_named", "_law_due", "_law_k", "_law_letter"]
theorem sc__law_is_wide_right : FnScope N__law_is_wide_right [] (defScope s__law_is_wide_right) := ⟨rfl, rfl, rfl, by decide +kernel, rfl, by decide +kernel, by decide +kernel⟩
def spWide : Sp := fun vs H Q _ => vs = [] ∧ ∀ H', Same H H' → Q (.bl true) H'
theorem ok_wide {f : Addr} {fd : FuncData} (F : Fun K "_law_is_wide_right" "_law_is_wide_right" s__law_is_wide_right f fd) (SC : ScK K mg C fI) (B : Bl mg) (BM_named : BMeth K C "named" gN)
    (D_named : FnR P w K mg base CX0 13 gN (spNamed C)) (D_Scheme : FnR P w K mg base (L2.CX P w) 6 fI (spStar 2 (spInit C CK CN))) : FnOk P w K mg base CX0 14 f fd [] spWide := by
  refine F.ok sc__law_is_wide_right (fun vs H Q E h => ?_) (fun cdv A outer s H vs Q E hr h => ?_)
  · obtain ⟨rfl, _⟩ := h
    rfl
  obtain ⟨rfl, k⟩ := h
  have hr_named : Room 13 _ := hr
  have hr_Scheme : Room 7 _ := hr.mono (by decide)
  have hu64 := hr.units
  refine ⟨_, (pss_cons (ps_set (i := 0) sc__law_is_wide_right.nd rfl (Or.inr rfl) pe_str)
  (pss_cons (ps_set (i := 1) sc__law_is_wide_right.nd rfl (Or.inr rfl) (pe_lc (own := [("_law_k", 4)]) rfl sc__law_is_wide_right.nd (pi_range1 (by rfl) B.range (pa_cons pe_int pa_nil)) (blkOk_by (N := N__law_is_wide_right) (sc := (defScope s__law_is_wide_right)) (own := [("_law_k", 4)]) (by decide +kernel)) (fun _ _ _ _ _ => (pg_name (i := 4) sc__law_is_wide_right.nd rfl (Or.inl rfl))) (fun _ _ _ _ _ => pts_nil) (fun _ _ _ _ _ => (pe_tup (pa_cons pe_str (pa_cons (pe_op op_add_str (pe_op op_add_str pe_str (pe_ix ix_str (pv 0) (pe_op op_fdivN (pv 4) pe_int) (fun _ _ => rfl))) (pe_ix ix_str (pv 0) (pe_op op_sub (pv 4) (pe_op op_mul (pe_op op_fdivN (pv 4) pe_int) pe_int)) (fun _ _ => rfl))) pa_nil))))))
  (pss_cons (ps_while PassesOwn.never (pt_cmpR op_gt (pe_callB call_len (by rfl) B.len PySem.boot_len (pa_cons (pv 1) pa_nil)) pe_int (nomark _))
  (pss_one (ps_set (i := 1) sc__law_is_wide_right.nd rfl (Or.inr rfl) (pe_lc (own := [("_law_k", 4)]) rfl sc__law_is_wide_right.nd (pi_range1 (by rfl) B.range (pa_cons (pe_op op_fdivN (pe_callB call_len (by rfl) B.len PySem.boot_len (pa_cons (pv 1) pa_nil)) pe_int) pa_nil)) (blkOk_by (N := N__law_is_wide_right) (sc := (defScope s__law_is_wide_right)) (own := [("_law_k", 4)]) (by decide +kernel)) (fun _ _ _ _ _ => (pg_name (i := 4) sc__law_is_wide_right.nd rfl (Or.inl rfl))) (fun _ _ _ _ _ => pts_nil) (fun _ _ _ _ _ => (pe_tup (pa_cons pe_str (pa_cons (pe_ix (show IxR _ (rIxL K) from ix_list) (pv 1) (pe_op op_mul pe_int (pv 4)) (fun _ _ => rfl)) (pa_cons (pe_ix (show IxR _ (rIxL K) from ix_list) (pv 1) (pe_op op_add (pe_op op_mul pe_int (pv 4)) pe_int) (fun _ _ => rfl)) pa_nil)))))))))
  (pss_cons (ps_set (i := 2) sc__law_is_wide_right.nd rfl (Or.inl rfl) (L2.pe_fld (pe_methR0 (pe_makeR SC.mke D_Scheme hr_Scheme (by rfl) SC.hm (passes_call LamX.takes0 fun _ _ _ _ h => h) (pa_cons (pe_ix ix_list (pv 1) pe_int (fun _ _ => rfl)) pa_nil)) SC.cl BM_named.mt D_named hr_named pass0) rfl))
  (pss_cons (ps_set (i := 3) sc__law_is_wide_right.nd rfl (Or.inl rfl) (pe_op op_cat (pe_lc (own := [("_law_letter", 5)]) rfl sc__law_is_wide_right.nd (pi_str (pv 0)) (blkOk_by (N := N__law_is_wide_right) (sc := (defScope s__law_is_wide_right)) (own := [("_law_letter", 5)]) (by decide +kernel)) (fun _ _ _ _ _ => (pg_name (i := 5) sc__law_is_wide_right.nd rfl (Or.inl rfl))) (fun _ _ _ _ _ => pts_nil) (fun _ _ _ _ _ => (pv 5))) (pe_lc (own := [("_law_letter", 5)]) rfl sc__law_is_wide_right.nd (pi_str (pv 0)) (blkOk_by (N := N__law_is_wide_right) (sc := (defScope s__law_is_wide_right)) (own := [("_law_letter", 5)]) (by decide +kernel)) (fun _ _ _ _ _ => (pg_name (i := 5) sc__law_is_wide_right.nd rfl (Or.inl rfl))) (fun _ _ _ _ _ => (pts_one (pt_cmpR op_ne (pv 5) pe_str (nomark _)))) (fun _ _ _ _ _ => (pe_op op_add_str pe_str (pv 5))))))
  (pss_one (ps_ret (pe_and (pe_cmpR (op_eqD hu64) (pe_slice sl_list (pe_callTy call_list_of (by rfl) B.list (by decide +kernel) (pa_cons (pv 2) pa_nil)) po_none (po_some pe_int)) (pv 3) (nomark _)) (pe_one (pe_cmpR op_eq (pe_callB call_len (by rfl) B.len PySem.boot_len (pa_cons (pv 2) pa_nil)) pe_int (nomark _))))))))))), ?_⟩
  refine ⟨64, rfl, by decide, by decide, fun D hD => ?_⟩
  refine lc_range (lo := 0) (n := 64) (fun i H' => Same H H' ∧ ∃ vs, H' D = some (.lst vs) ∧ KdsAt H' vs ((List.range i).map fun k => .var (qw k))) ⟨same_new hD, [], upd_same, .nil⟩ (fun i H1 hi ⟨s1, vs, g1, k1⟩ => ⟨rfl, ?_⟩) (fun H2 ⟨s2, vs, g2, k2⟩ => ?_)
  · have fd : ((0 : Int) + (i : Int)).fdiv 26 = ((i / 26 : Nat) : Int) := by
      rw [Int.fdiv_eq_ediv_of_nonneg _ (by decide)]
      omega
    have e2 : (0 : Int) + (i : Int) - ((0 : Int) + (i : Int)).fdiv 26 * 26 = ((i - i / 26 * 26 : Nat) : Int) := by
      rw [fd]
      omega
    refine ⟨_, rfl, _, rfl, _, _, rfl, rfl, ⟨by decide, by decide⟩, "abcdefghijklmnopqrstuvwxyz", _, _, rfl, rfl, slz rfl, at_ofG fd (abc_at _ (by omega)), _, _, rfl, rfl, slz rfl, ?_⟩
    refine ⟨_, rfl, _, rfl, _, rfl, _, _, rfl, rfl, ⟨by decide, by decide⟩, _, _, rfl, rfl, .inr ⟨by decide, by decide⟩, _, _, rfl, rfl, "abcdefghijklmnopqrstuvwxyz", _, _, rfl, rfl, slz rfl, at_ofG e2 (abc_at _ (by omega)), _, _, rfl, rfl, slz rfl, slz rfl, fun q hq => ?_⟩
    have s2 := same_new (o := .tup [.str "var", .str (qw i)]) hq
    have g2 := s2 _ _ g1
    have gq : (upd H1 q (.tup [.str "var", .str (qw i)])) q = some (.tup [.str "var", .str (qw i)]) := upd_same
    have lv : vs.length = i := by rw [Paired.length k1, List.length_map, List.length_range]
    refine ⟨vs, g2, szl (by omega), fun b o e => ?_, vs ++ [.ref q], upd_same, ?_⟩
    · rw [upd_ne (ne_of_none e hD)]
      exact s2 _ _ (s1 _ _ e)
    · have tp : Tups (upd H1 q (.tup [.str "var", .str (qw i)])) (upd (upd H1 q (.tup [.str "var", .str (qw i)])) D (.lst (vs ++ [.ref q]))) := Tups.put g2 nofun
      rw [List.range_succ, List.map_append]
      exact Paired.snoc (KdsAt.tups ((same_tups s2).trans tp) k1) ⟨q, rfl, tp _ _ gq⟩
  · refine ⟨fun m σ H' => ∃ (n : Nat) (D : Addr) (vs : List V), σ = [some (.str "abcdefghijklmnopqrstuvwxyz"), some (.ref D), none, none, none, none] ∧ Same H H' ∧ H' D = some (.lst vs) ∧ KdsAt H' vs (wl n) ∧ n ≤ 6 ∧ m = 6 - n, ⟨6, 0, D, vs, rfl, s2, g2, k2, by decide, rfl⟩, ?_⟩
    rintro m σ H3 ⟨n, D1, vs1, rfl, s3, g3, k3, hn, rfl⟩
    have lw : vs1.length = 64 / 2 ^ n := by rw [Paired.length k3, wl_len n hn]
    refine ⟨_, rfl, _, _, rfl, .inl ⟨_, SqL.of g3, rfl⟩, _, _, rfl, rfl, _, rfl, ?_⟩
    by_cases c6 : n = 6
    · subst c6
      have l1 : vs1.length = 1 := lw
      refine iF (decide_eq_false (by omega)) ?_
      rw [wl_six] at k3
      obtain ⟨u, rfl⟩ : ∃ u, vs1 = [u] := by
        match vs1, l1 with
        | [u], _ => exact ⟨u, rfl⟩
      have hu : KdAt H3 u wide := by
        cases k3 with
        | cons a _ => exact a
      have wf := wl_fit 6 (by decide) wide (by rw [wl_six]; exact List.mem_singleton.mpr rfl)
      have wf8 : wide.fit 8 := Kd.fit_mono (by decide) wf.1
      have nn : ∀ nd ∈ ([] : List Nd), Nok nd := fun _ q => nomatch q
      refine ⟨_, rfl, D1, _, 0, _, rfl, rfl, SqL.of g3, at_ofG (j := 0) rfl rfl, ?_⟩
      show ∀ x dx, _ → _ → _ → spStar 2 (spInit C CK CN) [V.ref x, u] _ _ E0
      refine init_mkA (t := D1) (us := []) (mkw_of (us := []) hu .nil wf8 nn) (by simp) (mkout_of (us := []) hu .nil wf8 wf.2 nn (by simp) fun H4 x p s4 hx sch _ ea => ?_)
      cases ea
      obtain ⟨dx, fs, r, gx, f', gr⟩ := id sch.ex
      refine ⟨x, dx, fs, rfl, gx, f'.nn, x, p, u, [], wide, [], rfl, sch, wf8, wf.2, nn, by simp, by rw [wide_vars]; decide, fun H5 y p5 v5 us5 s5 hy sch5 => ?_⟩
      obtain ⟨dx5, fs5, r5, gx5, f5, gr5⟩ := sch5.ex
      rw [wide_vars, List.map_nil, wide_named] at gr5
      have S5 := s3.trans (s4.trans s5)
      refine ⟨y, C, dx5, fs5, .ref r5, rfl, gx5, SC.cl, SC.nv, f5.vars, ?_⟩
      clear sch5 f5 gx5 sch gx
      refine ⟨_, rfl, "abcdefghijklmnopqrstuvwxyz", rfl, fun Da hDa => lc_it walk_str (fun i H' => Same H5 H' ∧ H' Da = some (.lst (((List.range i).map sgn).map V.str))) ⟨same_new hDa, upd_same⟩ (fun _ _ _ _ => trivial) ?_ ?_⟩
      · rintro i y6 H6 H7 hi ⟨s6, g6⟩ ⟨rfl, c, ec, rfl⟩
        obtain ⟨hi26, es⟩ := abc_sgn ec
        refine ⟨rfl, ?_⟩
        refine ⟨_, rfl, _, g6, szl (by rw [List.length_map, List.length_map, List.length_range]; omega), fun b o e => ?_, ?_⟩
        · rw [upd_ne (ne_of_none e hDa)]
          exact s6 _ _ e
        · rw [upd_same, List.range_succ, List.map_append, List.map_append, es]
          rfl
      have ez : ("abcdefghijklmnopqrstuvwxyz" : Str).cps.size = 26 := by decide +kernel
      rintro H6 ⟨s6, g6⟩
      rw [ez] at g6
      refine ⟨_, rfl, "abcdefghijklmnopqrstuvwxyz", rfl, fun Db hDb => lc_it walk_str (fun i H' => Same H6 H' ∧ H' Db = some (.lst ((((List.range i).filter fun j => !decide (j = 18)).map fun j => ("a" : Str) ++ sgn j).map V.str))) ⟨same_new hDb, upd_same⟩ (fun _ _ _ _ => trivial) ?_ ?_⟩
      · rintro i y7 H7 H8 hi ⟨s7, g7⟩ ⟨rfl, c, ec, rfl⟩
        obtain ⟨hi26, es⟩ := abc_sgn ec
        refine ⟨rfl, ?_⟩
        have lf : (((List.range i).filter fun j => !decide (j = 18)).map fun j => ("a" : Str) ++ sgn j).length ≤ 26 := by
          rw [List.length_map]
          have := List.length_filter_le (fun j => !decide (j = 18)) (List.range i)
          rw [List.length_range] at this
          omega
        refine ⟨_, rfl, rfl, _, rfl, ?_⟩
        rw [es, sgn_s hi26]
        cases h18 : (!decide (i = 18)) with
        | true =>
          refine iT rfl ?_
          refine ⟨_, rfl, _, _, rfl, rfl, slz rfl, _, g7, szl (by rw [List.length_map]; omega), fun b o e => ?_, ?_⟩
          · rw [upd_ne (ne_of_none e hDb)]
            exact s7 _ _ e
          · rw [upd_same, List.range_succ, List.filter_append, List.filter_cons, if_pos h18]
            simp
        | false =>
          refine iF rfl ?_
          refine ⟨s7, ?_⟩
          rw [List.range_succ, List.filter_append, List.filter_cons, if_neg (by rw [h18]; decide)]
          simp only [List.filter_nil, List.append_nil]
          exact g7
      rintro H7 ⟨s7, g7⟩
      rw [ez] at g7
      refine ⟨Da, Db, _, _, rfl, rfl, s7 _ _ g6, g7, by rw [sizeLine_eq, List.length_map, List.length_map]; exact Nat.le_trans (show _ ≤ 100 by decide +kernel) (by omega), fun Dc hDc => ?_⟩
      have s8 := same_new (o := .lst (((List.range 26).map sgn).map V.str ++ (((List.range 26).filter fun j => !decide (j = 18)).map fun j => ("a" : Str) ++ sgn j).map V.str)) hDc
      have g8 : (upd H7 Dc (.lst (((List.range 26).map sgn).map V.str ++ (((List.range 26).filter fun j => !decide (j = 18)).map fun j => ("a" : Str) ++ sgn j).map V.str))) Dc = some (.lst (due51.map V.str)) := by
        rw [show due51.map V.str = ((List.range 26).map sgn).map V.str ++ (((List.range 26).filter fun j => !decide (j = 18)).map fun j => ("a" : Str) ++ sgn j).map V.str from List.map_append ..]
        exact upd_same
      generalize upd H7 Dc (.lst (((List.range 26).map sgn).map V.str ++ (((List.range 26).filter fun j => !decide (j = 18)).map fun j => ("a" : Str) ++ sgn j).map V.str)) = H8 at s8 g8 ⊢
      have S8 := s6.trans (s7.trans s8)
      have gr8 := S8 _ _ gr5
      refine ⟨_, rfl, r5, _, rfl, .inr (SqT.of gr8), fun l hl => ?_⟩
      have s9 := same_new (o := .lst ((fstN 64).map V.str)) hl
      refine ⟨_, rfl, l, _, rfl, SqL.of upd_same, fun p9 hp9 => ?_⟩
      have s10 := s9.trans (same_new (o := .lst (cutV ((fstN 64).map V.str) none (some 51))) hp9)
      have g10 : (upd (upd H8 l (.lst ((fstN 64).map V.str))) p9 (.lst (cutV ((fstN 64).map V.str) none (some 51)))) p9 = some (.lst (due51.map V.str)) := by
        rw [show cutV ((fstN 64).map V.str) none (some 51) = due51.map V.str by rw [show (51 : Int) = ((51 : Nat) : Int) from rfl, cut_take, ← List.map_take, fst51]]
        exact upd_same
      generalize upd (upd H8 l (.lst ((fstN 64).map V.str))) p9 (.lst (cutV ((fstN 64).map V.str) none (some 51))) = H10 at s10 g10 ⊢
      refine ⟨_, rfl, .list (due51.map PyData.str), .list (due51.map PyData.str), .lst (SqL.of g10) (dp_words _), .lst (SqL.of (s10 _ _ g8)) (dp_words _), shaped_words due_wok, shaped_words due_wok, _, rfl, iT ?_ ?_⟩
      · rw [eqv_ll]
        exact eqv_words _
      refine ⟨_, rfl, _, 64, rfl, .inr ⟨_, SqT.of (s10 _ _ gr8), ?_⟩, rfl, ?_⟩
      · rw [List.length_map]
        exact (fst_len (by decide)).symm
      · exact k _ (S5.trans (S8.trans s10))
    · have ge2 : 2 ≤ vs1.length := by
        rw [lw]
        have : n = 0 ∨ n = 1 ∨ n = 2 ∨ n = 3 ∨ n = 4 ∨ n = 5 := by omega
        rcases this with rfl | rfl | rfl | rfl | rfl | rfl <;> decide
      refine iT (decide_eq_true (by omega)) ?_
      refine ⟨fun σ' H' => ∃ (D : Addr) (vs : List V), σ' = [some (.str "abcdefghijklmnopqrstuvwxyz"), some (.ref D), none, none, none, none] ∧ Same H H' ∧ H' D = some (.lst vs) ∧ KdsAt H' vs (wl (n + 1)), ?_, ?_⟩
      · rintro σ' H' ⟨D, vs, e1, e2, e3, e4⟩
        exact ⟨6 - (n + 1), by omega, n + 1, D, vs, e1, e2, e3, e4, by omega, rfl⟩
      have fd : ((vs1.length : Nat) : Int).fdiv 2 = ((vs1.length / 2 : Nat) : Int) := by
        rw [Int.fdiv_eq_ediv_of_nonneg _ (by decide)]
        omega
      have lw1 : (wl n).length = vs1.length := (Paired.length k3).symm
      have l64 : vs1.length ≤ 64 := by
        rw [lw]
        exact Nat.div_le_self _ _
      refine ⟨_, rfl, _, _, rfl, .inl ⟨_, SqL.of g3, rfl⟩, _, _, rfl, rfl, ⟨by decide, by decide⟩, ((vs1.length / 2 : Nat) : Int), by show [V.int (((vs1.length : Nat) : Int).fdiv 2)] = _; rw [fd], by omega, by omega, fun D2 hD2 => ?_⟩
      refine lc_range (lo := 0) (n := vs1.length / 2) (fun i H' => Same H3 H' ∧ ∃ vs, H' D2 = some (.lst vs) ∧ KdsAt H' vs ((List.range i).map fun k => .app ((wl n).getD (2 * k) (.con "")) ((wl n).getD (2 * k + 1) (.con "")))) ⟨same_new hD2, [], upd_same, .nil⟩ (fun i H4 hi ⟨s4, vs, g4, k4⟩ => ⟨rfl, ?_⟩) (fun H4 ⟨s4, vs, g4, k4⟩ => ?_)
      · have g34 := s4 _ _ g3
        obtain ⟨x1, hx1⟩ : ∃ x1, vs1[2 * i]? = some x1 := ⟨_, List.getElem?_eq_getElem (by omega)⟩
        obtain ⟨x2, hx2⟩ : ∃ x2, vs1[2 * i + 1]? = some x2 := ⟨_, List.getElem?_eq_getElem (by omega)⟩
        obtain ⟨y1, hy1, hk1⟩ := paired_get k3 hx1
        obtain ⟨y2, hy2, hk2⟩ := paired_get k3 hx2
        refine ⟨_, rfl, _, rfl, _, _, rfl, rfl, .inl ⟨by decide, by decide⟩, D1, _, _, _, rfl, rfl, SqL.of g34, at_ofG (j := 2 * i) (by omega) hx1, ?_⟩
        refine ⟨_, rfl, _, rfl, _, _, rfl, rfl, .inl ⟨by decide, by decide⟩, _, _, rfl, rfl, D1, _, _, _, rfl, rfl, SqL.of g34, at_ofG (j := 2 * i + 1) (by omega) hx2, slz rfl, fun q hq => ?_⟩
        have s5 := same_new (o := .tup [.str "apply", x1, x2]) hq
        have g5 := s5 _ _ g4
        have gq : (upd H4 q (.tup [.str "apply", x1, x2])) q = some (.tup [.str "apply", x1, x2]) := upd_same
        have lv : vs.length = i := by rw [Paired.length k4, List.length_map, List.length_range]
        refine ⟨vs, g5, szl (by omega), fun b o e => ?_, vs ++ [.ref q], upd_same, ?_⟩
        · rw [upd_ne (ne_of_none e hD2)]
          exact s5 _ _ (s4 _ _ e)
        · have tp : Tups (upd H4 q (.tup [.str "apply", x1, x2])) (upd (upd H4 q (.tup [.str "apply", x1, x2])) D2 (.lst (vs ++ [.ref q]))) := Tups.put g5 nofun
          have tq := ((same_tups s4).trans (same_tups s5)).trans tp
          rw [List.range_succ, List.map_append]
          refine Paired.snoc (KdsAt.tups ((same_tups s5).trans tp) k4) ⟨q, x1, x2, rfl, tp _ _ gq, ?_, ?_⟩
          · rw [List.getD_eq_getElem?_getD, hy1]
            exact hk1.tups tq
          · rw [List.getD_eq_getElem?_getD, hy2]
            exact hk2.tups tq
      · refine ⟨D2, vs, rfl, s3.trans s4, g4, ?_⟩
        rw [wl, lw1]
        exact k4
end
end L3

/-! a law that shows values and whose defs make lambdas: its end, with the tables of their code objects -/
namespace L3
open PySem PySem.Spec PyProof.Rows L2 LamX
section
variable {P : Program} {w : World} {K : PySem.W.Frag} {mg mb : Str → Option Value} {fa a : Addr} {ts : List Addr} {fd : FuncData} {x : Str} {sp : List V → Hp → VK → Prop} {s1 : Shared} {vs : List Value} {ns : List Int}
/-- tracked ahead of the law: the script, frozen, and the tables -/
abbrev OnlyT (ts : List Addr) (H : Hp) : Prop := ∀ b, b ∈ ts ∨ H b = none ∨ ∃ o xs, H b = some (.frz o (.lst xs))
theorem law_coreTs (inK : K.In s1.heap) (gl : s1.heap.Ns mainGlobals mg) (bi : s1.heap.Ns builtinsNs mb) (bb : ∀ y : Str, y ≠ "__name__" → mb y = bootBuiltins y) (nl : s1.heap.NoLimit) (ng : s1.gens = #[])
    (ob : s1.heap.get? a = some { cls := .type "list", data := .seq vs.toArray }) (tb : ∀ p ∈ ts, s1.heap.get? p = some { cls := .none, data := .fields #[] }) (off2 : ∀ p ∈ ts, K.lookup p = none) (ch : ∀ p ∈ ts, ∃ cA, PySem.W.CodeHd s1.heap cA p)
    (bm : ∃ (m : Addr) (om : Obj), mg "__builtins__" = some (.ref m) ∧ m ≠ builtinsNs ∧ s1.heap.get? m = some om ∧ om.cls = .type "module" ∧ om.dict = some builtinsNs ∧ om.data = .plain)
    (run : ∀ base : Heap, K.In base → base.Ns mainGlobals mg → (∀ p ∈ ts, ∀ cA, PySem.W.CodeHd s1.heap cA p → TabB base mg cA p) → LawRun P w K mg base fa fd x sp)
    (bind : ∀ (s : Shared) (u : Value), BindsTo s fd ⟨[u], []⟩ [(x, u)]) (want : ∀ H : Hp, (∀ p ∈ ts, H p = some (.tbl #[])) → SqL K H a (ns.map V.int) → sp [.ref a] H (fun v _ => v = .bl true))
    (H : Hp) (hP : ∀ p ∈ ts, H p = some (.tbl #[])) (hO : OnlyT ts H) (hS : SqL K H a (ns.map V.int)) (ok : HOk P w H s1.heap) (alone : ∀ b, H b ≠ none → b = a ∨ b ∈ ts) (off : H a ≠ none → K.lookup a = none) :
    codeAny (model P w) callerA (.call (.ref fa) ⟨[.ref a], []⟩) (LawEnd s1) s1 := by
  have hid : ∀ {b : Addr} {o : Obj}, s1.heap.get? b = some o → H b = none → (hidT s1.heap H).get? b = some o := fun z n => hidT_get z n
  -- what is neither a list nor an empty table is not tracked
  have free : ∀ {b : Addr} {o : Obj}, s1.heap.get? b = some o → (∀ us n, o.data ≠ .seq us n) → o.data ≠ .fields #[] → H b = none := by
    intro b o z n1 n2
    cases q : H b with
    | none => rfl
    | some u =>
      rcases alone b (by rw [q]; simp) with e | e
      · subst e
        rw [ob] at z
        cases z
        exact absurd rfl (n1 _ _)
      · rw [tb b e] at z
        cases z
        exact absurd rfl n2
  have nsH : ∀ {b : Addr} {m : Str → Option Value}, s1.heap.Ns b m → (hidT s1.heap H).Ns b m := by
    rintro b m ⟨o, es, ep, z, dd, r⟩
    exact ⟨o, es, ep, hid z (free z (fun us n y => by rw [dd] at y; cases y) (fun y => by rw [dd] at y; cases y)), dd, r⟩
  have inH : K.In (hidT s1.heap H) := by
    intro b o z
    refine hid (inK b o z) ?_
    cases q : H b with
    | none => rfl
    | some u =>
      rcases alone b (by rw [q]; simp) with e | e
      · subst e
        rw [off (by rw [q]; simp)] at z
        cases z
      · rw [off2 b e] at z
        cases z
  have md : Mod K mg (hidT s1.heap H) := by
    obtain ⟨mc, z1, z2⟩ := nl
    exact ⟨inH, nsH gl, ⟨mb, nsH bi, bb⟩, ⟨mc, nsH z1, z2⟩⟩
  have tB : ∀ p ∈ ts, ∀ cA, PySem.W.CodeHd s1.heap cA p → TabB (hidT s1.heap H) mg cA p := by
    intro p hp cA ch
    have tb := tb p hp
    constructor
    · obtain ⟨o, us, f1, f2, f3, f4, f5, f6, f7, z, c1, c2, c3, c4⟩ := ch
      refine ⟨o, us, f1, f2, f3, f4, f5, f6, f7, hid z (free z (fun xs n y => by rw [c2] at y; cases y) fun y => ?_), c1, c2, c3, c4⟩
      rw [c2] at y
      injection y with y
      rw [y] at c3
      cases c3
    · obtain ⟨m, om, b1, b2, b3, b4, b5, b6⟩ := bm
      have n1 : m ≠ mainGlobals := by
        rintro rfl
        obtain ⟨o, es, ep, z, dd, _⟩ := gl
        rw [z] at b3
        cases b3
        rw [dd] at b6
        cases b6
      have n2 : m ≠ p := by
        rintro rfl
        rw [tb] at b3
        cases b3
        cases b6
      exact ⟨m, om, b1, b2, n1, n2, hid b3 (free b3 (fun us n y => by rw [b6] at y; cases y) fun y => by rw [b6] at y; cases y), b4, b5, b6⟩
    · rintro rfl
      obtain ⟨o, es, ep, z, dd, _⟩ := gl
      rw [tb] at z
      cases z
      cases dd
  have e0 : Env0 P w K mg (hidT s1.heap H) callerA [] s1 H := by
    refine ⟨rfl, md, fun b o z => of_hidT z, Nat.le_of_eq (hidT_size _ _), trivial, ?_, ok, .of_eq ng⟩
    intro b hb
    exact nomatch (show b ∈ ([] : List Addr) from hb)
  refine codeAny_mono (run _ inH (nsH gl) tB s1 H ⟨[.ref a], []⟩ (.ref a) (.ref a) _ e0 (bind s1 (.ref a)) rfl (want H hP hS)) fun r s' h => ?_
  cases r with
  | error e => exact h.elim
  | ok fl =>
    cases fl with
    | next => exact h.elim
    | brk => exact h.elim
    | cont => exact h.elim
    | ret u =>
      obtain ⟨v, H', os, bare, un, ok', r', q⟩ := h
      obtain rfl : v = .bl true := q
      obtain rfl : u = Value.bool true := r'
      have rest : ∀ b o, b ∉ ts → s1.heap.get? b = some o → s'.heap.get? b = some o := by
        intro b o nb z
        cases q : H b with
        | none => exact un.keep b o z q (fun y => nomatch (show b ∈ ([] : List Addr) from y)) (fun y => nomatch y)
        | some u =>
          rcases hO b with y | y | ⟨o2, xs, y⟩
          · exact absurd y nb
          · rw [q] at y
            cases y
          · obtain ⟨z1, _⟩ := ok b _ y
            obtain ⟨z2, _⟩ := ok' b _ (un.frzs b o2 _ y)
            rw [z] at z1
            cases z1
            exact z2
      have gm : ∀ p ∈ ts, ∃ more : Array Value, s'.heap.get? p = some { cls := .none, data := .fields more } := fun p hp => by
        obtain ⟨m, z⟩ := un.tbls p #[] (hP p hp)
        exact ⟨_, ok' p _ z⟩
      refine ⟨rfl, ⟨fun b o z => ?_, fun b o z => ?_⟩, os, bare⟩
      · by_cases e : b ∈ ts
        · obtain ⟨more, g⟩ := gm b e
          obtain ⟨cA, c⟩ := ch b e
          rw [tb b e] at z
          cases z
          refine .inr (.inl ⟨(c.tab (tb b e)).isCodeTable, rfl, #[], more, rfl, ?_⟩)
          rw [g, Array.empty_append]
        · exact .inl (rest b o e z)
      · by_cases e : b ∈ ts
        · obtain ⟨more, g⟩ := gm b e
          exact ⟨_, g⟩
        · exact ⟨o, rest b o e z⟩
/-- the heap that tracks the tables -/
def tabH (ts : List Addr) : Hp := fun b => if b ∈ ts then some (.tbl #[]) else none
theorem tabH_in {ts : List Addr} {p : Addr} (h : p ∈ ts) : tabH ts p = some (.tbl #[]) := if_pos h
theorem tabH_out {ts : List Addr} {p : Addr} (h : p ∉ ts) : tabH ts p = none := if_neg h
theorem law_callGTs (inK : K.In s1.heap) (gl : s1.heap.Ns mainGlobals mg) (bi : s1.heap.Ns builtinsNs mb) (bb : ∀ y : Str, y ≠ "__name__" → mb y = bootBuiltins y) (nl : s1.heap.NoLimit) (ng : s1.gens = #[])
    (ob : s1.heap.get? a = some { cls := .type "list", data := .seq vs.toArray }) (tb : ∀ p ∈ ts, s1.heap.get? p = some { cls := .none, data := .fields #[] }) (off2 : ∀ p ∈ ts, K.lookup p = none) (ch : ∀ p ∈ ts, ∃ cA, PySem.W.CodeHd s1.heap cA p)
    (bm : ∃ (m : Addr) (om : Obj), mg "__builtins__" = some (.ref m) ∧ m ≠ builtinsNs ∧ s1.heap.get? m = some om ∧ om.cls = .type "module" ∧ om.dict = some builtinsNs ∧ om.data = .plain)
    (hi : IntsAre vs ns) (hl : ns.length ≤ sizeLine) (run : ∀ base : Heap, K.In base → base.Ns mainGlobals mg → (∀ p ∈ ts, ∀ cA, PySem.W.CodeHd s1.heap cA p → TabB base mg cA p) → LawRun P w K mg base fa fd x sp)
    (bind : ∀ (s : Shared) (u : Value), BindsTo s fd ⟨[u], []⟩ [(x, u)]) (want : ∀ H : Hp, (∀ p ∈ ts, H p = some (.tbl #[])) → SqL K H a (ns.map V.int) → sp [.ref a] H (fun v _ => v = .bl true)) :
    codeAny (model P w) callerA (.call (.ref fa) ⟨[.ref a], []⟩) (LawEnd s1) s1 := by
  have rv := vals_ints hi
  have nap : a ∉ ts := fun h => by
    have := tb a h
    rw [ob] at this
    cases this
  cases hk : K.lookup a with
  | some o =>
    have z := inK a o hk
    rw [ob] at z
    cases z
    refine law_coreTs inK gl bi bb nl ng ob tb off2 ch bm run bind want (tabH ts) (fun p hp => tabH_in hp) (fun b => ?_) (Or.inr ⟨_, vs.toArray, _, hk, rfl, rfl, rfl, by rw [List.size_toArray, hi.length]; exact hl, by simpa using rv⟩) (fun b u z => ?_) (fun b z => ?_) (fun z => absurd (tabH_out nap) z)
    · by_cases e : b ∈ ts
      · exact .inl e
      · exact .inr (.inl (tabH_out e))
    · by_cases e : b ∈ ts
      · rw [tabH_in e] at z
        cases z
        exact tb b e
      · rw [tabH_out e] at z
        cases z
    · by_cases e : b ∈ ts
      · exact .inr e
      · exact absurd (tabH_out e) z
  | none =>
    let fz : HO := .frz { cls := .type "list", data := .seq vs.toArray } (.lst (ns.map V.int))
    have at1 : upd (tabH ts) a fz a = some fz := upd_same
    have at2 : ∀ p ∈ ts, upd (tabH ts) a fz p = some (.tbl #[]) := fun p hp => by
      have n : p ≠ a := fun z => nap (by rw [← z]; exact hp)
      rw [upd_ne n, tabH_in hp]
    have at3 : ∀ b, b ≠ a → b ∉ ts → upd (tabH ts) a fz b = none := fun b h1 h2 => by rw [upd_ne h1, tabH_out h2]
    refine law_coreTs inK gl bi bb nl ng ob tb off2 ch bm run bind want _ at2 (fun b => ?_) (.inl (.inr ⟨_, at1⟩)) (fun b u z => ?_) (fun b z => ?_) fun _ => hk
    · by_cases e : b ∈ ts
      · exact .inl e
      · by_cases e2 : b = a
        · rw [e2, at1]
          exact .inr (.inr ⟨_, _, rfl⟩)
        · exact .inr (.inl (at3 b e2 e))
    · by_cases e : b = a
      · subst e
        rw [at1] at z
        cases z
        exact ⟨ob, by rw [List.length_map]; exact hl, vs, _, rv, ob⟩
      · by_cases e2 : b ∈ ts
        · rw [at2 b e2] at z
          cases z
          exact tb b e2
        · rw [at3 b e e2] at z
          cases z
    · by_cases e : b = a
      · exact .inl e
      · by_cases e2 : b ∈ ts
        · exact .inr e2
        · exact absurd (at3 b e e2) z
end
theorem walkXTs {l : PySem.W.OpenLaw} {n : Nat} {q : Program} {loose : List Str} {XP : (Str → Option Value) → Heap → Prop} {YP : World → Heap → Prop} {d : DefRec} {sp : PySem.W.Frag → List Addr → List V → Hp → VK → Prop} {x : Str}
    (hn : l.most = some n) (hn2 : n ≤ sizeLine) (hdf : d.params.defaults = [])
    (F : ∀ (w : World) (mg : Str → Option Value) (fa : Addr) (h : Heap), YP w h → h.Ns mainGlobals mg → mg d.name = some (.ref fa) →
      ∃ (K : PySem.W.Frag) (fd : FuncData) (ts : List Addr), K.In h ∧ (∀ p ∈ ts, h.get? p = some { cls := .none, data := .fields #[] }) ∧ (∀ p ∈ ts, K.lookup p = none) ∧ (∀ p ∈ ts, ∃ c, PySem.W.CodeHd h c p) ∧ (∀ (s : Shared) (u : Value), BindsTo s fd ⟨[u], []⟩ [(x, u)]) ∧ ∀ base : Heap, K.In base → base.Ns mainGlobals mg → (∀ p ∈ ts, ∀ c, PySem.W.CodeHd h c p → TabB base mg c p) → LawRun l.prog w K mg base fa fd x (sp K ts))
    (want : ∀ (K : PySem.W.Frag) (ts : List Addr) (H : Hp) (a : Addr) (ns : List Int), ns.length ≤ n → (∀ p ∈ ts, H p = some (.tbl #[])) → SqL K H a (ns.map V.int) → sp K ts [.ref a] H (fun v _ => v = .bl true)) : PySem.W.WalkO q loose XP YP l.row.toRowW d [] (fun f vs => PySem.call f vs) := by
  refine Att.attach_call hn hdf ?_
  intro w s0 s1 mg mb fa o pm cd doc a vs ns G Y ho hd hcd hmg hobj hints hlen hg
  obtain ⟨K, fd, ts, KX, tb, off, ch, hb, run⟩ := F w mg fa _ Y G.T.g hmg
  exact law_callGTs KX G.T.g G.T.b G.T.builtins G.T.nolimit hg hobj tb off ch G.T.bmain hints (Nat.le_trans hlen hn2) run hb (fun H hP hS => want _ _ H a ns hlen hP hS)
section
variable {P : Program} {w : World} {K : PySem.W.Frag} {mg : Str → Option Value} {base : Heap}
theorem lawRun_code {st : Stmt} {f : Addr} {fd : FuncData} {N : List Str} {k : Nat} {x : Str} {sp : List V → Hp → VK → Prop} {cA : Addr} (F : Fun K "law" "law" st f fd) (S : FnScope N [x] (defScope st)) (hroom : Room (k + 1) callerA) (hco : fd.code = .ref cA)
    (hbody : ∀ (s : Shared) (H : Hp) (v : V) (Q : VK), Room k (callerA.deeper (envOfC "law" (defScope st) s.heap.objs.size f (.ref cA))) → sp [v] H Q →
      ∃ t, PSs (cxOf CX0 P w K mg base N "law" (defScope st) f (.ref cA) callerA [] s H E0).nox (defBody st) t ∧ t { nx := fun _ H' => Q .non H', rt := Q } (start N [v]) H) : LawRun P w K mg base f fd x sp := by
  obtain ⟨oc, od, kV, doc, pm, an, cdv, ct, osl, rfl, lk, hcd⟩ := F.ex
  have ec : cdv = .ref cA := hco
  subst ec
  intro s H args u v Q e0 hb rv hsp
  have inK : K.In s.heap := e0.mod.kin.keeps fun b o z => (e0.bs b o z).1
  have noL : s.heap.NoLimit := e0.mod.nolimit.keeps fun b o z => (e0.bs b o z).1
  have kinds : ∀ y ∈ ([x].zip [u] : List (Str × Value)), (defScope st).names.lookup y.1 = some .local ∨ ((defScope st).names.lookup y.1 = some .cell ∧ ((cellsFrom (s.heap.objs.size + 1) (defScope st).names []).lookup y.1).isSome = true) := by
    rintro ⟨n, z⟩ hy
    rcases S.par n (List.of_mem_zip hy).1 with q | q
    · exact Or.inl q
    · exact Or.inr ⟨q, PySem.W.cellsFrom_some _ _ _ (Or.inl q)⟩
  refine codeAny_call_function (Room.depth hroom) (inK _ _ lk) rfl S.co S.gen rfl (PySem.W.codeRec_of inK hcd) (hb _ _ _ _ ?_)
  refine wpAny_newFunctionEnv_cells S.kind kinds fun env he s1 xx => ?_
  subst he
  refine ⟨noL.keeps xx.toInCall.keep, codeAny_func ?_⟩
  obtain ⟨t, ht, hq⟩ := hbody s H v Q (Room.deeper hroom _) hsp
  have J : Inv (cxOf CX0 P w K mg base N "law" (defScope st) f (.ref cA) callerA [] s H E0) [] (start N [v]) H s1 := inv_start S rfl e0 rfl (Paired.cons rv .nil) xx
  refine wpAny_mono ((PSs.nox ht).run [] s1 (start N [v]) H _ J hq) (fun fl s' hs => ?_) (fun e s' hs => hs)
  cases fl with
  | next =>
    obtain ⟨σ', H', J', q⟩ := hs
    exact ⟨V.non, H', J'.os, J'.bare, J'.base, J'.hok, rfl, q⟩
  | ret z =>
    obtain ⟨v', σ', H', J', rz, q⟩ := hs
    exact ⟨v', H', J'.os, J'.bare, J'.base, J'.hok, rz, q⟩
  | brk =>
    obtain ⟨_, _, _, q⟩ := hs
    exact q.elim
  | cont =>
    obtain ⟨_, _, _, q⟩ := hs
    exact q.elim
end
end L3

/-! sum of a list of lists, with a list to begin with -/
namespace L3
open PySem L2
theorem args_sum2 (a b : Value) : argsOk "sum" ⟨[a, b], []⟩ := by unfold argsOk; kernel_rfl
theorem sub_l_str : isSubtype (.type "list") (.type "str") = pure false := by rw [isSubtype_type]; kernel_rfl
theorem sub_l_bytes : isSubtype (.type "list") (.type "bytes") = pure false := by rw [isSubtype_type]; kernel_rfl
theorem sub_l_ba : isSubtype (.type "list") (.type "bytearray") = pure false := by rw [isSubtype_type]; kernel_rfl
section
variable {prog : Program} {w : World} {A : Around} {R : Result → Shared → Prop} {I l : Addr}
abbrev lobj (vs : List Value) (n : Nat) : Obj := { cls := .type "list", data := .seq vs.toArray n }
theorem sum_lists_loop {items : Array Value} (W : Walks prog w A.in1 I [I, l] [I] items.size (fun i v => items[i]? = some v) (fun i h => h.IsListIter I l i ∧ h.IsList l items)) (S : Addr) (hS0 : S ∉ [I, l]) (lv : List (List Value)) (hlen : lv.length = items.size)
    (loc : Nat → Addr) (cap : Nat → Nat) (hval : ∀ (i : Nat) (v : Value), items[i]? = some v → v = .ref (loc i)) (hI : ∀ i, loc i ≠ I ∧ loc i ≠ S) :
    ∀ (k i : Nat) (s : Shared) (T : Addr) (acc : List Value) (c n : Nat), items.size - i = k → i ≤ items.size → (s.heap.IsListIter I l i ∧ s.heap.IsList l items) →
      (∀ j xs, i ≤ j → lv[j]? = some xs → s.heap.get? (loc j) = some (lobj xs (cap j))) →
      s.heap.get? S = some { cls := .type "list", dict := none, data := .seq #[.ref T] c, slots := #[] } → s.heap.get? T = some (lobj acc n) → T ≠ I → T ≠ S → acc.length + (lv.drop i).flatten.length ≤ sizeLine →
      (∀ h' tk T', (∀ b o, b ≠ I → b ≠ S → s.heap.get? b = some o → h'.get? b = some o) → (k = 0 → T' = T) → (k ≠ 0 → I < T' ∧ ∃ m, h'.get? T' = some (lobj (acc ++ (lv.drop i).flatten) m)) → R (.ok (.ret (.ref T'))) { s with heap := h', toks := tk }) →
      codeAny (model prog w) A (.builtin "sum.loop" ⟨[.ref I, .ref S, rawInt 2, rawInt 0], []⟩) R s := by
  intro k
  induction k with
  | zero =>
    intro i s T acc c n hk hi hst hls hS hT nI nS hz hR
    have hin : i = items.size := by omega
    subst hin
    refine codeAny_builtin F.entry_sum_loop ?_
    rw [Around.under_plainId F.plain_sum_loop _]
    show wpAny _ A.in1 (seqItems? (.ref S) >>= _) _ _ s
    refine wpAny_bind (wpAny_seqItems hS rfl ?_)
    show wpAny _ A.in1 (tryCatch (pyNext (.ref I)) _ >>= _) _ _ s
    refine wpAny_bind (wpAny_tryCatch (W.done s _ _ hst fun h' tk hk' => ?_))
    exact wpAny_pure (hR h' tk T (fun b o h1 h2 e => hk' b o (fun z => h1 (List.mem_singleton.mp z)) e) (fun _ => rfl) (fun z => absurd rfl z))
  | succ k ih =>
    intro i s T acc c n hk hi hst hls hS hT nI nS hz hR
    have hlt : i < items.size := by omega
    refine codeAny_builtin F.entry_sum_loop ?_
    rw [Around.under_plainId F.plain_sum_loop _]
    show wpAny _ A.in1 (seqItems? (.ref S) >>= _) _ _ s
    refine wpAny_bind (wpAny_seqItems hS rfl ?_)
    show wpAny _ A.in1 (tryCatch (pyNext (.ref I)) _ >>= _) _ _ s
    refine wpAny_bind (wpAny_tryCatch (W.item i s _ _ hlt hst fun v h' tk hP hst' hk' => ?_))
    have ev := hval i v hP
    subst ev
    have nSI : S ≠ I := fun e => hS0 (by rw [e]; exact List.mem_cons_self)
    have keep : ∀ b o, b ≠ I → s.heap.get? b = some o → h'.get? b = some o := fun b o h1 e => hk' b o (fun z => h1 (List.mem_singleton.mp z)) e
    have hS' := keep S _ nSI hS
    have hT' := keep T _ nI hT
    have hli : i < lv.length := by omega
    obtain ⟨xs, hxs⟩ : ∃ xs, lv[i]? = some xs := ⟨lv[i], List.getElem?_eq_getElem hli⟩
    have hx := keep (loc i) _ (hI i).1 (hls i xs (Nat.le_refl _) hxs)
    have ed : lv.drop i = xs :: lv.drop (i + 1) := by
      rw [List.drop_eq_getElem_cons hli]
      congr 1
      exact Option.some.inj ((List.getElem?_eq_getElem hli).symm.trans hxs)
    have hz2 : acc.length + (xs.length + (lv.drop (i + 1)).flatten.length) ≤ sizeLine := by
      rw [ed, List.flatten_cons, List.length_append] at hz
      exact hz
    show wpAny _ A.in1 ((holding [Value.ref (loc i)] (binaryOp .Add (.ref T) (.ref (loc i)))).attempt >>= _) _ _ _
    refine wpAny_bind (wpAny_attempt (wpAny_holding (PySem.P.add_list (s := { s with heap := h', toks := tk }) hT' hx ?_ (by rw [List.size_toArray, List.size_toArray]; omega))))
    show wpAny _ A.in1 (updateSeq S (fun _ => #[.ref h'.objs.size]) >>= _) _ _ _
    have ea : acc.toArray ++ xs.toArray = (acc ++ xs).toArray := by simp
    rw [ea]
    have pk : ∀ b o, h'.get? b = some o → (h'.push (lobj (acc ++ xs) 0)).get? b = some o := fun b o e => Heap.get?_push_of_some _ e
    have hS2 := pk S _ hS'
    have hnew : (h'.push (lobj (acc ++ xs) 0)).get? h'.objs.size = some (lobj (acc ++ xs) 0) := Heap.get?_push_size _ rfl
    have ltI : I < h'.objs.size := by
      obtain ⟨⟨o, e, _⟩, _⟩ := hst'
      exact Heap.lt_size e
    have ltS : S < h'.objs.size := Heap.lt_size hS'
    refine wpAny_bind ?_
    refine wpAny_updateSeq hS2 rfl ?_
    have hS3 := Heap.get?_update_self (Obj.mapSeq fun _ => #[Value.ref h'.objs.size]) hS2 rfl
    refine wpAny_bind (wpAny_letGo ?_)
    refine wpAny_bind ?_
    refine wpAny_updateSeq hS3 rfl (wpAny_pure ⟨plainId_quiet F.plain_sum_loop _, ?_⟩)
    have far : ∀ b o, b ≠ S → (h'.push (lobj (acc ++ xs) 0)).get? b = some o → (((h'.push (lobj (acc ++ xs) 0)).update S (Obj.mapSeq fun _ => #[Value.ref h'.objs.size])).update S (Obj.mapSeq fun _ => #[Value.ref h'.objs.size])).get? b = some o := fun b o hb e => (Heap.get?_update_other _ _ (Ne.symm hb)).trans ((Heap.get?_update_other _ _ (Ne.symm hb)).trans e)
    refine ih (i + 1) _ h'.objs.size (acc ++ xs) _ 0 (by omega) hlt (W.frame _ _ _ hst' fun b hb o e => far b o (fun z => hS0 (by rw [← z]; exact hb)) (pk b o e)) (fun j ys hj hy => far _ _ (hI j).2 (pk _ _ (keep _ _ (hI j).1 (hls j ys (by omega) hy)))) (Heap.get?_update_self _ hS3 rfl) (far _ _ (Nat.ne_of_gt ltS) hnew) (Nat.ne_of_gt ltI) (Nat.ne_of_gt ltS) (by rw [List.length_append]; omega) fun h'' tk'' T' hk'' z0 z1 => ?_
    refine hR h'' tk'' T' (fun b o h1 h2 e => hk'' b o h1 h2 (far b o h2 (pk b o (keep b o h1 e)))) (fun z => nomatch z) fun _ => ?_
    cases k with
    | zero =>
      have e := z0 rfl
      subst e
      refine ⟨ltI, 0, ?_⟩
      have e0 : (lv.drop (i + 1)).flatten = [] := by
        rw [List.drop_eq_nil_of_le (by omega)]
        rfl
      rw [ed, List.flatten_cons, e0, List.append_nil]
      exact hk'' _ _ (Nat.ne_of_gt ltI) (Nat.ne_of_gt ltS) (far _ _ (Nat.ne_of_gt ltS) hnew)
    | succ k =>
      obtain ⟨q1, m, q2⟩ := z1 (by omega)
      refine ⟨q1, m, ?_⟩
      rw [ed, List.flatten_cons, ← List.append_assoc]
      exact q2
end
section
variable {prog : Program} {w : World} {A : Around} {E : Value → Shared → Prop} {s : Shared} {Q : Value → Shared → Prop} {l T : Addr}
theorem iter_l {items : Array Value} {Q : Value → Shared → Prop} (hl : s.heap.IsList l items)
    (h : ∀ s₂ : Shared, s₂ = { s with heap := s.heap.push { cls := .type "list_iterator", data := .fields #[.ref l, .int 0 0] } } →
      (s₂.heap.IsListIter s.heap.objs.size l 0 ∧ s₂.heap.IsList l items) → l ≠ s.heap.objs.size → Q (.ref s.heap.objs.size) s₂) :
    wpAny (model prog w) A (pyIter (.ref l)) Q E s := by
  have hlt : l < s.heap.objs.size := by obtain ⟨_, e, _⟩ := hl; exact Heap.lt_size e
  exact wpAny_pyIter_list hl (h _ rfl ⟨⟨_, Heap.get?_push_size _ rfl, rfl, rfl⟩, hl.push _⟩ (Nat.ne_of_lt hlt))
theorem sum_lists (hh : A.handled = none) {items : Array Value} {n : Nat} (hl : s.heap.IsList l items) (lv : List (List Value)) (hlen : lv.length = items.size)
    (loc : Nat → Addr) (cap : Nat → Nat) (hval : ∀ (i : Nat) (v : Value), items[i]? = some v → v = .ref (loc i)) (hin : ∀ i, loc i < s.heap.objs.size)
    (hls : ∀ i xs, lv[i]? = some xs → s.heap.get? (loc i) = some (lobj xs (cap i))) (hT : s.heap.get? T = some (lobj [] n)) (hz : lv.flatten.length ≤ sizeLine)
    (h : ∀ h' tk T', (∀ b o, s.heap.get? b = some o → h'.get? b = some o) → (lv = [] → T' = T) → (lv ≠ [] → s.heap.objs.size ≤ T' ∧ ∃ m, h'.get? T' = some (lobj lv.flatten m)) → Q (.ref T') { s with heap := h', toks := tk }) :
    wpAny (model prog w) A (call (.builtin "sum") [.ref l, .ref T]) Q E s := by
  have tT : s.TypeIs (.ref T) "list" := ⟨_, hT, rfl⟩
  refine call_function_tree F.kind_sum F.plain_sum F.entry_sum (args_sum2 _ _) ?_
  unfold Builtin.«sum»
  simp only [List.length_cons, List.length_nil]
  rw [if_neg (by decide)]
  refine wpAny_bind (wpAny_of_eq (show Builtin.Builtins.bindParams "sum" ["start"] 0 ⟨[.ref T], []⟩ = pure [some (.ref T)] from rfl) ?_)
  refine wpAny_bind (iter_l hl fun s₂ e st nl => ?_)
  subst e
  have W := Walks.list (prog := prog) (w := w) (A := A.in1) hh s.heap.objs.size l nl items
  have ltT : T < s.heap.objs.size := Heap.lt_size hT
  have ltl : l < s.heap.objs.size := by obtain ⟨_, e, _⟩ := hl; exact Heap.lt_size e
  generalize hs2 : ({ s with heap := s.heap.push { cls := .type "list_iterator", data := .fields #[.ref l, .int 0 0] } } : Shared) = s2 at st ⊢
  have k2 : ∀ b o, s.heap.get? b = some o → s2.heap.get? b = some o := fun b o e => by rw [← hs2]; exact Heap.get?_push_of_some _ e
  have sz2 : s2.heap.objs.size = s.heap.objs.size + 1 := by rw [← hs2]; exact Heap.size_push _ _
  have nb : ∀ b : Addr, b < s.heap.objs.size → b ≠ s2.heap.objs.size := fun b hb => by
    rw [sz2]
    exact Nat.ne_of_lt (Nat.lt_succ_of_lt hb)
  have nI : s2.heap.objs.size ≠ s.heap.objs.size := by
    rw [sz2]
    exact Nat.succ_ne_self _
  have tT2 : s2.TypeIs (.ref T) "list" := ⟨_, k2 _ _ hT, rfl⟩
  refine wpAny_bind (wpAny_pure ?_)
  simp only [List.forIn_cons, List.forIn_nil]
  refine wpAny_bind (wpAny_bind (wpAny_bind (wpAny_isInstance (T := "list") (b := false) tT2 sub_l_str ?_)))
  simp only [Bool.false_eq_true, if_false]
  refine wpAny_pure (wpAny_bind (wpAny_bind (wpAny_isInstance (T := "list") (b := false) tT2 sub_l_bytes ?_)))
  simp only [Bool.false_eq_true, if_false]
  refine wpAny_pure (wpAny_bind (wpAny_bind (wpAny_isInstance (T := "list") (b := false) tT2 sub_l_ba ?_)))
  simp only [Bool.false_eq_true, if_false]
  refine wpAny_pure (wpAny_pure ?_)
  refine wpAny_bind (wpAny_newObj_type ?_)
  have p3 : ∀ b o, s2.heap.get? b = some o → (s2.heap.push { cls := .type "list", data := .seq #[.ref T] }).get? b = some o := fun b o e => Heap.get?_push_of_some _ e
  refine wpAny_pure ⟨plainId_quiet F.plain_sum_loop _, sum_lists_loop W s2.heap.objs.size (fun z => (List.mem_cons.mp z).elim (fun e => nI e) fun z => nb l ltl (List.mem_singleton.mp z).symm) lv hlen loc cap hval (fun i => ⟨Nat.ne_of_lt (hin i), nb _ (hin i)⟩) items.size 0 _ T [] 0 n rfl (Nat.zero_le _)
    (W.frame _ _ _ st fun b _ o e => p3 b o e) (fun j xs _ e => p3 _ _ (k2 _ _ (hls j xs e))) (Heap.get?_push_size _ rfl) (p3 _ _ (k2 _ _ hT)) (Nat.ne_of_lt ltT) (nb _ ltT) (by simpa using hz) fun h' tk T' hk z0 z1 => ?_⟩
  subst hs2
  refine h h' tk T' (fun b o e => hk b o (Nat.ne_of_lt (Heap.lt_size e)) (nb _ (Heap.lt_size e)) (p3 _ _ (k2 _ _ e))) (fun e => z0 ?_) fun e => ?_
  · rw [← hlen, e]; rfl
  · obtain ⟨q1, m, q2⟩ := z1 (by rw [← hlen]; intro z; exact e (List.eq_nil_of_length_eq_zero z))
    exact ⟨Nat.le_of_lt q1, m, q2⟩
end
section
variable {X : Cx} {pins : List (Addr × Obj)} {σ : St} {H : Hp} {s : Shared}
theorem lists_of (I : Inv X pins σ H s) : ∀ {as : List Addr} {xss : List (List V)}, Paired (fun b xs => H b = some (.lst xs)) as xss →
    ∃ lv : List (List Value × Nat), lv.length = as.length ∧ Vals xss.flatten (lv.map Prod.fst).flatten ∧ ∀ (i : Nat) (b : Addr), as[i]? = some b → ∃ q : List Value × Nat, lv[i]? = some q ∧ s.heap.get? b = some (lobj q.1 q.2)
  | _, _, .nil => ⟨[], rfl, .nil, fun i b e => by simp at e⟩
  | _, _, .cons h t => by
    obtain ⟨lv, e1, e2, e3⟩ := lists_of I t
    obtain ⟨z, its, n, r, hl, e⟩ := I.lstM h
    refine ⟨(its, n) :: lv, by simp [e1], ?_, fun i b hb => ?_⟩
    · show Vals (_ ++ _) (its ++ (lv.map Prod.fst).flatten)
      exact Vals.append r e2
    · cases i with
      | zero => cases hb; exact ⟨_, rfl, e⟩
      | succ i => exact e3 i b hb
theorem vals_refs : ∀ {as : List Addr} {its : List Value}, Vals (as.map V.ref) its → its = as.map Value.ref
  | [], _, r => by cases r; rfl
  | a :: as, _, r => by
    cases r with
    | cons p q =>
      rw [vals_refs q]
      cases p
      rfl
/-- sum(xs, []) of a list of lists -/
def rSumL : List V → Hp → VK → Prop := fun vs H Q => ∃ (a t : Addr) (as : List Addr) (xss : List (List V)), vs = [.ref a, .ref t] ∧ H a = some (.lst (as.map V.ref)) ∧ H t = some (.lst []) ∧ Paired (fun b xs => H b = some (.lst xs)) as xss ∧ xss.flatten.length ≤ sizeLine ∧
  ∀ (p : Addr) (H' : Hp), Same H H' → H' p = some (.lst xss.flatten) → Q (.ref p) H'
theorem cr_sumL (hc : X.calm = true) : CallR X (.builtin "sum") rSumL := by
  intro pins s σ H vs us Q I r h
  obtain ⟨a, t, as, xss, rfl, ha, ht, hp, hz, q1⟩ := h
  obtain rfl : us = [.ref a, .ref t] := by
    cases r with
    | cons p1 r =>
      cases r with
      | cons p2 r =>
        cases r
        cases p1
        cases p2
        rfl
  obtain ⟨za, its, n, ra, la, ea⟩ := I.lstM ha
  obtain ⟨zt, itt, nt, rt, lt, et⟩ := I.lstM ht
  obtain rfl : itt = [] := by cases rt; rfl
  have ei := vals_refs ra
  subst ei
  obtain ⟨lv, e1, e2, e3⟩ := lists_of I hp
  have hl : s.heap.IsList a (as.map Value.ref).toArray := ⟨_, ea, rfl, n, rfl⟩
  have pl := Paired.length hp
  refine sum_lists (I.ok.hd hc) hl (lv.map Prod.fst) (by simp [e1]) (fun i => (as[i]?).getD a) (fun i => ((lv[i]?).map Prod.snd).getD 0) ?_ ?_ ?_ et (by rw [← e2.length]; exact hz) ?_
  · intro i v e
    simp only [List.getElem?_toArray, List.getElem?_map, Option.map_eq_some_iff] at e
    obtain ⟨b, e, rfl⟩ := e
    rw [e]
    rfl
  · intro i
    cases e : as[i]? with
    | none => exact Heap.lt_size ea
    | some b =>
      obtain ⟨q, _, e5⟩ := e3 i b e
      exact Heap.lt_size e5
  · intro i xs e
    simp only [List.getElem?_map, Option.map_eq_some_iff] at e
    obtain ⟨q, e, rfl⟩ := e
    have hi : i < as.length := by
      have := (List.getElem?_eq_some_iff.mp e).1
      omega
    obtain ⟨q', e4, e5⟩ := e3 i as[i] (List.getElem?_eq_getElem hi)
    rw [e] at e4
    cases e4
    rw [e, List.getElem?_eq_getElem hi]
    exact e5
  · intro h' tk T' k z0 z1
    by_cases hn : lv = []
    · have hx : xss = [] := List.eq_nil_of_length_eq_zero (by rw [← pl, ← e1, hn]; rfl)
      rw [z0 (by rw [hn]; rfl)]
      exact ⟨.ref t, H, I.kept k, rfl, q1 _ _ (Same.refl _) (by rw [hx]; exact ht)⟩
    · have hx : xss ≠ [] := fun z => hn (List.eq_nil_of_length_eq_zero (by rw [e1, pl, z]; rfl))
      obtain ⟨q, m, e⟩ := z1 (by intro z; exact hn (List.map_eq_nil_iff.mp z))
      exact ⟨.ref T', _, I.laid (o := .lst xss.flatten) k q ⟨hz, _, m, e2, e⟩, rfl, q1 _ _ (same_new (I.hok.fresh q)) upd_same⟩
end
end L3

/-! sum(xs, ys) of a list of lists -/
namespace L3
open PySem L2
section
variable {prog : Program} {w : World} {A : Around} {E : Value → Shared → Prop} {s : Shared} {Q : Value → Shared → Prop} {l T : Addr}
theorem sum_lists2 (hh : A.handled = none) {x0 : List Value} {items : Array Value} {n : Nat} (hl : s.heap.IsList l items) (lv : List (List Value)) (hlen : lv.length = items.size)
    (loc : Nat → Addr) (cap : Nat → Nat) (hval : ∀ (i : Nat) (v : Value), items[i]? = some v → v = .ref (loc i)) (hin : ∀ i, loc i < s.heap.objs.size)
    (hls : ∀ i xs, lv[i]? = some xs → s.heap.get? (loc i) = some (lobj xs (cap i))) (hT : s.heap.get? T = some (lobj x0 n)) (hz : x0.length + lv.flatten.length ≤ sizeLine)
    (h : ∀ h' tk T', (∀ b o, s.heap.get? b = some o → h'.get? b = some o) → (lv = [] → T' = T) → (lv ≠ [] → s.heap.objs.size ≤ T' ∧ ∃ m, h'.get? T' = some (lobj (x0 ++ lv.flatten) m)) → Q (.ref T') { s with heap := h', toks := tk }) :
    wpAny (model prog w) A (call (.builtin "sum") [.ref l, .ref T]) Q E s := by
  have tT : s.TypeIs (.ref T) "list" := ⟨_, hT, rfl⟩
  refine call_function_tree F.kind_sum F.plain_sum F.entry_sum (args_sum2 _ _) ?_
  unfold Builtin.«sum»
  simp only [List.length_cons, List.length_nil]
  rw [if_neg (by decide)]
  refine wpAny_bind (wpAny_of_eq (show Builtin.Builtins.bindParams "sum" ["start"] 0 ⟨[.ref T], []⟩ = pure [some (.ref T)] from rfl) ?_)
  refine wpAny_bind (iter_l hl fun s₂ e st nl => ?_)
  subst e
  have W := Walks.list (prog := prog) (w := w) (A := A.in1) hh s.heap.objs.size l nl items
  have ltT : T < s.heap.objs.size := Heap.lt_size hT
  have ltl : l < s.heap.objs.size := by obtain ⟨_, e, _⟩ := hl; exact Heap.lt_size e
  generalize hs2 : ({ s with heap := s.heap.push { cls := .type "list_iterator", data := .fields #[.ref l, .int 0 0] } } : Shared) = s2 at st ⊢
  have k2 : ∀ b o, s.heap.get? b = some o → s2.heap.get? b = some o := fun b o e => by rw [← hs2]; exact Heap.get?_push_of_some _ e
  have sz2 : s2.heap.objs.size = s.heap.objs.size + 1 := by rw [← hs2]; exact Heap.size_push _ _
  have nb : ∀ b : Addr, b < s.heap.objs.size → b ≠ s2.heap.objs.size := fun b hb => by
    rw [sz2]
    exact Nat.ne_of_lt (Nat.lt_succ_of_lt hb)
  have nI : s2.heap.objs.size ≠ s.heap.objs.size := by
    rw [sz2]
    exact Nat.succ_ne_self _
  have tT2 : s2.TypeIs (.ref T) "list" := ⟨_, k2 _ _ hT, rfl⟩
  refine wpAny_bind (wpAny_pure ?_)
  simp only [List.forIn_cons, List.forIn_nil]
  refine wpAny_bind (wpAny_bind (wpAny_bind (wpAny_isInstance (T := "list") (b := false) tT2 sub_l_str ?_)))
  simp only [Bool.false_eq_true, if_false]
  refine wpAny_pure (wpAny_bind (wpAny_bind (wpAny_isInstance (T := "list") (b := false) tT2 sub_l_bytes ?_)))
  simp only [Bool.false_eq_true, if_false]
  refine wpAny_pure (wpAny_bind (wpAny_bind (wpAny_isInstance (T := "list") (b := false) tT2 sub_l_ba ?_)))
  simp only [Bool.false_eq_true, if_false]
  refine wpAny_pure (wpAny_pure ?_)
  refine wpAny_bind (wpAny_newObj_type ?_)
  have p3 : ∀ b o, s2.heap.get? b = some o → (s2.heap.push { cls := .type "list", data := .seq #[.ref T] }).get? b = some o := fun b o e => Heap.get?_push_of_some _ e
  refine wpAny_pure ⟨plainId_quiet F.plain_sum_loop _, sum_lists_loop W s2.heap.objs.size (fun z => (List.mem_cons.mp z).elim (fun e => nI e) fun z => nb l ltl (List.mem_singleton.mp z).symm) lv hlen loc cap hval (fun i => ⟨Nat.ne_of_lt (hin i), nb _ (hin i)⟩) items.size 0 _ T x0 0 n rfl (Nat.zero_le _)
    (W.frame _ _ _ st fun b _ o e => p3 b o e) (fun j xs _ e => p3 _ _ (k2 _ _ (hls j xs e))) (Heap.get?_push_size _ rfl) (p3 _ _ (k2 _ _ hT)) (Nat.ne_of_lt ltT) (nb _ ltT) (by simpa using hz) fun h' tk T' hk z0 z1 => ?_⟩
  subst hs2
  refine h h' tk T' (fun b o e => hk b o (Nat.ne_of_lt (Heap.lt_size e)) (nb _ (Heap.lt_size e)) (p3 _ _ (k2 _ _ e))) (fun e => z0 ?_) fun e => ?_
  · rw [← hlen, e]; rfl
  · obtain ⟨q1, m, q2⟩ := z1 (by rw [← hlen]; intro z; exact e (List.eq_nil_of_length_eq_zero z))
    exact ⟨Nat.le_of_lt q1, m, q2⟩
end
section
variable {X : Cx} {pins : List (Addr × Obj)} {σ : St} {H : Hp} {s : Shared}
/-- sum(xs, []) of a list of lists -/
def rSumL2 : List V → Hp → VK → Prop := fun vs H Q => ∃ (a t : Addr) (as : List Addr) (x0 : List V) (xss : List (List V)), vs = [.ref a, .ref t] ∧ H a = some (.lst (as.map V.ref)) ∧ H t = some (.lst x0) ∧ Paired (fun b xs => H b = some (.lst xs)) as xss ∧ x0.length + xss.flatten.length ≤ sizeLine ∧
  ∀ (p : Addr) (H' : Hp), Same H H' → H' p = some (.lst (x0 ++ xss.flatten)) → Q (.ref p) H'
theorem cr_sumL2 (hc : X.calm = true) : CallR X (.builtin "sum") rSumL2 := by
  intro pins s σ H vs us Q I r h
  obtain ⟨a, t, as, x0, xss, rfl, ha, ht, hp, hz, q1⟩ := h
  obtain rfl : us = [.ref a, .ref t] := by
    cases r with
    | cons p1 r =>
      cases r with
      | cons p2 r =>
        cases r
        cases p1
        cases p2
        rfl
  obtain ⟨za, its, n, ra, la, ea⟩ := I.lstM ha
  obtain ⟨zt, itt, nt, rt, lt, et⟩ := I.lstM ht
  have ei := vals_refs ra
  subst ei
  obtain ⟨lv, e1, e2, e3⟩ := lists_of I hp
  have hl : s.heap.IsList a (as.map Value.ref).toArray := ⟨_, ea, rfl, n, rfl⟩
  have pl := Paired.length hp
  refine sum_lists2 (I.ok.hd hc) hl (lv.map Prod.fst) (by simp [e1]) (fun i => (as[i]?).getD a) (fun i => ((lv[i]?).map Prod.snd).getD 0) ?_ ?_ ?_ et (by rw [← e2.length, ← rt.length]; exact hz) ?_
  · intro i v e
    simp only [List.getElem?_toArray, List.getElem?_map, Option.map_eq_some_iff] at e
    obtain ⟨b, e, rfl⟩ := e
    rw [e]
    rfl
  · intro i
    cases e : as[i]? with
    | none => exact Heap.lt_size ea
    | some b =>
      obtain ⟨q, _, e5⟩ := e3 i b e
      exact Heap.lt_size e5
  · intro i xs e
    simp only [List.getElem?_map, Option.map_eq_some_iff] at e
    obtain ⟨q, e, rfl⟩ := e
    have hi : i < as.length := by
      have := (List.getElem?_eq_some_iff.mp e).1
      omega
    obtain ⟨q', e4, e5⟩ := e3 i as[i] (List.getElem?_eq_getElem hi)
    rw [e] at e4
    cases e4
    rw [e, List.getElem?_eq_getElem hi]
    exact e5
  · intro h' tk T' k z0 z1
    by_cases hn : lv = []
    · have hx : xss = [] := List.eq_nil_of_length_eq_zero (by rw [← pl, ← e1, hn]; rfl)
      rw [z0 (by rw [hn]; rfl)]
      exact ⟨.ref t, H, I.kept k, rfl, q1 _ _ (Same.refl _) (by rw [hx, List.flatten_nil, List.append_nil]; exact ht)⟩
    · have hx : xss ≠ [] := fun z => hn (List.eq_nil_of_length_eq_zero (by rw [e1, pl, z]; rfl))
      obtain ⟨q, m, e⟩ := z1 (by intro z; exact hn (List.map_eq_nil_iff.mp z))
      exact ⟨.ref T', _, I.laid (o := .lst (x0 ++ xss.flatten)) k q ⟨by rw [List.length_append]; exact hz, _, m, rt.append e2, e⟩, rfl, q1 _ _ (same_new (I.hok.fresh q)) upd_same⟩
end
end L3

namespace L3
open PySem L2 StX LamX ClX
def rListOf (K : PySem.W.Frag) : List V → Hp → VK → Prop := fun xs H Q => ∃ p ys, xs = [.ref p] ∧ (SqL K H p ys ∨ SqT K H p ys) ∧ ∀ l, H l = none → Q (.ref l) (upd H l (.lst ys))
theorem of_take {ws : List Str} {n : Nat} : ∀ {k : Kd}, Kd.of (ws.take n) k → Kd.of ws k
  | .var _, h => List.mem_of_mem_take h
  | .con _, _ => trivial
  | .app _ _, h => ⟨of_take h.1, of_take h.2⟩
section
variable {P : Program} {w : World} {K : PySem.W.Frag} {mg : Str → Option Value} {base : Heap} {C CK CN CC fI gN gU pU : Addr} {mc : Value}
abbrev s_law : Stmt := topS 69
abbrev N_law : List Str := ["_law_script", "_law_tape", "_law_turn", "_law_words_here", "_law_names", "_law_cons", "_law_head", "_law_some", "_law_made", "_law_every", "_law_plain", "_law_table", "_law_handed", "_law_kept", "_law_need", "_law_one", "_law_k", "_law_name"]
theorem sc_law : FnScope N_law ["_law_script"] (defScope s_law) := ⟨rfl, rfl, rfl, by decide +kernel, rfl, by decide +kernel, by decide +kernel⟩
theorem paired_app {α β : Type} {F : α → β → Prop} : ∀ {xs zs : List α} {ys ws : List β}, Paired F xs ys → Paired F zs ws → Paired F (xs ++ zs) (ys ++ ws)
  | [], _, _, _, .nil, h => h
  | _ :: _, _, _, _, .cons a r, h => .cons a (paired_app r h)
theorem kds_flat {H : Hp} : ∀ {xss : List (List V)} {kss : List (List Kd)}, Paired (KdsAt H) xss kss → KdsAt H xss.flatten kss.flatten
  | [], _, .nil => .nil
  | xs :: xss, ks :: kss, .cons a r => by
    rw [List.flatten_cons, List.flatten_cons]
    exact paired_app a (kds_flat r)
theorem ksOf_flat (nds : List Nd) : ksOf nds = (nds.map (·.ks)).flatten := rfl
theorem leaves_sum : ∀ ks : List Kd, (ks.map fun k => (k.leaves.length : Int)).sum = ((leavesL ks).length : Int)
  | [] => rfl
  | k :: r => by
    rw [List.map_cons, List.sum_cons, leaves_sum r]
    show _ = (((k.leaves ++ leavesL r).length : Nat) : Int)
    rw [List.length_append]
    omega
def threeD (kd : Kd) (nds : List Nd) (vs : List Str) : PyData := .tuple [kd.dat, .tuple (nds.map Nd.dat), .tuple (vs.map PyData.str)]
theorem three_shape {kd : Kd} {nds : List Nd} {vs : List Str} (h1 : kd.fit 40) (h2 : ∀ nd ∈ nds, Nfit nd) (h3 : ∀ x ∈ vs, Wok x) : SeqAt.shaped (threeD kd nds vs) = true := by
  obtain ⟨a, b⟩ := Kd.lay h1
  obtain ⟨c, d⟩ := lay_nds h2
  obtain ⟨e, f⟩ := lay_words h3
  unfold SeqAt.shaped threeD
  rw [Bool.and_eq_true]
  refine ⟨?_, decide_eq_true ?_⟩
  · simp only [PyData.canLay0, PyData.canLayAll0, a, c, e, Bool.and_true]
  · simp only [PyData.depth, PyData.depthAll]
    omega
theorem three_eqv (kd : Kd) (nds : List Nd) (vs : List Str) : PyData.eqv (threeD kd nds vs) (threeD kd nds vs) = true := by
  unfold threeD
  rw [eqv_tt, eqv_cc, eqv_cc, eqv_cc, eqv_nn, eqv_tt, eqv_tt, Kd.eqv, eqv_nds, eqv_words]
  simp
theorem twoT_shape {kd : Kd} {nds : List Nd} (h1 : kd.fit 40) (h2 : ∀ nd ∈ nds, Nfit nd) : SeqAt.shaped (.tuple [kd.dat, .tuple (nds.map Nd.dat)]) = true := by
  obtain ⟨a, b⟩ := two_shape h1 h2
  unfold SeqAt.shaped
  rw [Bool.and_eq_true]
  exact ⟨a, decide_eq_true (by omega)⟩
theorem nds_shape {nds : List Nd} (h2 : ∀ nd ∈ nds, Nfit nd) : SeqAt.shaped (.tuple (nds.map Nd.dat)) = true := by
  obtain ⟨a, b⟩ := lay_nds h2
  unfold SeqAt.shaped
  rw [Bool.and_eq_true]
  refine ⟨?_, decide_eq_true ?_⟩
  · simp only [PyData.canLay0, a]
  · simp only [PyData.depth]
    omega
theorem nds_eqv (nds : List Nd) : PyData.eqv (.tuple (nds.map Nd.dat)) (.tuple (nds.map Nd.dat)) = true := by
  rw [eqv_tt, eqv_nds]
theorem SchAt.lput {C : Addr} {H : Hp} {x : Addr} {v : V} {p : Addr} {us : List V} {kd : Kd} {nds : List Nd} {a : Addr} {xs zs : List V} (h : SchAt C H x v p us kd nds) (g : H a = some (.lst xs)) : SchAt C (upd H a (.lst zs)) x v p us kd nds := by
  obtain ⟨dx, fs, r, gx, f, gr⟩ := h.ex
  have tp : Tups H (upd H a (.lst zs)) := Tups.put g nofun
  exact ⟨⟨dx, fs, r, by rw [upd_ne (fun z => by rw [z, g] at gx; cases gx)]; exact gx, f, tp _ _ gr⟩, tp _ _ h.needs, h.kd.tups tp, NdsAt.tups tp h.nds⟩
theorem tups_xtn {K : PySem.W.Frag} {t c : Addr} {b : Nat} {H H' : Hp} (e : XtN t H H') (T : Tape K H t c b) : Tups H H' := fun a xs g => by
  obtain ⟨kvs, h⟩ := T.dict
  exact e a _ (fun z => by rw [z, h] at g; cases g) g (fun ps z => by cases z)
theorem SchAt.xtn {K : PySem.W.Frag} {t c : Addr} {b : Nat} {C : Addr} {H H' : Hp} {x : Addr} {v : V} {p : Addr} {us : List V} {kd : Kd} {nds : List Nd} (h : SchAt C H x v p us kd nds) (e : XtN t H H') (T : Tape K H t c b) : SchAt C H' x v p us kd nds := by
  obtain ⟨dx, fs, r, gx, f, gr⟩ := h.ex
  have tp := tups_xtn e T
  obtain ⟨kvs, hd⟩ := T.dict
  exact ⟨⟨dx, fs, r, e x _ (fun z => by rw [z, hd] at gx; cases gx) gx (fun ps z => by cases z), f, tp _ _ gr⟩, tp _ _ h.needs, h.kd.tups tp, NdsAt.tups tp h.nds⟩
theorem abcd_at : ∀ j : Nat, j < 4 → ("abcd" : Str).cps.toList[j]? = some (97 + j) := by decide +kernel
theorem fst_four : ∀ n : Nat, n ≤ 4 → fstN n = (List.range n).map sgn := by
  intro n hn
  have : n = 0 ∨ n = 1 ∨ n = 2 ∨ n = 3 ∨ n = 4 := by omega
  rcases this with rfl | rfl | rfl | rfl | rfl <;> decide +kernel
theorem by_keys {H : Hp} : ∀ {kvs : List (Key × V)} {b : By}, ByAt H kvs b → kvs.map (·.1) = b.map (fun q => (.inr q.1 : Key))
  | [], _, .nil => rfl
  | _ :: _, _ :: _, .cons a r => by rw [List.map_cons, List.map_cons, by_keys r, a.1]
theorem by_merge {H : Hp} {kvs : List (Key × V)} {b : By} (h : ByAt H kvs b) (n : (names b).Nodup) : mergeK [] kvs = kvs := by
  rw [merge_fresh, List.nil_append]
  rw [List.map_nil, List.nil_append, by_keys h]
  have e : b.map (fun q => (.inr q.1 : Key)) = (names b).map (fun z => (.inr z : Key)) := by
    unfold names
    rw [List.map_map]
    rfl
  rw [e]
  exact List.Pairwise.map _ (fun a b e z => e (Sum.inr.inj z)) n
theorem cut_three (ws : List Str) : cutV (ws.map V.str) none (some 3) = (ws.take 3).map V.str := by
  rw [show (3 : Int) = ((3 : Nat) : Int) from rfl, cut_take, List.map_take]
/-- what the law begins with -/
def spLaw (K : PySem.W.Frag) (ts : List Addr) : List V → Hp → VK → Prop := fun vs H Q => ∃ (a : Addr) (ns : List Int), vs = [.ref a] ∧ SqL K H a (ns.map V.int) ∧ (∀ p ∈ ts, H p = some (.tbl #[])) ∧ ∀ H', Q (.bl true) H'
theorem law_run {f cL PP PR : Addr} {fd : FuncData} {T : List (Addr × Str)} (F : Fun K "law" "law" s_law f fd) (hco : fd.code = .ref cL)
    (hT : T = [(PP, ("_law_is_put_right" : Str) ++ ".<locals>." ++ ("<lambda>" : Str)), (PR, ("_law_is_refused_right" : Str) ++ ".<locals>." ++ ("<lambda>" : Str))])
    (B : Bl mg) (B5 : Bl5 mg) (B9 : Bl9 mg) (hEN : mg "enumerate" = none) (SC : ScK K mg C fI) (CR : CRead K C mc) (CM : CMet K C mc "under" pU gU) (BM_named : BMeth K C "named" gN)
    (D_under : FnR P w K mg base (L2.CX P w) 8 gU (spUnder K C CK CN)) (D_named : FnR P w K mg base CX0 13 gN (spNamed C))
    (D__law_begin : Kn P w K mg base 1 "_law_begin" ["_law_script"] (spBegin K)) (D__law_draw : Kn P w K mg base 1 "_law_draw" ["_law_tape", "_law_many"] (spDraw K)) (D__law_words : Kn P w K mg base 3 "_law_words" ["_law_tape", "_law_many"] (spWords K)) (D__law_letter_kind : Kn P w K mg base 6 "_law_letter_kind" ["_law_tape", "_law_names", "_law_cons", "_law_deep"] (spLKs K 3))
    (D__law_needs_drawn : Kn P w K mg base 6 "_law_needs_drawn" ["_law_tape", "_law_names", "_law_words_here", "_law_cons"] (spNeeds K)) (D__law_scheme_of : KnX P w K mg base 9 "_law_scheme_of" ["_law_head", "_law_some"] (spSchOf C CK CN)) (D__law_vars : Kn P w K mg base 1 "_law_vars" ["_law_kinds"] (spVars K)) (D__law_count_leaves : Kn P w K mg base 9 "_law_count_leaves" ["_law_kind"] (spCount 8))
    (D__law_put : Kn P w K mg base 9 "_law_put" ["_law_kind", "_law_by"] (spPut K 8)) (D__law_with : Kn P w K mg base 10 "_law_with" ["_law_need", "_law_by"] (spWith 8)) (D__law_is_put_right : KnG P w K mg base 17 "_law_is_put_right" (spPutR C T)) (D__law_is_refused_right : KnG P w K mg base 13 "_law_is_refused_right" (spRefR K T)) (D__law_is_wide_right : Kn P w K mg base 14 "_law_is_wide_right" [] spWide) :
    LawRun P w K mg base f fd "_law_script" (spLaw K [PP, PR]) := by
  refine lawRun_code (cA := cL) F sc_law (k := 20) ⟨rfl, by decide, by decide⟩ hco (fun s H v Q hr h => ?_)
  obtain ⟨a, ns, h, hS, hP, k⟩ := h
  cases h
  have hgd : (callerA.deeper (PyProof.Rows.envOfC "law" (defScope s_law) s.heap.objs.size f (.ref cL))).guards = some [] := rfl
  have hr__law_begin : Room 1 _ := hr.mono (by decide)
  have hr__law_draw : Room 1 _ := hr.mono (by decide)
  have hr__law_words : Room 3 _ := hr.mono (by decide)
  have hr__law_letter_kind : Room 6 _ := hr.mono (by decide)
  have hr__law_needs_drawn : Room 6 _ := hr.mono (by decide)
  have hr__law_scheme_of : Room 9 _ := hr.mono (by decide)
  have hr__law_vars : Room 1 _ := hr.mono (by decide)
  have hr__law_count_leaves : Room 9 _ := hr.mono (by decide)
  have hr__law_put : Room 9 _ := hr.mono (by decide)
  have hr__law_with : Room 10 _ := hr.mono (by decide)
  have hr__law_is_put_right : Room 17 _ := hr.mono (by decide)
  have hr__law_is_refused_right : Room 13 _ := hr.mono (by decide)
  have hr__law_is_wide_right : Room 14 _ := hr.mono (by decide)
  have hr_under : Room 8 _ := hr.mono (by decide)
  have hr_named : Room 13 _ := hr.mono (by decide)
  have hu64 := hr.units
  refine ⟨_, (pss_cons (ps_set (i := 1) sc_law.nd rfl (Or.inr rfl) (pe_kn D__law_begin hr__law_begin (pa_cons (pv 0) pa_nil)))
  (pss_cons (ps_for PassesOwn.never rfl (pi_range1 (by rfl) B.range (pa_cons pe_int pa_nil)) (pg_name (i := 2) sc_law.nd rfl (Or.inl rfl))
  (pss_cons (ps_asg (pe_tup (pa_cons (pe_kn D__law_words hr__law_words (pa_cons (pv 1) (pa_cons pe_int pa_nil))) (pa_cons (pe_kn D__law_words hr__law_words (pa_cons (pv 1) (pa_cons pe_int pa_nil))) pa_nil))) (pg_tup (by rfl) (pgs_cons (pg_name (i := 3) sc_law.nd rfl (Or.inl rfl)) (pgs_cons (pg_name (i := 4) sc_law.nd rfl (Or.inr rfl)) pgs_nil))))
  (pss_cons (ps_set (i := 5) sc_law.nd rfl (Or.inr rfl) (pe_lst (pa_cons (pe_tup (pa_cons (pe_ix ix_list (pv 3) pe_int (fun _ _ => rfl)) (pa_cons pe_int pa_nil))) (pa_cons (pe_tup (pa_cons (pe_ix ix_list (pv 3) pe_int (fun _ _ => rfl)) (pa_cons pe_int pa_nil))) (pa_cons (pe_tup (pa_cons (pe_ix ix_list (pv 3) pe_int (fun _ _ => rfl)) (pa_cons pe_int pa_nil))) (pa_cons (pe_tup (pa_cons pe_str (pa_cons pe_int pa_nil))) pa_nil))))))
  (pss_cons (ps_par (i := 6) (j := 7) (by rfl) sc_law.nd rfl rfl (by decide) rfl rfl (pa_cons (pe_kn D__law_letter_kind hr__law_letter_kind (pa_cons (pv 1) (pa_cons (pe_slice sl_list (pv 4) po_none (po_some pe_int)) (pa_cons (pv 5) (pa_cons (pe_op op_add pe_int (pe_kn D__law_draw hr__law_draw (pa_cons (pv 1) (pa_cons pe_int pa_nil)))) pa_nil))))) (pa_cons (pe_kn D__law_needs_drawn hr__law_needs_drawn (pa_cons (pv 1) (pa_cons (pv 4) (pa_cons (pv 3) (pa_cons (pv 5) pa_nil))))) pa_nil)) (by rfl))
  (pss_cons (ps_par (i := 8) (j := 9) (by rfl) sc_law.nd rfl rfl (by decide) rfl rfl (pa_cons (pe_knX D__law_scheme_of hr__law_scheme_of (E := E0) LamX.takes0 (pa_cons (pv 6) (pa_cons (pv 7) pa_nil))) (pa_cons (pe_callB (cr_sumL2 rfl) (by rfl) B5.sum (by decide +kernel) (pa_cons (pe_lc (own := [("_law_need", 14)]) rfl sc_law.nd (pi_list (pv 7)) (blkOk_by (N := N_law) (sc := (defScope s_law)) (own := [("_law_need", 14)]) (by decide +kernel)) (fun _ _ _ _ _ => (pg_name (i := 14) sc_law.nd rfl (Or.inl rfl))) (fun _ _ _ _ _ => pts_nil) (fun _ _ _ _ _ => (pe_callTy (T := "list") (show CallR _ (.type "list") (rListOf K) from call_list_of) (by rfl) B.list (by decide +kernel) (pa_cons (pe_slice (show SlR _ (rSlT K) from sl_tup) (pv 14) (po_some pe_int) po_none) pa_nil)))) (pa_cons (pe_lst (pa_cons (pv 6) pa_nil)) pa_nil))) pa_nil)) (by rfl))
  (pss_cons (ps_if (pt_cmpR (op_neD hu64) (pe_tup (pa_cons (L2.pe_fld (pv 8) rfl) (pa_cons (L2.pe_fld (pv 8) rfl) (pa_cons (L2.pe_fld (pv 8) rfl) pa_nil)))) (pe_tup (pa_cons (pv 6) (pa_cons (pe_callTy call_tuple_of (by rfl) B.tuple (by decide +kernel) (pa_cons (pv 7) pa_nil)) (pa_cons (pe_callTy call_tuple_of (by rfl) B.tuple (by decide +kernel) (pa_cons (pe_kn D__law_vars hr__law_vars (pa_cons (pv 9) pa_nil)) pa_nil)) pa_nil)))) (nomark _))
  (pss_one (ps_ret pe_bl))
  pss_nil)
  (pss_cons (ps_if (pt_cmpR op_ne (L2.pe_fld (pv 8) rfl) (pe_callB (cr_sum rfl) (by rfl) B5.sum (by decide +kernel) (pa_cons (pe_lc (own := [("_law_one", 15)]) rfl sc_law.nd (pi_list (pv 9)) (blkOk_by (N := N_law) (sc := (defScope s_law)) (own := [("_law_one", 15)]) (by decide +kernel)) (fun _ _ _ _ _ => (pg_name (i := 15) sc_law.nd rfl (Or.inl rfl))) (fun _ _ _ _ _ => pts_nil) (fun _ _ _ _ _ => (pe_kn D__law_count_leaves hr__law_count_leaves (pa_cons (pv 15) pa_nil)))) pa_nil)) (nomark _))
  (pss_one (ps_ret pe_bl))
  pss_nil)
  (pss_cons (ps_if (pt_not (pt_val (pe_kg D__law_is_put_right hr__law_is_put_right hgd (pa_cons (pv 8) (pa_cons (pv 6) (pa_cons (pv 7) (pa_cons (pe_lc (own := [("_law_k", 16)]) rfl sc_law.nd (pi_range1 (by rfl) B.range (pa_cons (pe_kn D__law_draw hr__law_draw (pa_cons (pv 1) (pa_cons pe_int pa_nil))) pa_nil)) (blkOk_by (N := N_law) (sc := (defScope s_law)) (own := [("_law_k", 16)]) (by decide +kernel)) (fun _ _ _ _ _ => (pg_name (i := 16) sc_law.nd rfl (Or.inl rfl))) (fun _ _ _ _ _ => pts_nil) (fun _ _ _ _ _ => (pe_kn D__law_letter_kind hr__law_letter_kind (pa_cons (pv 1) (pa_cons (pv 4) (pa_cons (pv 5) (pa_cons pe_int pa_nil))))))) pa_nil)))))))
  (pss_one (ps_ret pe_bl))
  pss_nil)
  (pss_cons (ps_asg (pe_tup (pa_cons (pe_methR0 (pv 8) SC.cl BM_named.mt D_named hr_named pass0) (pa_cons (pe_callTy (call_dictP rfl) (by rfl) B.dict (by decide +kernel) (pa_cons (pe_lc (own := [("_law_k", 16), ("_law_name", 17)]) (g := gTup K 2 (gCons (gName 16) (gCons (gName 17) gNil))) rfl sc_law.nd (pi_enumT (by rfl) hEN (pa_cons (L2.pe_fld (pv 8) rfl) pa_nil)) (blkOk_by (N := N_law) (sc := (defScope s_law)) (own := [("_law_k", 16), ("_law_name", 17)]) (by decide +kernel)) (fun _ _ _ _ _ => (pg_tup (by rfl) (pgs_cons (pg_name (i := 16) sc_law.nd rfl (Or.inl rfl)) (pgs_cons (pg_name (i := 17) sc_law.nd rfl (Or.inl rfl)) pgs_nil)))) (fun _ _ _ _ _ => pts_nil) (fun _ _ _ _ _ => (pe_tup (pa_cons (pv 17) (pa_cons (pe_tup (pa_cons pe_str (pa_cons (pe_ix ix_str pe_str (pv 16) (fun _ _ => rfl)) pa_nil))) pa_nil))))) pa_nil)) pa_nil))) (pg_tup (by rfl) (pgs_cons (pg_name (i := 10) sc_law.nd rfl (Or.inl rfl)) (pgs_cons (pg_name (i := 11) sc_law.nd rfl (Or.inr rfl)) pgs_nil))))
  (pss_cons (ps_if (pt_cmpR (op_neD hu64) (pe_tup (pa_cons (L2.pe_fld (pv 10) rfl) (pa_cons (L2.pe_fld (pv 10) rfl) pa_nil))) (pe_tup (pa_cons (pe_kn D__law_put hr__law_put (pa_cons (pv 6) (pa_cons (pv 11) pa_nil))) (pa_cons (pe_callTy call_tuple_of (by rfl) B.tuple (by decide +kernel) (pa_cons (pe_lc (own := [("_law_need", 14)]) rfl sc_law.nd (pi_list (pv 7)) (blkOk_by (N := N_law) (sc := (defScope s_law)) (own := [("_law_need", 14)]) (by decide +kernel)) (fun _ _ _ _ _ => (pg_name (i := 14) sc_law.nd rfl (Or.inl rfl))) (fun _ _ _ _ _ => pts_nil) (fun _ _ _ _ _ => (pe_kn D__law_with hr__law_with (pa_cons (pv 14) (pa_cons (pv 11) pa_nil))))) pa_nil)) pa_nil))) (nomark _))
  (pss_one (ps_ret pe_bl))
  pss_nil)
  (pss_cons (ps_set (i := 12) sc_law.nd rfl (Or.inl rfl) (pe_callTy call_list_of (by rfl) B.list (by decide +kernel) (pa_cons (pv 7) pa_nil)))
  (pss_cons (ps_set (i := 13) sc_law.nd rfl (Or.inl rfl) (pe_cmeth (pe_gc (v := .ref C) (by rfl) ⟨_, SC.hm, rfl⟩) CR CM D_under hr_under (passes_call LamX.takes0 fun _ _ _ _ h => h) (pa_cons (pv 6) (pa_cons (pv 12) pa_nil))))
  (pss_cons (ps_expr (pe_bm PySem.F.plainAttrs_list PySem.F.slot_list_append PySem.F.type_list_append mt_append (pv 12) (pa_cons (pe_tup (pa_cons (pe_ix ix_list (pv 3) pe_int (fun _ _ => rfl)) (pa_cons (pe_tup (pa_cons pe_str (pa_cons (pe_ix ix_list (pv 3) pe_int (fun _ _ => rfl)) pa_nil))) pa_nil))) pa_nil)))
  (pss_one (ps_if (PW.pt (pw_or (pt_not (pt_val (pe_kg D__law_is_refused_right hr__law_is_refused_right hgd (pa_cons (pv 1) (pa_cons (pv 6) (pa_cons (pv 7) (pa_cons (pv 3) pa_nil))))))) (pw_or1 (pt_cmpR (op_neD hu64) (L2.pe_fld (pv 13) rfl) (pe_callTy call_tuple_of (by rfl) B.tuple (by decide +kernel) (pa_cons (pv 7) pa_nil)) (nomark _)))))
  (pss_one (ps_ret pe_bl))
  pss_nil)))))))))))))))
  (pss_one (ps_ret (pe_kn0 D__law_is_wide_right hr__law_is_wide_right))))), ?_⟩
  refine ⟨_, rfl, a, ns, rfl, hS, fun H1 t c s1 nt T1 => ?_⟩
  have tb1 : Tabs T H1 := fun p hp => by
    rw [hT] at hp
    rcases List.mem_cons.mp hp with rfl | hp
    · exact TabS.nil (s1 _ _ (hP _ List.mem_cons_self))
    · rw [List.mem_singleton.mp hp]
      exact TabS.nil (s1 _ _ (hP _ (List.mem_cons_of_mem _ List.mem_cons_self)))
  refine ⟨10, rfl, by decide, by decide, ?_⟩
  refine for_range (lo := 0) (n := 10) (fun i σ H' => ∃ (v2 v3 v4 v5 v6 v7 v8 v9 v10 v11 v12 v13 : Option V), σ = [some (.ref a), some (.ref t), v2, v3, v4, v5, v6, v7, v8, v9, v10, v11, v12, v13, none, none, none, none] ∧ Tape K H' t c ((10 - i) * 600) ∧ Tabs T H') ⟨_, _, _, _, _, _, _, _, _, _, _, _, rfl, T1.less (by decide), tb1⟩ (fun i σ H2 hi h => ?_) (fun σ H2 h => ?_)
  · obtain ⟨v2, v3, v4, v5, v6, v7, v8, v9, v10, v11, v12, v13, rfl, T2, tb2⟩ := h
    obtain ⟨b, hb⟩ : ∃ b, b = (10 - (i + 1)) * 600 := ⟨_, rfl⟩
    have T2 : Tape K H2 t c (b + 600) := by
      have e : (10 - i) * 600 = (10 - (i + 1)) * 600 + 600 := by rw [show 10 - i = (10 - (i + 1)) + 1 by omega, Nat.succ_mul]
      rw [hb, ← e]
      exact T2
    refine ⟨_, rfl, t, c, 5, b + 597, rfl, by decide, T2, fun H3 l3 rest3 first3 d3 e3 T3 n3 r3 f3 g3 => ?_⟩
    have nl3 : l3 ≠ t := T2.ne n3
    obtain ⟨wh, hwh⟩ : ∃ wh, wh = (lets first3 5).map (mkW rest3 d3) := ⟨_, rfl⟩
    have nwh : Nms wh := by rw [hwh]; exact words_nms r3 f3 (by decide)
    have swh : ∀ x ∈ wh, wshB x = true := by rw [hwh]; exact words_wsh r3 f3 (by decide)
    have lwh : wh.length = 5 := by rw [hwh, List.length_map, lets_length]
    rw [← hwh] at g3
    clear hwh
    refine ⟨_, rfl, t, c, 4, b + 594, rfl, by decide, T3, fun H4 l4 rest4 first4 d4 e4 T4 n4 r4 f4 g4 => ?_⟩
    have nl4 : l4 ≠ t := T3.ne n4
    obtain ⟨ws, hws⟩ : ∃ ws, ws = (lets first4 4).map (mkW rest4 d4) := ⟨_, rfl⟩
    have nws : Nms ws := by rw [hws]; exact words_nms r4 f4 (by decide)
    have lws : ws.length = 4 := by rw [hws, List.length_map, lets_length]
    rw [← hws] at g4
    clear hws
    refine ⟨slz rfl, fun q hq => ⟨q, _, rfl, SqT.of upd_same, rfl, _, _, rfl, _, _, rfl, rfl, ?_⟩⟩
    have E4 := e4.trans (Ext.new (o := .tup [.ref l3, .ref l4]) hq)
    have g3 := E4 _ _ nl3 g3
    have g4 := Ext.new (t := t) (o := .tup [.ref l3, .ref l4]) hq _ _ nl4 g4
    have E4 := e3.trans E4
    have T4 := T4.new (o := .tup [.ref l3, .ref l4]) hq
    have tb4 := tabs_ext tb2 E4 T2
    generalize upd H4 q (.tup [.ref l3, .ref l4]) = H4 at E4 g3 g4 T4 tb4 ⊢
    obtain ⟨w0, w1, w2, w3, w4, hw⟩ : ∃ w0 w1 w2 w3 w4, wh = [w0, w1, w2, w3, w4] := by
      match wh, lwh with
      | [w0, w1, w2, w3, w4], _ => exact ⟨w0, w1, w2, w3, w4, rfl⟩
    have wat : ∀ (j : Nat) (x : Str), wh[j]? = some x → (wh.map V.str)[j]? = some (V.str x) := fun j x e => by rw [List.getElem?_map, e]; rfl
    have i0 : atI (wh.map V.str) 0 = some (.str w0) := at_ofG (j := 0) rfl (wat 0 w0 (by rw [hw]; rfl))
    have i1 : atI (wh.map V.str) 1 = some (.str w1) := at_ofG (j := 1) rfl (wat 1 w1 (by rw [hw]; rfl))
    have i2 : atI (wh.map V.str) 2 = some (.str w2) := at_ofG (j := 2) rfl (wat 2 w2 (by rw [hw]; rfl))
    have i3 : atI (wh.map V.str) 3 = some (.str w3) := at_ofG (j := 3) rfl (wat 3 w3 (by rw [hw]; rfl))
    have m0 := nwh w0 (by rw [hw]; simp)
    have m1 := nwh w1 (by rw [hw]; simp)
    have m2 := nwh w2 (by rw [hw]; simp)
    have m3 := nwh w3 (by rw [hw]; simp)
    refine ⟨_, rfl, l3, _, 0, _, rfl, rfl, SqL.of g3, i0, slz rfl, fun q0 hq0 => ?_⟩
    have s5 := same_new (o := .tup [.str w0, .int 0]) hq0
    have a0 : (upd H4 q0 (.tup [.str w0, .int 0])) q0 = some (.tup [.str w0, .int 0]) := upd_same
    generalize upd H4 q0 (.tup [.str w0, .int 0]) = H5 at s5 a0 ⊢
    refine ⟨_, rfl, l3, _, 1, _, rfl, rfl, SqL.of (s5 _ _ g3), i1, slz rfl, fun q1 hq1 => ?_⟩
    have z6 := same_new (o := .tup [.str w1, .int 1]) hq1
    have s6 := s5.trans z6
    have a0 := z6 _ _ a0
    have a1 : (upd H5 q1 (.tup [.str w1, .int 1])) q1 = some (.tup [.str w1, .int 1]) := upd_same
    generalize upd H5 q1 (.tup [.str w1, .int 1]) = H6 at s6 a0 a1 ⊢
    clear z6
    refine ⟨_, rfl, l3, _, 2, _, rfl, rfl, SqL.of (s6 _ _ g3), i2, slz rfl, fun q2 hq2 => ?_⟩
    have z7 := same_new (o := .tup [.str w2, .int 2]) hq2
    have s7 := s6.trans z7
    have a0 := z7 _ _ a0
    have a1 := z7 _ _ a1
    have a2 : (upd H6 q2 (.tup [.str w2, .int 2])) q2 = some (.tup [.str w2, .int 2]) := upd_same
    generalize upd H6 q2 (.tup [.str w2, .int 2]) = H7 at s7 a0 a1 a2 ⊢
    clear z7
    refine ⟨slz rfl, fun q3 hq3 => ?_⟩
    have z8 := same_new (o := .tup [.str "to", .int 2]) hq3
    have s8 := s7.trans z8
    have a0 := z8 _ _ a0
    have a1 := z8 _ _ a1
    have a2 := z8 _ _ a2
    have a3 : (upd H7 q3 (.tup [.str "to", .int 2])) q3 = some (.tup [.str "to", .int 2]) := upd_same
    generalize upd H7 q3 (.tup [.str "to", .int 2]) = H8 at s8 a0 a1 a2 a3 ⊢
    clear z8
    refine ⟨slz rfl, fun lc hlc => ?_⟩
    have z9 := same_new (o := .lst [.ref q0, .ref q1, .ref q2, .ref q3]) hlc
    have s9 := s8.trans z9
    have a0 := z9 _ _ a0
    have a1 := z9 _ _ a1
    have a2 := z9 _ _ a2
    have a3 := z9 _ _ a3
    have ac : (upd H8 lc (.lst [.ref q0, .ref q1, .ref q2, .ref q3])) lc = some (.lst [.ref q0, .ref q1, .ref q2, .ref q3]) := upd_same
    generalize upd H8 lc (.lst [.ref q0, .ref q1, .ref q2, .ref q3]) = H9 at s9 a0 a1 a2 a3 ac ⊢
    clear z9
    have to_ok : Wok "to" ∧ isNameD (.str "to") = true := ⟨wok_Wok (by decide +kernel), by decide +kernel⟩
    have cn : ConsN K H9 lc := by
      refine ⟨_, SqL.of ac, Nat.zero_lt_succ _, by simp, fun v hv => ?_⟩
      have hv : v = .ref q0 ∨ v = .ref q1 ∨ v = .ref q2 ∨ v = .ref q3 := by simpa using hv
      rcases hv with rfl | rfl | rfl | rfl
      · exact ⟨q0, w0, 0, rfl, a0, by decide, m0⟩
      · exact ⟨q1, w1, 1, rfl, a1, by decide, m1⟩
      · exact ⟨q2, w2, 2, rfl, a2, by decide, m2⟩
      · exact ⟨q3, "to", 2, rfl, a3, by decide, to_ok⟩
    have E9 := E4.trans (same_ext s9)
    have T9 := T4.same s9
    have g3 := s9 _ _ g3
    have g4 := s9 _ _ g4
    clear a0 a1 a2 a3 ac s5 s6 s7 s8
    refine ⟨_, rfl, _, rfl, _, rfl, l4, _, rfl, SqL.of g4, fun p3 hp3 => ?_⟩
    rw [cut_three]
    have zA := same_new (o := .lst ((ws.take 3).map V.str)) hp3
    have gp3 : (upd H9 p3 (.lst ((ws.take 3).map V.str))) p3 = some (.lst ((ws.take 3).map V.str)) := upd_same
    have EA := E9.trans (same_ext zA)
    have TA := T9.same zA
    have cnA := cn.ext T9 (same_ext zA)
    have g3 := zA _ _ g3
    have g4 := zA _ _ g4
    have np3 : p3 ≠ t := T9.ne hp3
    generalize upd H9 p3 (.lst ((ws.take 3).map V.str)) = HA at EA TA cnA g3 g4 gp3 ⊢
    clear zA s9 cn
    refine ⟨_, rfl, _, rfl, t, c, 3, b + 593, rfl, by decide, by decide, TA, fun HB rB eB TB rB1 rB2 => ⟨_, _, rfl, rfl, ?_⟩⟩
    obtain ⟨n, hn, hn3⟩ : ∃ n : Nat, (1 : Int) + rB = (n : Int) ∧ n ≤ 3 := ⟨(1 + rB).toNat, by omega, by omega⟩
    have cn59 : cost n ≤ 59 := by
      match n, hn3 with
      | 0, _ => decide
      | 1, _ => decide
      | 2, _ => decide
      | 3, _ => decide
    have nw3 : Nms (ws.take 3) := fun x hx => nws x (List.mem_of_mem_take hx)
    refine ⟨n, hn3, t, c, p3, lc, ws.take 3, b + 534, congrArg (fun z : Int => [V.ref t, V.ref p3, V.ref lc, V.int z]) hn, SqL.of (eB _ _ np3 gp3), nw3, by rw [List.length_take]; omega, cnA.ext TA eB, TB.less (by omega), fun HC v6 kd eC TC kC fC oC nC => ?_⟩
    have EC := EA.trans (eB.trans eC)
    have eBC := eB.trans eC
    have g3 := eBC _ _ nl3 g3
    have g4 := eBC _ _ nl4 g4
    have cnC := cnA.ext TA eBC
    refine ⟨_, rfl, _, rfl, _, rfl, _, rfl, t, c, l4, l3, lc, ws, wh, b + 234, rfl, SqL.of g4, nws, by omega, SqL.of g3, nwh, lwh, cnC, TC.less (by omega), fun HD l7 us nds eD TD n7 g7 hus l47 okn => ?_⟩
    refine ⟨_, _, rfl, ?_⟩
    have ED := EC.trans eD
    have tbD := tabs_ext tb2 ED T2
    have kD : KdAt HD v6 kd := kC.tups (Ext.tups eD TC)
    have g3 := eD _ _ nl3 g3
    have g4 := eD _ _ nl4 g4
    have cnD := cnC.ext TC eD
    have nl7 : l7 ≠ t := TC.ne n7
    have f8 : kd.fit 8 := Kd.fit_mono (by omega) fC
    have nok : ∀ nd ∈ nds, Nok nd := fun nd h => (okn nd h).ok
    have lus : us.length = nds.length := Paired.length hus
    have few : (Vars kd nds).length ≤ 4 := by
      rw [← lws]
      exact vars_few (of_take oC) fun nd h k hk => ((okn nd h).f4 k hk).2
    have vin : ∀ x ∈ Vars kd nds, x ∈ ws := by
      refine vsL_of (fun k hk => ?_) (fun _ q => nomatch q)
      rcases List.mem_cons.mp hk with rfl | hk
      · exact of_take oC
      · obtain ⟨nd, h, hk⟩ := List.mem_flatMap.mp (show k ∈ nds.flatMap (·.ks) from hk)
        exact ((okn nd h).f4 k hk).2
    have fall : ∀ k ∈ kd :: ksOf nds, k.fit 8 := fun k hk => by
      rcases List.mem_cons.mp hk with rfl | hk
      · exact f8
      · obtain ⟨nd, h, hk⟩ := List.mem_flatMap.mp (show k ∈ nds.flatMap (·.ks) from hk)
        exact ((nok nd h).ks k hk).1
    clear eB eC eBC eD EA EC TA TB kC fC cnA cnC E9 T9 E4 T4 tb4 e3 e4 T3
    refine ⟨_, rfl, _, rfl, t, l7, v6, us, kd.dat, nds.map Nd.dat, rfl, g7, by omega, mkw_of kD hus f8 nok, mkout_of kD hus f8 nC nok (by omega) fun HE x p sE hx sch => ?_⟩
    have EE := ED.trans (same_ext sE)
    have TE := TD.same sE
    have tbE := tbD.ext sE
    have g7 := sE _ _ g7
    have husE := NdsAt.tups (same_tups sE) hus
    have kE := kD.tups (same_tups sE)
    have g3 := sE _ _ g3
    have g4 := sE _ _ g4
    have cnE := cnD.ext TD (same_ext sE)
    refine ⟨_, rfl, l7, rfl, ⟨_, SqL.of g7⟩, fun D hD => lc_it walk_list (fun i H' => Same HE H' ∧ ∃ (as : List Addr) (xss : List (List V)), H' D = some (.lst (as.map V.ref)) ∧ Paired (fun b xs => b ≠ D ∧ H' b = some (.lst xs)) as xss ∧ Paired (KdsAt H') xss ((nds.take i).map (·.ks))) ⟨same_new hD, [], [], upd_same, .nil, .nil⟩ (fun i H' _ h => SqL.of (h.1 _ _ g7)) ?_ ?_⟩
    · rintro i y H5 H6 hi ⟨s5, as, xss, g5, p5, k5⟩ ⟨rfl, ey⟩
      obtain ⟨nd, hnd, a, xs, rfl, ga, hks⟩ := paired_get husE ey
      refine ⟨rfl, ?_⟩
      refine ⟨_, rfl, _, rfl, a, _, rfl, SqT.of (s5 _ _ ga), not_tail, fun q5 hq5 => ?_⟩
      rw [cut_tail, List.tail_cons]
      have s6 := same_new (o := .tup xs) hq5
      refine ⟨q5, xs, rfl, .inr (SqT.of upd_same), fun l5 hl5 => ?_⟩
      have s7 := s6.trans (same_new (o := .lst xs) hl5)
      have g7' := s7 _ _ g5
      have gl5 : (upd (upd H6 q5 (.tup xs)) l5 (.lst xs)) l5 = some (.lst xs) := upd_same
      have nD5 : l5 ≠ D := fun z => by
        have := s6 _ _ g5
        rw [z, this] at hl5
        cases hl5
      generalize upd (upd H6 q5 (.tup xs)) l5 (.lst xs) = H7 at s7 g7' gl5 ⊢
      have las : as.length ≤ 4 := by
        rw [Paired.length p5, Paired.length k5, List.length_map, List.length_take]
        omega
      refine ⟨_, g7', szl (by rw [List.length_map]; omega), fun b o e => ?_, as ++ [l5], xss ++ [xs], ?_, ?_, ?_⟩
      · rw [upd_ne (ne_of_none e hD)]
        exact s7 _ _ (s5 _ _ e)
      · rw [upd_same, List.map_append]
        rfl
      · exact Paired.snoc (paired_map (fun b xs h => ⟨h.1, by rw [upd_ne h.1]; exact s7 _ _ h.2⟩) p5) ⟨nD5, by rw [upd_ne nD5]; exact gl5⟩
      · have tp : Tups H7 (upd H7 D (.lst (as.map V.ref ++ [.ref l5]))) := Tups.put g7' nofun
        rw [List.take_add_one, hnd, List.map_append]
        exact Paired.snoc (paired_map (fun a b h => KdsAt.tups ((same_tups s7).trans tp) h) k5) (KdsAt.tups (((same_tups s5).trans (same_tups s7)).trans tp) hks)
    rintro HF ⟨sF, as, xss, gF, pF, kF⟩
    rw [lus, List.take_length] at kF
    refine ⟨_, rfl, slz rfl, fun t0 ht0 => ?_⟩
    have zG := same_new (o := .lst [v6]) ht0
    have gt0 : (upd HF t0 (.lst [v6])) t0 = some (.lst [v6]) := upd_same
    have lks : xss.flatten.length ≤ 8 := by
      have h1 : xss.flatten.length = (ksOf nds).length := Paired.length (kds_flat kF)
      have h2 : ∀ nds : List Nd, (∀ nd ∈ nds, Nok nd) → (ksOf nds).length ≤ 2 * nds.length := by
        intro nds
        induction nds with
        | nil => intro _; exact Nat.le_refl _
        | cons n r ih =>
          intro h
          have h1 := (h n List.mem_cons_self).k2
          have h2 := ih fun y hy => h y (List.mem_cons_of_mem _ hy)
          show (n.ks ++ ksOf r).length ≤ 2 * (r.length + 1)
          rw [List.length_append]
          omega
      have := h2 nds nok
      omega
    refine ⟨D, t0, as, [v6], xss, rfl, zG _ _ gF, gt0, paired_map (fun b xs h => zG _ _ h.2) pF, by rw [sizeLine_eq]; show 1 + _ ≤ _; omega, fun l9 HG sG g9 => ?_⟩
    refine ⟨_, _, rfl, ?_⟩
    have SG := sF.trans (zG.trans sG)
    have kG : KdsAt HG ([v6] ++ xss.flatten) (kd :: ksOf nds) := .cons (kE.tups (same_tups SG)) (KdsAt.tups (same_tups (zG.trans sG)) (kds_flat kF))
    have EG := EE.trans (same_ext SG)
    have TG := TE.same SG
    have tbG := tbE.ext SG
    have g7 := SG _ _ g7
    have husG := NdsAt.tups (same_tups SG) husE
    have g3 := SG _ _ g3
    have g4 := SG _ _ g4
    have cnG := cnE.ext TE (same_ext SG)
    have schG := sch.same SG
    have kG6 := kE.tups (same_tups SG)
    clear sE cnE cnD sG zG pF kF gF gt0 sF TE tbE EE sch husE kE TD tbD ED kD hus
    have nfit : ∀ nd ∈ nds, Nfit nd := fun nd h => (nok nd h).nfit
    have f40 : kd.fit 40 := Kd.fit_mono (by decide) f8
    obtain ⟨dx, fs, r, gx, ff, gr⟩ := id schG.ex
    -- the fields are what was handed
    refine ⟨_, rfl, x, C, dx, fs, v6, rfl, gx, SC.cl, SC.nk, ff.kind, _, rfl, x, C, dx, fs, .ref p, rfl, gx, SC.cl, SC.nn, ff.needs, _, rfl, x, C, dx, fs, .ref r, rfl, gx, SC.cl, SC.nv, ff.vars, slz rfl, fun qa hqa => ?_⟩
    have sH := same_new (o := .tup [v6, .ref p, .ref r]) hqa
    have ga : (upd HG qa (.tup [v6, .ref p, .ref r])) qa = some (.tup [v6, .ref p, .ref r]) := upd_same
    generalize upd HG qa (.tup [v6, .ref p, .ref r]) = HH at sH ga ⊢
    refine ⟨_, rfl, _, rfl, l7, us, rfl, .inl ⟨SqL.of (sH _ _ g7), fun pb hpb => ?_⟩⟩
    have zI := same_new (o := .tup us) hpb
    have sI := sH.trans zI
    have ga := zI _ _ ga
    have gb : (upd HH pb (.tup us)) pb = some (.tup us) := upd_same
    generalize upd HH pb (.tup us) = HI at sI ga gb ⊢
    clear zI sH
    have fks60 : ∀ k ∈ kd :: ksOf nds, k.fit 60 := fun k hk => Kd.fit_mono (by decide) (fall k hk)
    have sz : sizeL (kd :: ksOf nds) ≤ 100000 := by
      have z1 := Kd.size8 f8
      have z2 := sizeL_nds nok
      simp only [sizeL]
      omega
    refine ⟨_, rfl, l9, _, _, rfl, SqL.of (sI _ _ g9), KdsAt.tups (same_tups sI) kG, fks60, sz, fun HJ lv zJ _ gv => ?_⟩
    have sJ := sI.trans zJ
    have ga := zJ _ _ ga
    have gb := zJ _ _ gb
    refine ⟨lv, _, rfl, .inl ⟨SqL.of gv, fun pc hpc => ?_⟩⟩
    have zK := same_new (o := .tup ((vsL (kd :: ksOf nds) []).map V.str)) hpc
    have sK := sJ.trans zK
    have ga := zK _ _ ga
    have gb := zK _ _ gb
    have gc : (upd HJ pc (.tup ((vsL (kd :: ksOf nds) []).map V.str))) pc = some (.tup ((Vars kd nds).map V.str)) := upd_same
    generalize upd HJ pc (.tup ((vsL (kd :: ksOf nds) []).map V.str)) = HK at sK ga gb gc ⊢
    clear zJ zK sI sJ gv
    refine ⟨slz rfl, fun qd hqd => ?_⟩
    have zL := same_new (o := .tup [v6, .ref pb, .ref pc]) hqd
    have sL := sK.trans zL
    have ga := zL _ _ ga
    have gb := zL _ _ gb
    have gc := zL _ _ gc
    have gd : (upd HK qd (.tup [v6, .ref pb, .ref pc])) qd = some (.tup [v6, .ref pb, .ref pc]) := upd_same
    generalize upd HK qd (.tup [v6, .ref pb, .ref pc]) = HL at sL ga gb gc gd ⊢
    clear zL sK
    have tL := same_tups sL
    have wv : ∀ x ∈ Vars kd nds, Wok x := fun x h => (nws x (vin x h)).1
    refine ⟨threeD kd nds (Vars kd nds), threeD kd nds (Vars kd nds), .tup (SqT.of ga) (.cons (kG6.tups tL).dp (.cons (.tup (SqT.of (tL _ _ schG.needs)) (NdsAt.dp (NdsAt.tups tL schG.nds))) (.cons (.tup (SqT.of (tL _ _ gr)) (dp_words _)) .nil))), .tup (SqT.of gd) (.cons (kG6.tups tL).dp (.cons (.tup (SqT.of gb) (NdsAt.dp (NdsAt.tups tL husG))) (.cons (.tup (SqT.of gc) (dp_words _)) .nil))), three_shape f40 nfit wv, three_shape f40 nfit wv, _, rfl, iF (by rw [three_eqv]; rfl) ?_⟩
    clear ga gb gc gd
    -- the size
    refine ⟨_, rfl, x, C, dx, fs, .int (Size kd nds : Int), rfl, sL _ _ gx, SC.cl, SC.ns, ff.size, ?_⟩
    have kL := KdsAt.tups tL kG
    have lev : ([v6] ++ xss.flatten).length = (kd :: ksOf nds).length := Paired.length kL
    have lev9 : ([v6] ++ xss.flatten).length ≤ 9 := by
      show (v6 :: xss.flatten).length ≤ 9
      rw [List.length_cons]
      omega
    refine ⟨_, rfl, l9, rfl, ⟨_, SqL.of (sL _ _ g9)⟩, fun D2 hD2 => lc_it walk_list (fun i H' => Same HL H' ∧ H' D2 = some (.lst ((((kd :: ksOf nds).take i).map fun k => (k.leaves.length : Int)).map V.int))) ⟨same_new hD2, upd_same⟩ (fun i H' _ h => SqL.of (h.1 _ _ (sL _ _ g9))) ?_ ?_⟩
    · rintro i y H5 H6 hi ⟨s5, g5⟩ ⟨rfl, ey⟩
      obtain ⟨ky, hky, hy⟩ := paired_get kL ey
      refine ⟨rfl, ?_⟩
      refine ⟨_, rfl, y, ky, rfl, hy.tups (same_tups s5), fall ky (List.mem_of_getElem? hky), by decide, _, g5, szl ?_, fun b o e => ?_, ?_⟩
      · rw [List.length_map, List.length_map, List.length_take]
        omega
      · rw [upd_ne (ne_of_none e hD2)]
        exact s5 _ _ e
      · rw [upd_same, List.take_add_one, hky, List.map_append, List.map_append]
        rfl
    rintro HM ⟨sM, gM⟩
    rw [lev, List.take_length] at gM
    refine ⟨D2, _, rfl, SqL.of gM, rfl, _, rfl, iF ?_ ?_⟩
    · rw [leaves_sum]
      show (!decide (V.int (Size kd nds : Int) = V.int (Size kd nds : Int))) = false
      rw [decide_eq_true rfl]
      rfl
    clear gM kL lev lev9
    have SM := sL.trans sM
    have EM := EG.trans (same_ext SM)
    have TM := TG.same SM
    have tbM := tbG.ext SM
    have g7 := SM _ _ g7
    have husM := NdsAt.tups (same_tups SM) husG
    have g3 := SM _ _ g3
    have g4 := SM _ _ g4
    have cnM := cnG.ext TG (same_ext SM)
    have schM := schG.same SM
    have kM := kG6.tups (same_tups SM)
    clear SM sL sM tL g9 kG EG TG tbG husG cnG schG kG6 gx gr ff
    -- put at kinds
    refine ⟨_, rfl, _, rfl, _, rfl, _, rfl, t, c, 5, b + 233, rfl, by decide, by decide, TM.less (by omega), fun HN rN eN TN rN1 rN2 => ?_⟩
    obtain ⟨n, hn, hn4⟩ : ∃ n : Nat, rN = (n : Int) ∧ n ≤ 4 := ⟨rN.toNat, by omega, by omega⟩
    subst hn
    refine ⟨(n : Int), rfl, by omega, by omega, fun D3 hD3 => ?_⟩
    have nD3 : D3 ≠ t := TN.ne hD3
    refine lc_range (lo := 0) (n := n) (fun j H' => Ext t HN H' ∧ Tape K H' t c (b + 60 + (n - j) * 11) ∧ ∃ (vs : List V) (ks : List Kd), H' D3 = some (.lst vs) ∧ KdsAt H' vs ks ∧ vs.length = j ∧ ∀ k ∈ ks, k.fit 8)
      ⟨Ext.new hD3, (TN.new hD3).less (by omega), [], [], upd_same, .nil, rfl, fun _ q => nomatch q⟩ (fun j H' hj ⟨e1, t1, vs, ks, j1, j2, j3, j4⟩ => ⟨rfl, ?_⟩) (fun HO ⟨eO, tO, kus, ks, gO, kO, lO, fO⟩ => ?_)
    · have em : (n - j) * 11 = (n - (j + 1)) * 11 + 11 := by rw [show n - j = (n - (j + 1)) + 1 by omega, Nat.succ_mul]
      have EE := eN.trans e1
      refine ⟨_, rfl, _, rfl, _, rfl, 1, by decide, t, c, l4, lc, ws, b + 60 + (n - (j + 1)) * 11, rfl, SqL.of (EE _ _ nl4 g4), nws, by omega, cnM.ext TM EE, t1.less (by rw [em]; show _ + 11 ≤ _; omega), fun H7 v k7 e7 t7 f1' f2' f3' f4' => ?_⟩
      have gD6 := e7 _ _ nD3 j1
      refine ⟨vs, gD6, small1000 (by omega), (e1.trans e7).upd hD3, Tape.put TN (e1.trans e7) t7 hD3, vs ++ [v], ks ++ [k7], upd_same, ?_, by rw [List.length_append, j3]; rfl, ?_⟩
      · have tu : Tups H7 (upd H7 D3 (.lst (vs ++ [v]))) := Tups.put gD6 (by intro xs z; cases z)
        exact Paired.snoc (KdsAt.tups ((Ext.tups e7 t1).trans tu) j2) (KdAt.tups tu f1')
      · intro k hk
        rcases List.mem_append.mp hk with q' | q'
        · exact j4 k q'
        · rw [List.mem_singleton.mp q']
          exact Kd.fit_mono (by decide) f2'
    · have eMO := eN.trans eO
      have tMO := Ext.tups eMO TM
      have EO := EM.trans eMO
      have tbO := tabs_ext tbM eMO TM
      have g7 := eMO _ _ nl7 g7
      have husO := NdsAt.tups tMO husM
      have g3 := eMO _ _ nl3 g3
      have schO := schM.ext TM eMO
      have kO6 := kM.tups tMO
      clear eN eO TN TM EM eMO tMO tbM husM schM kM cnM g4
      refine ⟨x, p, l7, D3, v6, v6, us, us, kus, kd, nds, ks, rfl, schO, f8, nok, by omega, kO6, g7, husO, gO, kO, fO, by omega, tbO, fun HP eP tbP => ?_⟩
      refine ⟨_, rfl, iF rfl ?_⟩
      have TP := (tape_extN tO eP).less (show b + 60 ≤ _ by omega)
      have tP := tups_extN eP
      have g7 := eP _ _ g7 (fun ps z => by cases z)
      have husP := NdsAt.tups tP husO
      have g3 := eP _ _ g3 (fun ps z => by cases z)
      have schP := schO.extN eP
      have kP6 := kO6.tups tP
      clear husO schO kO6 tbO tO gO kO eP tP EO
      -- the plain scheme
      obtain ⟨dx, fs, r, gx, ff, gr⟩ := id schP.ex
      obtain ⟨by', hby⟩ : ∃ by', by' = (Vars kd nds).zip ((fstN (Vars kd nds).length).map Kd.var) := ⟨_, rfl⟩
      have lfn : (fstN (Vars kd nds).length).length = (Vars kd nds).length := fst_len (by omega)
      refine ⟨_, rfl, x, dx, fs, rfl, gx, ff.nn, x, p, v6, us, kd, nds, rfl, schP, f8, nC, nok, by omega, by omega, fun HQ y p2 v2' us2 sQ _ sch2 => ?_⟩
      rw [← hby] at sch2
      have gxQ := sQ _ _ gx
      have grQ := sQ _ _ gr
      refine ⟨_, rfl, x, C, dx, fs, .ref r, rfl, gxQ, SC.cl, SC.nv, ff.vars, r, _, rfl, SqT.of grQ, fun D4 hD4 => lc_it walk_enumT (fun i H' => Same HQ H' ∧ ∃ (ps : List Addr) (kvs : List (Key × V)), H' D4 = some (.lst (ps.map V.ref)) ∧ Paired (fun p kv => p ≠ D4 ∧ H' p = some (.tup [kV kv.1, kv.2])) ps kvs ∧ ByAt H' kvs (by'.take i) ∧ ps.length = i) ⟨same_new hD4, [], [], upd_same, .nil, .nil, rfl⟩ (fun i H' _ h => SqT.of (h.1 _ _ grQ)) ?_ ?_⟩
      · rintro i v H5 H6 hi ⟨s5, ps, kvs, g5, p5, b5, l5⟩ ⟨T, y', z, rfl, hT', rfl, ey, ez⟩
        rw [List.length_map] at hi
        have ey : y' = .int (i : Int) := (Option.some.inj ey).symm
        subst ey
        obtain ⟨nm, hnm, rfl⟩ : ∃ nm, (Vars kd nds)[i]? = some nm ∧ z = V.str nm := by
          replace ez : ((Vars kd nds).map V.str)[i]? = some z := ez
          rw [List.getElem?_map] at ez
          cases e : (Vars kd nds)[i]? with
          | none => rw [e] at ez; cases ez
          | some nm => rw [e] at ez; exact ⟨nm, rfl, by cases ez; rfl⟩
        have hbi : by'[i]? = some (nm, .var (sgn i)) := by
          rw [hby, fst_four _ few, List.getElem?_zip_eq_some]
          refine ⟨hnm, ?_⟩
          rw [List.map_map, List.getElem?_map, List.getElem?_range (by omega)]
          rfl
        have zA := same_new (o := .tup [.int (i : Int), .str nm]) hT'
        have gT : (upd H5 T (.tup [.int (i : Int), .str nm])) T = some (.tup [.int (i : Int), .str nm]) := upd_same
        generalize upd H5 T (.tup [.int (i : Int), .str nm]) = H6 at zA gT ⊢
        refine ⟨T, _, rfl, SqT.of gT, rfl, _, _, rfl, _, _, rfl, rfl, ?_⟩
        refine ⟨rfl, ?_⟩
        refine ⟨_, rfl, _, rfl, "abcd", _, _, rfl, rfl, slz rfl, at_ofG (j := i) rfl (abcd_at i (by omega)), slz rfl, fun vq hvq => ?_⟩
        have zB := zA.trans (same_new (o := .tup [.str "var", .str (⟨#[97 + i]⟩ : Str)]) hvq)
        have gv : (upd H6 vq (.tup [.str "var", .str (⟨#[97 + i]⟩ : Str)])) vq = some (.tup [.str "var", .str (⟨#[97 + i]⟩ : Str)]) := upd_same
        refine ⟨slz rfl, fun pq hpq => ?_⟩
        have zC := same_new (o := .tup [.str nm, .ref vq]) hpq
        have g5C := zC _ _ (zB _ _ g5)
        have gvC := zC _ _ gv
        have gpq : (upd (upd H6 vq (.tup [.str "var", .str (⟨#[97 + i]⟩ : Str)])) pq (.tup [.str nm, .ref vq])) pq = some (.tup [.str nm, .ref vq]) := upd_same
        have npq : pq ≠ D4 := fun e => by
          have := zB _ _ g5
          rw [← e] at this
          have h2 : (upd H6 vq (.tup [.str "var", .str (⟨#[97 + i]⟩ : Str)])) pq = none := hpq
          rw [this] at h2
          cases h2
        have zC := zB.trans zC
        generalize upd (upd H6 vq (.tup [.str "var", .str (⟨#[97 + i]⟩ : Str)])) pq (.tup [.str nm, .ref vq]) = H7 at zC g5C gvC gpq ⊢
        refine ⟨_, g5C, szl (by rw [List.length_map]; omega), fun b o e => ?_, ps ++ [pq], kvs ++ [(.inr nm, .ref vq)], ?_, ?_, ?_, by rw [List.length_append, l5]; rfl⟩
        · rw [upd_ne (ne_of_none e hD4)]
          exact zC _ _ (s5 _ _ e)
        · rw [upd_same, List.map_append]
          rfl
        · exact Paired.snoc (paired_map (fun b kv h => ⟨h.1, by rw [upd_ne h.1]; exact zC _ _ h.2⟩) p5) ⟨npq, by rw [upd_ne npq]; exact gpq⟩
        · have tp : Tups H7 (upd H7 D4 (.lst (ps.map V.ref ++ [.ref pq]))) := Tups.put g5C nofun
          rw [List.take_add_one, hbi]
          exact Paired.snoc (ByAt.tups ((same_tups zC).trans tp) b5) ⟨rfl, vq, rfl, tp _ _ gvC⟩
      rintro HR ⟨sR, ps, kvs, gR, pR, bR, lR⟩
      have lby : by'.length = (Vars kd nds).length := by
        rw [hby, List.length_zip, List.length_map, lfn]
        omega
      rw [List.length_map, List.take_of_length_le (by omega)] at bR
      have nby : (names by').Nodup := by
        have e : names by' = Vars kd nds := by
          unfold names
          rw [hby]
          exact List.map_fst_zip (by rw [List.length_map, lfn]; exact Nat.le_refl _)
        rw [e]
        exact vars_nodup _ _
      refine ⟨D4, ps, kvs, rfl, SqL.of gR, paired_map (fun b kv h => SqT.of h.2) pR, fun pD hpD => ?_⟩
      rw [by_merge bR nby]
      have zS := same_new (o := .dK kvs) hpD
      have sS := (sQ.trans sR).trans zS
      have gS : (upd HR pD (.dK kvs)) pD = some (.dK kvs) := upd_same
      have bS := ByAt.tups (same_tups zS) bR
      have sch3 := sch2.same (sR.trans zS)
      generalize upd HR pD (.dK kvs) = HS at sS gS bS sch3 ⊢
      refine ⟨slz rfl, fun qp hqp => ⟨qp, _, rfl, SqT.of upd_same, rfl, _, _, rfl, _, _, rfl, rfl, ?_⟩⟩
      have zT := same_new (o := .tup [.ref y, .ref pD]) hqp
      have sT := sS.trans zT
      have gT := zT _ _ gS
      have bT := ByAt.tups (same_tups zT) bS
      have sch4 := sch3.same zT
      generalize upd HS qp (.tup [.ref y, .ref pD]) = HT at sT gT bT sch4 ⊢
      clear zT zS sS gS bS sch3 bR pR gR sR sch2 sQ gxQ grQ
      -- it has the kind and the needs that are due
      obtain ⟨dy, fy, ry, gy, fyy, gry⟩ := id sch4.ex
      refine ⟨_, rfl, y, C, dy, fy, v2', rfl, gy, SC.cl, SC.nk, fyy.kind, _, rfl, y, C, dy, fy, .ref p2, rfl, gy, SC.cl, SC.nn, fyy.needs, slz rfl, fun qa hqa => ?_⟩
      have zU := same_new (o := .tup [v2', .ref p2]) hqa
      have sU := sT.trans zU
      have gU := zU _ _ gT
      have bU := ByAt.tups (same_tups zU) bT
      have sch5 := sch4.same zU
      have ga : (upd HT qa (.tup [v2', .ref p2])) qa = some (.tup [v2', .ref p2]) := upd_same
      generalize upd HT qa (.tup [v2', .ref p2]) = HU at sU gU bU sch5 ga ⊢
      clear zU sT gT bT sch4 gy gry
      have kU := kP6.tups (same_tups sU)
      have husU := NdsAt.tups (same_tups sU) husP
      refine ⟨_, rfl, _, rfl, v6, pD, kd, kvs, by', rfl, kU, f8, gU, bU, fun HV v3' zV kV => ?_⟩
      have sV := sU.trans zV
      have gV := zV _ _ gU
      have bV := ByAt.tups (same_tups zV) bU
      have g7V := sV _ _ g7
      refine ⟨_, rfl, l7, rfl, ⟨_, SqL.of g7V⟩, fun D5 hD5 => lc_it walk_list (fun i H' => Same HV H' ∧ ∃ wz, H' D5 = some (.lst wz) ∧ NdsAt H' wz ((nds.take i).map (·.put by'))) ⟨same_new hD5, [], upd_same, .nil⟩ (fun i H' _ h => SqL.of (h.1 _ _ g7V)) ?_ ?_⟩
      · rintro i y5 H4 H5 hi ⟨s4, wz, g4', w4'⟩ ⟨rfl, ey⟩
        obtain ⟨nd, hnd, hy⟩ := paired_get husP ey
        have S4 := sV.trans s4
        refine ⟨rfl, ?_⟩
        have okn := (nok nd (List.mem_of_getElem? hnd)).at
        refine ⟨_, rfl, _, rfl, y5, pD, nd, kvs, by', rfl, hy.tups (same_tups S4), okn.1, okn.2.1, okn.2.2, s4 _ _ gV, ByAt.tups (same_tups s4) bV, fun H6 v6' s6 k6 => ?_⟩
        have g6 := s6 _ _ g4'
        have lws' : wz.length ≤ 90 := by
          rw [Paired.length w4', List.length_map, List.length_take]
          omega
        refine ⟨wz, g6, szl (by omega), fun b o z => ?_, wz ++ [v6'], upd_same, ?_⟩
        · rw [upd_ne (ne_of_none z hD5)]
          exact s6 _ _ (s4 _ _ z)
        · have tp : Tups H6 (upd H6 D5 (.lst (wz ++ [v6']))) := Tups.put g6 nofun
          rw [List.take_add_one, hnd, List.map_append]
          exact Paired.snoc (NdsAt.tups tp (NdsAt.tups (same_tups s6) w4')) (k6.tups tp)
      rintro HW ⟨sW, wz, gW, wW⟩
      rw [lus, List.take_length] at wW
      refine ⟨D5, wz, rfl, .inl ⟨SqL.of gW, fun pe hpe => ?_⟩⟩
      have zX := same_new (o := .tup wz) hpe
      have sX := sW.trans zX
      have gX : (upd HW pe (.tup wz)) pe = some (.tup wz) := upd_same
      have wX := NdsAt.tups (same_tups zX) wW
      generalize upd HW pe (.tup wz) = HX at sX gX wX ⊢
      refine ⟨slz rfl, fun qe hqe => ?_⟩
      have zY := same_new (o := .tup [v3', .ref pe]) hqe
      have sY := sX.trans zY
      have gY := zY _ _ gX
      have wY := NdsAt.tups (same_tups zY) wX
      have ge : (upd HX qe (.tup [v3', .ref pe])) qe = some (.tup [v3', .ref pe]) := upd_same
      generalize upd HX qe (.tup [v3', .ref pe]) = HY at sY gY wY ge ⊢
      have tUY := same_tups (zV.trans sY)
      have hlk : ∀ x k, lk by' x = some k → k.fit 0 := fun x k e => by
        rw [hby] at e
        obtain ⟨y, hy, rfl⟩ := lk_zip e
        exact fitV (fst_all y (List.mem_of_mem_take hy)).1
      have f1 : (kd.put by').fit 40 := Kd.fit_mono (by decide) (Kd.fit_put hlk f8)
      have f2 : ∀ nd ∈ nds.map (·.put by'), Nfit nd := fun nd h => by
        obtain ⟨n0, h0, rfl⟩ := List.mem_map.mp h
        refine ⟨(nok n0 h0).nm.1, fun k hk => ?_⟩
        obtain ⟨k0, hk0, rfl⟩ := List.mem_map.mp (show k ∈ n0.ks.map _ from hk)
        exact Kd.fit_mono (by decide) (Kd.fit_put hlk ((nok n0 h0).ks k0 hk0).1)
      refine ⟨.tuple [(kd.put by').dat, .tuple ((nds.map (·.put by')).map Nd.dat)], .tuple [(kd.put by').dat, .tuple ((nds.map (·.put by')).map Nd.dat)], two_dp (tUY _ _ ga) (tUY _ _ sch5.needs) (sch5.kd.tups tUY) (NdsAt.tups tUY sch5.nds), two_dp ge gY (kV.tups (same_tups sY)) wY, twoT_shape f1 f2, twoT_shape f1 f2, _, rfl, iF (by rw [two_eqv]; rfl) ?_⟩
      have SY := sV.trans sY
      have TY := TP.same SY
      have tbY := tbP.ext SY
      have g7 := SY _ _ g7
      have husY := NdsAt.tups (same_tups SY) husP
      have g3 := SY _ _ g3
      have kY := kP6.tups (same_tups SY)
      clear ge gY wY gX wX gW wW gV bV gU bU sch5 ga kU husU sU sV zV sY sX sW zX zY tUY TP tbP husP kP6 schP
      -- a list that is handed, then changed
      refine ⟨_, rfl, l7, us, rfl, .inl (SqL.of g7), fun l12 hl12 => ?_⟩
      have n7 : l7 ≠ l12 := ne_of_none g7 hl12
      have n3 : l3 ≠ l12 := ne_of_none g3 hl12
      have zZ := same_new (o := .lst us) hl12
      have g12 : (upd HY l12 (.lst us)) l12 = some (.lst us) := upd_same
      generalize upd HY l12 (.lst us) = HZ at zZ g12 ⊢
      have tZ := same_tups zZ
      refine ⟨rfl, _, rfl, _, rfl, t, l12, v6, us, kd.dat, nds.map Nd.dat, rfl, g12, by omega, mkw_of (kY.tups tZ) (NdsAt.tups tZ husY) f8 nok, mkout_of (kY.tups tZ) (NdsAt.tups tZ husY) f8 nC nok (by omega) fun Hk xk pk sk _ schk => ?_⟩
      have Sk := zZ.trans sk
      have g12 := sk _ _ g12
      refine ⟨_, rfl, .inl ⟨rfl, _, SqL.of g12⟩, _, rfl, l3, _, 3, _, rfl, rfl, SqL.of (Sk _ _ g3), i3, _, rfl, l3, _, 0, _, rfl, rfl, SqL.of (Sk _ _ g3), i0, slz rfl, fun qi hqi => ⟨slz rfl, fun qo hqo => ?_⟩⟩
      have s2 := (same_new (o := .tup [.str "con", .str w0]) hqi).trans (same_new (o := .tup [.str w3, .ref qi]) hqo)
      have S2 := Sk.trans s2
      have g12 := s2 _ _ g12
      have schk := schk.same s2
      generalize upd (upd Hk qi (.tup [.str "con", .str w0])) qo (.tup [.str w3, .ref qi]) = Hm at s2 S2 g12 schk ⊢
      refine ⟨l12, _, _, rfl, rfl, g12, szl (by omega), ?_⟩
      have schm := schk.lput (zs := us ++ [.ref qo]) g12
      have tm : Tups HY (upd Hm l12 (.lst (us ++ [.ref qo]))) := (same_tups S2).trans (Tups.put g12 nofun)
      have em : Ext t HY (upd Hm l12 (.lst (us ++ [.ref qo]))) := (same_ext S2).upd hl12
      have Tm := Tape.put (o := .lst (us ++ [.ref qo])) TY (same_ext S2) (TY.same S2) hl12
      have tbm := tabs_ext tbY em TY
      have g7m : (upd Hm l12 (.lst (us ++ [.ref qo]))) l7 = some (.lst us) := by rw [upd_ne n7]; exact S2 _ _ g7
      have g3m : (upd Hm l12 (.lst (us ++ [.ref qo]))) l3 = some (.lst (wh.map V.str)) := by rw [upd_ne n3]; exact S2 _ _ g3
      have husm := NdsAt.tups tm husY
      have km := kY.tups tm
      generalize upd Hm l12 (.lst (us ++ [.ref qo])) = Hn at schm Tm tbm g7m g3m husm km ⊢
      refine ⟨_, rfl, _, rfl, _, rfl, _, rfl, t, c, l7, l3, v6, us, kd, nds, wh, b + 58, rfl, km, f8, nC, g7m, husm, nok, by omega, SqL.of g3m, nwh, swh, lwh, Tm.less (by omega), tbm, fun Hx xx Tx tbx => ?_⟩
      have schx := schm.xtn xx Tm
      have tx := tups_xtn xx Tm
      have g7x := XtN.lst xx nl7 g7m
      obtain ⟨dk, fk, rk, gk, ffk, _⟩ := id schx.ex
      refine ⟨_, rfl, iF rfl ?_⟩
      refine ⟨_, rfl, xk, C, dk, fk, .ref pk, rfl, gk, SC.cl, SC.nn, ffk.needs, _, rfl, l7, us, rfl, .inl ⟨SqL.of g7x, fun pz hpz => ?_⟩⟩
      have sz2 := same_new (o := .tup us) hpz
      have gpz : (upd Hx pz (.tup us)) pz = some (.tup us) := upd_same
      generalize upd Hx pz (.tup us) = Hy at sz2 gpz ⊢
      have ty := tx.trans (same_tups sz2)
      refine ⟨.tuple (nds.map Nd.dat), .tuple (nds.map Nd.dat), .tup (SqT.of (sz2 _ _ schx.needs)) (NdsAt.dp (NdsAt.tups (same_tups sz2) schx.nds)), .tup (SqT.of gpz) (NdsAt.dp (NdsAt.tups ty husm)), nds_shape nfit, nds_shape nfit, _, rfl, iF (by rw [nds_eqv]; rfl) ?_⟩
      refine ⟨_, _, _, _, _, _, _, _, _, _, _, _, rfl, ?_, tbx.ext sz2⟩
      rw [← hb]
      exact (Tx.same sz2).less (by omega)
  · obtain ⟨v2, v3, v4, v5, v6, v7, v8, v9, v10, v11, v12, v13, rfl, T2, tb2⟩ := h
    exact ⟨rfl, fun H3 _ => k H3⟩
end
end L3

/-! a dict of the module whose keys are texts: what it has -/
namespace L3
open PySem L2
def keyNm (e : DictEntry) : Option Str := match e.key with
  | .str x _ => some x
  | _ => none
theorem has_of {K : PySem.W.Frag} {a : Addr} {es : Array DictEntry} {n : Nat} {ks : List Str} (l : K.lookup a = some ⟨.type "dict", none, .dict es n, #[]⟩) (hk : es.toList.map keyNm = ks.map some) : ∀ z : Str, ∃ r, PySem.W.nsIn K a z = some r ∧ r.isSome = decide (z ∈ ks) := by
  intro z
  unfold PySem.W.nsIn
  rw [l]
  show ∃ r, (match es.toList.find? (·.key.isStr z) with
    | some e => some (some e.val)
    | none => if es.toList.any (·.refKey) then none else some none) = some r ∧ _
  generalize es.toList = l at hk
  have key : ∀ (l : List DictEntry) (ks : List Str), l.map keyNm = ks.map some → (l.find? (·.key.isStr z)).isSome = decide (z ∈ ks) ∧ l.any (·.refKey) = false := by
    intro l
    induction l with
    | nil =>
      intro ks h
      cases ks with
      | nil => exact ⟨rfl, rfl⟩
      | cons _ _ => cases h
    | cons e r ih =>
      intro ks h
      cases ks with
      | nil => cases h
      | cons x ks =>
        rw [List.map_cons, List.map_cons] at h
        injection h with h1 h2
        obtain ⟨i1, i2⟩ := ih ks h2
        obtain ⟨tk, ek⟩ : ∃ tk, e.key = .str x tk := by
          unfold keyNm at h1
          split at h1
          · rename_i y tk q
            injection h1 with h1
            exact ⟨tk, by rw [q, h1]⟩
          · cases h1
        refine ⟨?_, ?_⟩
        · rw [List.find?_cons]
          have es : e.key.isStr z = decide (z = x) := by
            rw [ek]
            show (x == z) = decide (z = x)
            rw [Bool.eq_iff_iff, beq_iff_eq, decide_eq_true_eq]
            exact eq_comm
          rw [es]
          by_cases c : z = x
          · rw [decide_eq_true c]
            simp [c]
          · rw [decide_eq_false c]
            simp only [i1]
            rw [Bool.eq_iff_iff, decide_eq_true_eq, decide_eq_true_eq, List.mem_cons]
            exact ⟨.inr, fun h => h.resolve_left c⟩
        · rw [List.any_cons, i2, Bool.or_false]
          unfold DictEntry.refKey
          rw [ek]
  obtain ⟨k1, k2⟩ := key l ks hk
  cases hf : l.find? (·.key.isStr z) with
  | some e =>
    rw [hf] at k1
    exact ⟨some e.val, rfl, k1⟩
  | none =>
    rw [hf] at k1
    refine ⟨none, ?_, k1⟩
    show (if l.any (·.refKey) = true then none else some none) = some none
    rw [k2]
    rfl
end L3

namespace L3
open PySem L2 StX LamX ClX
/-- a def stands at f -/
def HasFn (K : PySem.W.Frag) (f : Addr) (x q : Str) (st : Stmt) : Prop := ∃ (oc : Value) (od : Option Addr) (kV dc pm : Value) (an : Option Addr) (cd ct : Value) (sl : Array (Option Value)), K.lookup f = some ⟨oc, od, .func (PySem.W.fnOf x q (defArgs st) (defBody st) (defScope st) .none kV dc pm an cd ct), sl⟩ ∧ PySem.W.codeIn K cd q = true ∧ PySem.W.keepIn K (.ref f) = true
theorem fn_is {K : PySem.W.Frag} {f : Addr} {x q : Str} {st : Stmt} {oc : Value} {od : Option Addr} {kV dc pm : Value} {an : Option Addr} {cd ct : Value} {sl : Array (Option Value)} (l : K.lookup f = some ⟨oc, od, .func (PySem.W.fnOf x q (defArgs st) (defBody st) (defScope st) .none kV dc pm an cd ct), sl⟩) (c : PySem.W.codeIn K cd q = true) (k : PySem.W.keepIn K (.ref f) = true) : HasFn K f x q st := ⟨oc, od, kV, dc, pm, an, cd, ct, sl, l, c, k⟩

/-- what K says of a class of errors -/
structure Kc (K : PySem.W.Frag) (x : Str) (bm : List Value) (C : Addr) : Prop where
  ns : PySem.W.nsIn K mainGlobals x = some (some (.ref C))
  kC : PySem.W.keepIn K (.ref C) = true
  dct : PySem.W.hasDictIn K C = true
  ga : PySem.W.findIn K (.ref C) "__getattribute__" = some (some (.builtin "BaseException.__getattribute__"))
  gg : PySem.W.findIn K (.ref C) "__getattr__" = some none
  sb : PySem.W.subIn K (.ref C) (.type "BaseException") = some true
  cl : PySem.W.findIn K (.ref C) "__class__" = some (some (.builtin "object.__class__"))
  gs : PySem.W.specialIn K (.builtin "object.__class__") "__get__" = some (some (.builtin "getset_descriptor.__get__"))
  tk : PySem.W.takesIn K (.builtin "object.__class__") = some true
  ob : PySem.W.mroIn K C (.type "object") = some true
  cd : ∃ cd, PySem.W.clsIn K C = some cd ∧ cd.mro = .ref C :: bm
  ty : PySem.W.typeIn K (.ref C) = some (.type "type")
theorem kc_is {K : PySem.W.Frag} {x : Str} {bm : List Value} {C : Addr} {cd : ClassData} (a1 : PySem.W.nsIn K mainGlobals x = some (some (.ref C))) (a2 : PySem.W.keepIn K (.ref C) = true) (a3 : PySem.W.hasDictIn K C = true)
    (a4 : PySem.W.findIn K (.ref C) "__getattribute__" = some (some (.builtin "BaseException.__getattribute__"))) (a5 : PySem.W.findIn K (.ref C) "__getattr__" = some none) (a6 : PySem.W.subIn K (.ref C) (.type "BaseException") = some true) (a7 : PySem.W.findIn K (.ref C) "__class__" = some (some (.builtin "object.__class__")))
    (a8 : PySem.W.specialIn K (.builtin "object.__class__") "__get__" = some (some (.builtin "getset_descriptor.__get__"))) (a9 : PySem.W.takesIn K (.builtin "object.__class__") = some true) (a10 : PySem.W.mroIn K C (.type "object") = some true) (a11 : PySem.W.clsIn K C = some cd) (a12 : cd.mro = .ref C :: bm) (a13 : PySem.W.typeIn K (.ref C) = some (.type "type")) : Kc K x bm C :=
  ⟨a1, a2, a3, a4, a5, a6, a7, a8, a9, a10, ⟨cd, a11, a12⟩, a13⟩
theorem Kc.R {K : PySem.W.Frag} {x : Str} {bm : List Value} {C : Addr} (G : Kc K x bm C) : Xr K C := ⟨G.ga, G.gg, G.sb, G.dct, G.cl, G.gs, G.tk, G.ob⟩
/-- what it says of one with an own __init__ -/
structure Ki (K : PySem.W.Frag) (C : Addr) (bm : List Value) (nw : String) (fI : Addr) : Prop where
  ini : PySem.W.excInitIn K C bm nw = true
  ov : PySem.W.excOver K C bm = true
  sa : PySem.W.findIn K (.ref C) "__setattr__" = some (some (.builtin "object.__setattr__"))
  iC : PySem.W.findIn K (.ref C) "__init__" = some (some (.ref fI))
  tI : PySem.W.typeIn K (.ref fI) = some (.type "function")
theorem tk_of {K : PySem.W.Frag} {C : Addr} {f : Str} (h : PySem.W.findIn K (.ref C) f = some none) : PySem.W.takerIn K C f = some none := by
  unfold PySem.W.takerIn
  rw [h]
  rfl
section
variable {P : Program} {w : World} {K : PySem.W.Frag} {mg : Str → Option Value} {base : Heap}
theorem e1_of {x f : Str} {bm : List Value} {nw : String} {C fI : Addr} {fd : FuncData} (G : Kc K x bm C) (N : Ki K C bm nw fI) (hm : mg x = some (.ref C)) (no : PySem.W.findIn K (.ref C) f = some none) (ok : FnOk P w K mg base CX0 1 fI fd ["self", f] (spI1 K bm nw f)) (b : Binds K fd ["self", f] []) (kb : KBinds K fd ["self", f] [f] g1 gV1) : E1 P w K mg base x f bm nw C :=
  ⟨hm, ⟨N.ini, N.ov, N.sa, G.kC, G.dct⟩, G.R, tk_of no, no, ⟨fI, fd, ok, N.iC, N.tI, b⟩, ⟨fI, fd, ok, N.iC, N.tI, kb⟩, G.cd, G.ty⟩

abbrev s_InvalidKind___init__ : Stmt := inS (topS 1) 0
abbrev N_InvalidKind___init__ : List Str := ["self", "value"]
theorem sc_InvalidKind___init__ : FnScope N_InvalidKind___init__ ["self", "value"] (defScope s_InvalidKind___init__) := ⟨rfl, rfl, rfl, by decide +kernel, rfl, by decide +kernel, by decide +kernel⟩
theorem i_InvalidKind {f : Addr} {fd : FuncData} (F : Fun K "__init__" "InvalidKind.__init__" s_InvalidKind___init__ f fd) : FnOk P w K mg base CX0 1 f fd ["self", "value"] (spI1 K mroV "ValueError.__new__" "value") := by
  refine F.ok sc_InvalidKind___init__ (fun vs H Q E h => ?_) (fun cdv A outer s H vs Q E hr h => ?_)
  · obtain ⟨a, C, v, rfl, _⟩ := h
    rfl
  · obtain ⟨a, C, v, rfl, T, ht, ha, k⟩ := h
    exact ⟨_, (pss_one (ps_setX (nw := "ValueError.__new__") PySem.F.store_ValueError (pv 0) (pv 1))), _, rfl, _, rfl, a, C, rfl, T, ht, .inl ⟨ha, k⟩⟩
abbrev s_InvalidNeed___init__ : Stmt := inS (topS 2) 0
abbrev N_InvalidNeed___init__ : List Str := ["self", "value"]
theorem sc_InvalidNeed___init__ : FnScope N_InvalidNeed___init__ ["self", "value"] (defScope s_InvalidNeed___init__) := ⟨rfl, rfl, rfl, by decide +kernel, rfl, by decide +kernel, by decide +kernel⟩
theorem i_InvalidNeed {f : Addr} {fd : FuncData} (F : Fun K "__init__" "InvalidNeed.__init__" s_InvalidNeed___init__ f fd) : FnOk P w K mg base CX0 1 f fd ["self", "value"] (spI1 K mroV "ValueError.__new__" "value") := by
  refine F.ok sc_InvalidNeed___init__ (fun vs H Q E h => ?_) (fun cdv A outer s H vs Q E hr h => ?_)
  · obtain ⟨a, C, v, rfl, _⟩ := h
    rfl
  · obtain ⟨a, C, v, rfl, T, ht, ha, k⟩ := h
    exact ⟨_, (pss_one (ps_setX (nw := "ValueError.__new__") PySem.F.store_ValueError (pv 0) (pv 1))), _, rfl, _, rfl, a, C, rfl, T, ht, .inl ⟨ha, k⟩⟩
abbrev s_InvalidCount___init__ : Stmt := inS (topS 3) 0
abbrev N_InvalidCount___init__ : List Str := ["self", "number"]
theorem sc_InvalidCount___init__ : FnScope N_InvalidCount___init__ ["self", "number"] (defScope s_InvalidCount___init__) := ⟨rfl, rfl, rfl, by decide +kernel, rfl, by decide +kernel, by decide +kernel⟩
theorem i_InvalidCount {f : Addr} {fd : FuncData} (F : Fun K "__init__" "InvalidCount.__init__" s_InvalidCount___init__ f fd) : FnOk P w K mg base CX0 1 f fd ["self", "number"] (spI1 K mroV "ValueError.__new__" "number") := by
  refine F.ok sc_InvalidCount___init__ (fun vs H Q E h => ?_) (fun cdv A outer s H vs Q E hr h => ?_)
  · obtain ⟨a, C, v, rfl, _⟩ := h
    rfl
  · obtain ⟨a, C, v, rfl, T, ht, ha, k⟩ := h
    exact ⟨_, (pss_one (ps_setX (nw := "ValueError.__new__") PySem.F.store_ValueError (pv 0) (pv 1))), _, rfl, _, rfl, a, C, rfl, T, ht, .inl ⟨ha, k⟩⟩
end
theorem fnr_of {P : Program} {w : World} {K : PySem.W.Frag} {mg : Str → Option Value} {base : Heap} {X : CXT} {f : Addr} {fd : FuncData} {ps : List Str} {k : Nat} {sp : Sp} (F : FnOk P w K mg base X k f fd ps sp) (hb : Binds K fd ps []) : FnR P w K mg base X k f sp := by
  have R := F.raw hb .nil
  intro A outer s H us vs Q E hr e0 r hs
  exact R A outer s H us vs Q E hr e0 r (show sp (vs ++ []) H Q E by rw [List.append_nil]; exact hs)
theorem all_mk {l : PySem.W.OpenLaw} {w : World} {K : PySem.W.Frag} {h : Heap} {mg : Str → Option Value} {fa bA CK CN CC CS gK gN gC fI fA fD fU pU f1 f2 f3 f4 f5 f6 f7 f8 f9 f10 f11 f12 f13 f14 f15 f16 f17 f18 f19 f20 f21 f22 f23 f24 f25 f26 f27 f28 f29 f30 f31 f32 f33 f34 f35 : Addr} {esB : Array DictEntry} {nB : Nat} {smU : List Value} (X : K.In h) (G : h.Ns mainGlobals mg) (hfa : mg "law" = some (.ref fa))
    (a1 : PySem.W.nsIn K mainGlobals "is_word" = some (some (.ref f1))) (u1 : HasFn K f1 "is_word" "is_word" s_is_word)
    (a2 : PySem.W.nsIn K mainGlobals "is_name" = some (some (.ref f2))) (u2 : HasFn K f2 "is_name" "is_name" s_is_name)
    (a3 : PySem.W.nsIn K mainGlobals "letters_at" = some (some (.ref f3))) (u3 : HasFn K f3 "letters_at" "letters_at" s_letters_at)
    (a4 : PySem.W.nsIn K mainGlobals "names_beside" = some (some (.ref f4))) (u4 : HasFn K f4 "names_beside" "names_beside" s_names_beside)
    (a5 : PySem.W.nsIn K mainGlobals "first_names" = some (some (.ref f5))) (u5 : HasFn K f5 "first_names" "first_names" s_first_names)
    (a6 : PySem.W.nsIn K mainGlobals "var" = some (some (.ref f6))) (u6 : HasFn K f6 "var" "var" s_var)
    (a7 : PySem.W.nsIn K mainGlobals "is_kind" = some (some (.ref f7))) (u7 : HasFn K f7 "is_kind" "is_kind" s_is_kind)
    (a8 : PySem.W.nsIn K mainGlobals "is_leaf" = some (some (.ref f8))) (u8 : HasFn K f8 "is_leaf" "is_leaf" s_is_leaf)
    (a9 : PySem.W.nsIn K mainGlobals "leaves_of" = some (some (.ref f9))) (u9 : HasFn K f9 "leaves_of" "leaves_of" s_leaves_of)
    (a10 : PySem.W.nsIn K mainGlobals "size_of" = some (some (.ref f10))) (u10 : HasFn K f10 "size_of" "size_of" s_size_of)
    (a11 : PySem.W.nsIn K mainGlobals "variables_of" = some (some (.ref f11))) (u11 : HasFn K f11 "variables_of" "variables_of" s_variables_of)
    (a12 : PySem.W.nsIn K mainGlobals "put" = some (some (.ref f12))) (u12 : HasFn K f12 "put" "put" s_put)
    (a13 : PySem.W.nsIn K mainGlobals "is_need" = some (some (.ref f13))) (u13 : HasFn K f13 "is_need" "is_need" s_is_need)
    (a14 : PySem.W.nsIn K mainGlobals "put_need" = some (some (.ref f14))) (u14 : HasFn K f14 "put_need" "put_need" s_put_need)
    (a15 : PySem.W.nsIn K mainGlobals "put_needs" = some (some (.ref f15))) (u15 : HasFn K f15 "put_needs" "put_needs" s_put_needs)
    (a16 : PySem.W.nsIn K mainGlobals "kinds_of" = some (some (.ref f16))) (u16 : HasFn K f16 "kinds_of" "kinds_of" s_kinds_of)
    (a17 : PySem.W.nsIn K mainGlobals "_law_begin" = some (some (.ref f17))) (u17 : HasFn K f17 "_law_begin" "_law_begin" s__law_begin)
    (a18 : PySem.W.nsIn K mainGlobals "_law_draw" = some (some (.ref f18))) (u18 : HasFn K f18 "_law_draw" "_law_draw" s__law_draw)
    (a19 : PySem.W.nsIn K mainGlobals "_law_pick" = some (some (.ref f19))) (u19 : HasFn K f19 "_law_pick" "_law_pick" s__law_pick)
    (a20 : PySem.W.nsIn K mainGlobals "_law_odd" = some (some (.ref f20))) (u20 : HasFn K f20 "_law_odd" "_law_odd" s__law_odd)
    (a21 : PySem.W.nsIn K mainGlobals "_law_words" = some (some (.ref f21))) (u21 : HasFn K f21 "_law_words" "_law_words" s__law_words)
    (a22 : PySem.W.nsIn K mainGlobals "_law_con" = some (some (.ref f22))) (u22 : HasFn K f22 "_law_con" "_law_con" s__law_con)
    (a23 : PySem.W.nsIn K mainGlobals "_law_put" = some (some (.ref f23))) (u23 : HasFn K f23 "_law_put" "_law_put" s__law_put)
    (a24 : PySem.W.nsIn K mainGlobals "_law_vars" = some (some (.ref f24))) (u24 : HasFn K f24 "_law_vars" "_law_vars" s__law_vars)
    (a25 : PySem.W.nsIn K mainGlobals "_law_with" = some (some (.ref f25))) (u25 : HasFn K f25 "_law_with" "_law_with" s__law_with)
    (a26 : PySem.W.nsIn K mainGlobals "_law_letter_kind" = some (some (.ref f26))) (u26 : HasFn K f26 "_law_letter_kind" "_law_letter_kind" s__law_letter_kind)
    (a27 : PySem.W.nsIn K mainGlobals "_law_count_leaves" = some (some (.ref f27))) (u27 : HasFn K f27 "_law_count_leaves" "_law_count_leaves" s__law_count_leaves)
    (a28 : PySem.W.nsIn K mainGlobals "_law_refused" = some (some (.ref f28))) (u28 : HasFn K f28 "_law_refused" "_law_refused" s__law_refused)
    (a29 : PySem.W.nsIn K mainGlobals "_law_scheme_of" = some (some (.ref f29))) (u29 : HasFn K f29 "_law_scheme_of" "_law_scheme_of" s__law_scheme_of)
    (a30 : PySem.W.nsIn K mainGlobals "_law_put_at" = some (some (.ref f30))) (u30 : HasFn K f30 "_law_put_at" "_law_put_at" s__law_put_at)
    (a31 : PySem.W.nsIn K mainGlobals "_law_needs_drawn" = some (some (.ref f31))) (u31 : HasFn K f31 "_law_needs_drawn" "_law_needs_drawn" s__law_needs_drawn)
    (a32 : PySem.W.nsIn K mainGlobals "_law_is_wide_right" = some (some (.ref f32))) (u32 : HasFn K f32 "_law_is_wide_right" "_law_is_wide_right" s__law_is_wide_right)
    {ocPP kVPP dcPP pmPP ctPP : Value} {odPP anPP : Option Addr} {slPP : Array (Option Value)} {cP_ PP : Addr} (a33 : PySem.W.nsIn K mainGlobals "_law_is_put_right" = some (some (.ref f33))) (lPP : K.lookup f33 = some ⟨ocPP, odPP, .func (PySem.W.fnOf "_law_is_put_right" "_law_is_put_right" (defArgs s__law_is_put_right) (defBody s__law_is_put_right) (defScope s__law_is_put_right) .none kVPP dcPP pmPP anPP (.ref cP_) ctPP), slPP⟩) (cPP : PySem.W.codeIn K (.ref cP_) "_law_is_put_right" = true) (kPP : PySem.W.keepIn K (.ref f33) = true) (hPP : PySem.W.codeHdIn K cP_ PP = true)
    {ocPR kVPR dcPR pmPR ctPR : Value} {odPR anPR : Option Addr} {slPR : Array (Option Value)} {cR_ PR : Addr} (a34 : PySem.W.nsIn K mainGlobals "_law_is_refused_right" = some (some (.ref f34))) (lPR : K.lookup f34 = some ⟨ocPR, odPR, .func (PySem.W.fnOf "_law_is_refused_right" "_law_is_refused_right" (defArgs s__law_is_refused_right) (defBody s__law_is_refused_right) (defScope s__law_is_refused_right) .none kVPR dcPR pmPR anPR (.ref cR_) ctPR), slPR⟩) (cPR : PySem.W.codeIn K (.ref cR_) "_law_is_refused_right" = true) (kPR : PySem.W.keepIn K (.ref f34) = true) (hPR' : PySem.W.codeHdIn K cR_ PR = true)
    {ocPL kVPL dcPL pmPL ctPL : Value} {odPL anPL : Option Addr} {slPL : Array (Option Value)} {cL_ : Addr} (a35 : PySem.W.nsIn K mainGlobals "law" = some (some (.ref f35))) (lPL : K.lookup f35 = some ⟨ocPL, odPL, .func (PySem.W.fnOf "law" "law" (defArgs s_law) (defBody s_law) (defScope s_law) .none kVPL dcPL pmPL anPL (.ref cL_) ctPL), slPL⟩) (cPL : PySem.W.codeIn K (.ref cL_) "law" = true) (kPL : PySem.W.keepIn K (.ref f35) = true)
    (z0 : PySem.W.nsIn K mainGlobals "len" = some none) (z1 : PySem.W.nsIn K mainGlobals "int" = some none) (z2 : PySem.W.nsIn K mainGlobals "list" = some none) (z3 : PySem.W.nsIn K mainGlobals "tuple" = some none) (z4 : PySem.W.nsIn K mainGlobals "dict" = some none) (z5 : PySem.W.nsIn K mainGlobals "repr" = some none) (z6 : PySem.W.nsIn K mainGlobals "range" = some none) (z7 : PySem.W.nsIn K mainGlobals "zip" = some none) (z8 : PySem.W.nsIn K mainGlobals "sorted" = some none) (z9 : PySem.W.nsIn K mainGlobals "isinstance" = some none) (z10 : PySem.W.nsIn K mainGlobals "all" = some none) (z11 : PySem.W.nsIn K mainGlobals "str" = some none) (z12 : PySem.W.nsIn K mainGlobals "tuple" = some none) (z13 : PySem.W.nsIn K mainGlobals "bool" = some none) (z14 : PySem.W.nsIn K mainGlobals "int" = some none) (z15 : PySem.W.nsIn K mainGlobals "ord" = some none) (z16 : PySem.W.nsIn K mainGlobals "abs" = some none) (z17 : PySem.W.nsIn K mainGlobals "max" = some none) (z18 : PySem.W.nsIn K mainGlobals "reversed" = some none) (z19 : PySem.W.nsIn K mainGlobals "sum" = some none) (z20 : PySem.W.nsIn K mainGlobals "enumerate" = some none) (z21 : PySem.W.nsIn K mainGlobals "divmod" = some none) (z22 : PySem.W.nsIn K mainGlobals "ValueError" = some none)
    {uL uT : Value} (aL : PySem.W.nsIn K mainGlobals "LONGEST" = some (some uL)) (rL : RelV (.int 8) uL) (aT : PySem.W.nsIn K mainGlobals "LETTERS" = some (some uT)) (rT : RelV (.str "abcdefghijklmnopqrstuvwxyz") uT)
    (xB : PySem.W.nsIn K mainGlobals "BARRED" = some (some (.ref bA))) (lkB : K.lookup bA = some ⟨.type "dict", none, .dict esB nB, #[]⟩) (kkB : PySem.W.KeysLit w.params esB.toList) (wkB : (bA == sysModules) = false) (vkB : esB.toList.map keyNm = barL.map some)
    (qK : Kc K "InvalidKind" mroV CK) (pK : Ki K CK mroV "ValueError.__new__" gK) (iK : HasFn K gK "__init__" "InvalidKind.__init__" s_InvalidKind___init__) (nK : PySem.W.findIn K (.ref CK) "value" = some none)
    (qN : Kc K "InvalidNeed" mroV CN) (pN : Ki K CN mroV "ValueError.__new__" gN) (iN : HasFn K gN "__init__" "InvalidNeed.__init__" s_InvalidNeed___init__) (nN : PySem.W.findIn K (.ref CN) "value" = some none)
    (qC : Kc K "InvalidCount" mroV CC) (pC : Ki K CC mroV "ValueError.__new__" gC) (iC : HasFn K gC "__init__" "InvalidCount.__init__" s_InvalidCount___init__) (nC : PySem.W.findIn K (.ref CC) "number" = some none)
    (e1 : (CN == CK) = false) (e2 : (CC == CK) = false) (e3 : (CC == CN) = false)
    (aS : PySem.W.nsIn K mainGlobals "Scheme" = some (some (.ref CS))) (cS : Cls K CS) (mS : L2.Mk K CS fI)
    (n1 : PySem.W.findIn K (.ref CS) "kind" = some none) (n2 : PySem.W.findIn K (.ref CS) "needs" = some none) (n3 : PySem.W.findIn K (.ref CS) "variables" = some none) (n4 : PySem.W.findIn K (.ref CS) "size" = some none) (uI : HasFn K fI "__init__" "Scheme.__init__" s_Scheme___init__)
    (mtA : PySem.W.findIn K (.ref CS) "at" = some (some (.ref fA))) (mfA : PySem.W.isFn K (.ref fA) = true) (mgA : PySem.W.specialIn K (.ref fA) "__get__" = some (some (.builtin "function.__get__"))) (mkA : PySem.W.takesIn K (.ref fA) = some false) (miA : PySem.W.fnIn K fA = true) (uA : HasFn K fA "at" "Scheme.at" s_Scheme_at)
    (mtD : PySem.W.findIn K (.ref CS) "named" = some (some (.ref fD))) (mfD : PySem.W.isFn K (.ref fD) = true) (mgD : PySem.W.specialIn K (.ref fD) "__get__" = some (some (.builtin "function.__get__"))) (mkD : PySem.W.takesIn K (.ref fD) = some false) (miD : PySem.W.fnIn K fD = true) (uD : HasFn K fD "named" "Scheme.named" s_Scheme_named)
    (sg : PySem.W.specialIn K (.ref CS) "__getattribute__" = some (some (.builtin "type.__getattribute__"))) (sr : PySem.W.readsIn K CS (.type "type") = true)
    (sU : PySem.W.findCls K (.ref CS) (.type "type") "under" = some (.get (.builtin "classmethod.__get__") (.ref pU) .none (.ref CS))) (rU : PySem.W.recIn K pU "classmethod" = some (.ref fU :: smU)) (fiU : PySem.W.fnIn K fU = true) (uU : HasFn K fU "under" "Scheme.under" s_Scheme_under)
    (hPR : (PP == PR) = false) :
    ∃ fd : FuncData, (∀ p ∈ [PP, PR], ∃ c, PySem.W.CodeHd h c p) ∧ (∀ (s : Shared) (v : Value), BindsTo s fd ⟨[v], []⟩ [("_law_script", v)]) ∧ ∀ base : Heap, K.In base → base.Ns mainGlobals mg → (∀ p ∈ [PP, PR], ∀ c, PySem.W.CodeHd h c p → TabB base mg c p) → LawRun l.prog w K mg base fa fd "_law_script" (spLaw K [PP, PR]) := by
  have e := hfa.symm.trans (PySem.W.mg_of X G a35)
  cases e
  have B : Bl mg := ⟨PySem.W.mg_none_of X G z0, PySem.W.mg_none_of X G z1, PySem.W.mg_none_of X G z2, PySem.W.mg_none_of X G z3, PySem.W.mg_none_of X G z4, PySem.W.mg_none_of X G z5, PySem.W.mg_none_of X G z6, PySem.W.mg_none_of X G z7, PySem.W.mg_none_of X G z8⟩
  have B9 : Bl9 mg := ⟨PySem.W.mg_none_of X G z9, PySem.W.mg_none_of X G z10, PySem.W.mg_none_of X G z11, PySem.W.mg_none_of X G z12, PySem.W.mg_none_of X G z13, PySem.W.mg_none_of X G z14, PySem.W.mg_none_of X G z15, PySem.W.mg_none_of X G z16, PySem.W.mg_none_of X G z17⟩
  have M : Mn K w mg bA esB nB := ⟨⟨_, PySem.W.mg_of X G aL, rL⟩, ⟨_, PySem.W.mg_of X G xB, rfl⟩, ⟨lkB, kkB, wkB⟩, has_of lkB vkB, ⟨_, PySem.W.mg_of X G aT, rT⟩, PySem.W.mg_none_of X G z21⟩
  have B5 : Bl5 mg := ⟨PySem.W.mg_none_of X G z18, PySem.W.mg_none_of X G z19⟩
  obtain ⟨oc1, od1, kV1, dc1, pm1, an1, cd1, ct1, sl1, l1, c1, k1⟩ := u1
  obtain ⟨oc2, od2, kV2, dc2, pm2, an2, cd2, ct2, sl2, l2, c2, k2⟩ := u2
  obtain ⟨oc3, od3, kV3, dc3, pm3, an3, cd3, ct3, sl3, l3, c3, k3⟩ := u3
  obtain ⟨oc4, od4, kV4, dc4, pm4, an4, cd4, ct4, sl4, l4, c4, k4⟩ := u4
  obtain ⟨oc5, od5, kV5, dc5, pm5, an5, cd5, ct5, sl5, l5, c5, k5⟩ := u5
  obtain ⟨oc6, od6, kV6, dc6, pm6, an6, cd6, ct6, sl6, l6, c6, k6⟩ := u6
  obtain ⟨oc7, od7, kV7, dc7, pm7, an7, cd7, ct7, sl7, l7, c7, k7⟩ := u7
  obtain ⟨oc8, od8, kV8, dc8, pm8, an8, cd8, ct8, sl8, l8, c8, k8⟩ := u8
  obtain ⟨oc9, od9, kV9, dc9, pm9, an9, cd9, ct9, sl9, l9, c9, k9⟩ := u9
  obtain ⟨oc10, od10, kV10, dc10, pm10, an10, cd10, ct10, sl10, l10, c10, k10⟩ := u10
  obtain ⟨oc11, od11, kV11, dc11, pm11, an11, cd11, ct11, sl11, l11, c11, k11⟩ := u11
  obtain ⟨oc12, od12, kV12, dc12, pm12, an12, cd12, ct12, sl12, l12, c12, k12⟩ := u12
  obtain ⟨oc13, od13, kV13, dc13, pm13, an13, cd13, ct13, sl13, l13, c13, k13⟩ := u13
  obtain ⟨oc14, od14, kV14, dc14, pm14, an14, cd14, ct14, sl14, l14, c14, k14⟩ := u14
  obtain ⟨oc15, od15, kV15, dc15, pm15, an15, cd15, ct15, sl15, l15, c15, k15⟩ := u15
  obtain ⟨oc16, od16, kV16, dc16, pm16, an16, cd16, ct16, sl16, l16, c16, k16⟩ := u16
  obtain ⟨oc17, od17, kV17, dc17, pm17, an17, cd17, ct17, sl17, l17, c17, k17⟩ := u17
  obtain ⟨oc18, od18, kV18, dc18, pm18, an18, cd18, ct18, sl18, l18, c18, k18⟩ := u18
  obtain ⟨oc19, od19, kV19, dc19, pm19, an19, cd19, ct19, sl19, l19, c19, k19⟩ := u19
  obtain ⟨oc20, od20, kV20, dc20, pm20, an20, cd20, ct20, sl20, l20, c20, k20⟩ := u20
  obtain ⟨oc21, od21, kV21, dc21, pm21, an21, cd21, ct21, sl21, l21, c21, k21⟩ := u21
  obtain ⟨oc22, od22, kV22, dc22, pm22, an22, cd22, ct22, sl22, l22, c22, k22⟩ := u22
  obtain ⟨oc23, od23, kV23, dc23, pm23, an23, cd23, ct23, sl23, l23, c23, k23⟩ := u23
  obtain ⟨oc24, od24, kV24, dc24, pm24, an24, cd24, ct24, sl24, l24, c24, k24⟩ := u24
  obtain ⟨oc25, od25, kV25, dc25, pm25, an25, cd25, ct25, sl25, l25, c25, k25⟩ := u25
  obtain ⟨oc26, od26, kV26, dc26, pm26, an26, cd26, ct26, sl26, l26, c26, k26⟩ := u26
  obtain ⟨oc27, od27, kV27, dc27, pm27, an27, cd27, ct27, sl27, l27, c27, k27⟩ := u27
  obtain ⟨oc28, od28, kV28, dc28, pm28, an28, cd28, ct28, sl28, l28, c28, k28⟩ := u28
  obtain ⟨oc29, od29, kV29, dc29, pm29, an29, cd29, ct29, sl29, l29, c29, k29⟩ := u29
  obtain ⟨oc30, od30, kV30, dc30, pm30, an30, cd30, ct30, sl30, l30, c30, k30⟩ := u30
  obtain ⟨oc31, od31, kV31, dc31, pm31, an31, cd31, ct31, sl31, l31, c31, k31⟩ := u31
  obtain ⟨oc32, od32, kV32, dc32, pm32, an32, cd32, ct32, sl32, l32, c32, k32⟩ := u32
  have F1 := fun_mk (st := s_is_word) l1 c1 k1
  have m1 := PySem.W.mg_of X G a1
  have F2 := fun_mk (st := s_is_name) l2 c2 k2
  have m2 := PySem.W.mg_of X G a2
  have F3 := fun_mk (st := s_letters_at) l3 c3 k3
  have m3 := PySem.W.mg_of X G a3
  have F4 := fun_mk (st := s_names_beside) l4 c4 k4
  have m4 := PySem.W.mg_of X G a4
  have F5 := fun_mk (st := s_first_names) l5 c5 k5
  have m5 := PySem.W.mg_of X G a5
  have F6 := fun_mk (st := s_var) l6 c6 k6
  have m6 := PySem.W.mg_of X G a6
  have F7 := fun_mk (st := s_is_kind) l7 c7 k7
  have m7 := PySem.W.mg_of X G a7
  have F8 := fun_mk (st := s_is_leaf) l8 c8 k8
  have m8 := PySem.W.mg_of X G a8
  have F9 := fun_mk (st := s_leaves_of) l9 c9 k9
  have m9 := PySem.W.mg_of X G a9
  have F10 := fun_mk (st := s_size_of) l10 c10 k10
  have m10 := PySem.W.mg_of X G a10
  have F11 := fun_mk (st := s_variables_of) l11 c11 k11
  have m11 := PySem.W.mg_of X G a11
  have F12 := fun_mk (st := s_put) l12 c12 k12
  have m12 := PySem.W.mg_of X G a12
  have F13 := fun_mk (st := s_is_need) l13 c13 k13
  have m13 := PySem.W.mg_of X G a13
  have F14 := fun_mk (st := s_put_need) l14 c14 k14
  have m14 := PySem.W.mg_of X G a14
  have F15 := fun_mk (st := s_put_needs) l15 c15 k15
  have m15 := PySem.W.mg_of X G a15
  have F16 := fun_mk (st := s_kinds_of) l16 c16 k16
  have m16 := PySem.W.mg_of X G a16
  have F17 := fun_mk (st := s__law_begin) l17 c17 k17
  have m17 := PySem.W.mg_of X G a17
  have F18 := fun_mk (st := s__law_draw) l18 c18 k18
  have m18 := PySem.W.mg_of X G a18
  have F19 := fun_mk (st := s__law_pick) l19 c19 k19
  have m19 := PySem.W.mg_of X G a19
  have F20 := fun_mk (st := s__law_odd) l20 c20 k20
  have m20 := PySem.W.mg_of X G a20
  have F21 := fun_mk (st := s__law_words) l21 c21 k21
  have m21 := PySem.W.mg_of X G a21
  have F22 := fun_mk (st := s__law_con) l22 c22 k22
  have m22 := PySem.W.mg_of X G a22
  have F23 := fun_mk (st := s__law_put) l23 c23 k23
  have m23 := PySem.W.mg_of X G a23
  have F24 := fun_mk (st := s__law_vars) l24 c24 k24
  have m24 := PySem.W.mg_of X G a24
  have F25 := fun_mk (st := s__law_with) l25 c25 k25
  have m25 := PySem.W.mg_of X G a25
  have F26 := fun_mk (st := s__law_letter_kind) l26 c26 k26
  have m26 := PySem.W.mg_of X G a26
  have F27 := fun_mk (st := s__law_count_leaves) l27 c27 k27
  have m27 := PySem.W.mg_of X G a27
  have F28 := fun_mk (st := s__law_refused) l28 c28 k28
  have m28 := PySem.W.mg_of X G a28
  have F29 := fun_mk (st := s__law_scheme_of) l29 c29 k29
  have m29 := PySem.W.mg_of X G a29
  have F30 := fun_mk (st := s__law_put_at) l30 c30 k30
  have m30 := PySem.W.mg_of X G a30
  have F31 := fun_mk (st := s__law_needs_drawn) l31 c31 k31
  have m31 := PySem.W.mg_of X G a31
  have F32 := fun_mk (st := s__law_is_wide_right) l32 c32 k32
  have m32 := PySem.W.mg_of X G a32
  have F33 := fun_mk (st := s__law_is_put_right) lPP cPP kPP
  have m33 := PySem.W.mg_of X G a33
  have F34 := fun_mk (st := s__law_is_refused_right) lPR cPR kPR
  have m34 := PySem.W.mg_of X G a34
  have F35 := fun_mk (st := s_law) lPL cPL kPL
  have m35 := PySem.W.mg_of X G a35
  have hCP : PySem.W.CodeHd h cP_ PP := PySem.W.codeHd_of_K X hPP
  have hCR : PySem.W.CodeHd h cR_ PR := PySem.W.codeHd_of_K X hPR'
  refine ⟨PySem.W.fnOf "law" "law" (defArgs s_law) (defBody s_law) (defScope s_law) .none kVPL dcPL pmPL anPL (.ref cL_) ctPL, fun p hp => ?_, fun s v => .of_eq rfl, fun base _ _ TBs => ?_⟩
  · rcases List.mem_cons.mp hp with rfl | hp
    · exact ⟨_, hCP⟩
    · rw [List.mem_singleton.mp hp]
      exact ⟨_, hCR⟩
  have TBP := TBs PP List.mem_cons_self cP_ hCP
  have TBR := TBs PR (List.mem_cons_of_mem _ List.mem_cons_self) cR_ hCR
  have nPR : PP ≠ PR := fun z => by rw [z] at hPR; simp at hPR
  have nKN : CN ≠ CK := fun z => by rw [z] at e1; simp at e1
  have nKC : CC ≠ CK := fun z => by rw [z] at e2; simp at e2
  have nNC : CC ≠ CN := fun z => by rw [z] at e3; simp at e3
  have E_InvalidKind : E1 l.prog w K mg base "InvalidKind" "value" mroV "ValueError.__new__" CK := by
    obtain ⟨_, _, kV, dc, pm, an, cd, ct, _, lk, ck, kk⟩ := iK
    have F := fun_mk (st := s_InvalidKind___init__) lk ck kk
    exact e1_of qK pK (PySem.W.mg_of X G qK.ns) nK (i_InvalidKind F) (F.binds (fun _ _ _ _ _ _ us hl => match us, hl with | [_, _], _ => rfl)) (kb1 (fun s a b => .of_eq rfl))
  have E_InvalidNeed : E1 l.prog w K mg base "InvalidNeed" "value" mroV "ValueError.__new__" CN := by
    obtain ⟨_, _, kV, dc, pm, an, cd, ct, _, lk, ck, kk⟩ := iN
    have F := fun_mk (st := s_InvalidNeed___init__) lk ck kk
    exact e1_of qN pN (PySem.W.mg_of X G qN.ns) nN (i_InvalidNeed F) (F.binds (fun _ _ _ _ _ _ us hl => match us, hl with | [_, _], _ => rfl)) (kb1 (fun s a b => .of_eq rfl))
  have E_InvalidCount : E1 l.prog w K mg base "InvalidCount" "number" mroV "ValueError.__new__" CC := by
    obtain ⟨_, _, kV, dc, pm, an, cd, ct, _, lk, ck, kk⟩ := iC
    have F := fun_mk (st := s_InvalidCount___init__) lk ck kk
    exact e1_of qC pC (PySem.W.mg_of X G qC.ns) nC (i_InvalidCount F) (F.binds (fun _ _ _ _ _ _ us hl => match us, hl with | [_, _], _ => rfl)) (kb1 (fun s a b => .of_eq rfl))
  have Dword := Fun.kn (P := l.prog) (w := w) (base := base) (k := 1) F1 m1 (ok_word F1 B B9 M) (fun _ _ _ _ _ _ us hl => match us, hl with | [_], _ => rfl)
  have Dname := Fun.kn (P := l.prog) (w := w) (base := base) (k := 2) F2 m2 (ok_name F2 M Dword) (fun _ _ _ _ _ _ us hl => match us, hl with | [_], _ => rfl)
  have Dletters := Fun.kn (P := l.prog) (w := w) (base := base) (k := 1) F3 m3 (ok_letters F3 B M) (fun _ _ _ _ _ _ us hl => match us, hl with | [_], _ => rfl)
  have Dbeside := Fun.kn (P := l.prog) (w := w) (base := base) (k := 3) F4 m4 (ok_beside F4 B Dletters Dname) (fun _ _ _ _ _ _ us hl => match us, hl with | [_, _], _ => rfl)
  have Dfirst := Fun.kn (P := l.prog) (w := w) (base := base) (k := 4) F5 m5 (ok_first F5 Dbeside) (fun _ _ _ _ _ _ us hl => match us, hl with | [_], _ => rfl)
  have Dvar := Fun.kn (P := l.prog) (w := w) (base := base) (k := 1) F6 m6 (ok_var F6) (fun _ _ _ _ _ _ us hl => match us, hl with | [_], _ => rfl)
  have Dleaf := Fun.kn (P := l.prog) (w := w) (base := base) (k := 3) F8 m8 (ok_leaf F8 B Dname) (fun _ _ _ _ _ _ us hl => match us, hl with | [_], _ => rfl)
  have Dkind := Fun.kn (P := l.prog) (w := w) (base := base) (k := 4) F7 m7 (ok_kind F7 B B9 Dleaf) (fun _ _ _ _ _ _ us hl => match us, hl with | [_], _ => rfl)
  have Dleaves : KnR l.prog w K mg base 1 "leaves_of" (spStar 0 (spLeaves K)) := ⟨f9, ok_leaves F9 B B5, m9, k9⟩
  have Dsize : KnR l.prog w K mg base 2 "size_of" (spStar 0 (spSize K)) := ⟨f10, ok_size F10 B Dleaves, m10, k10⟩
  have Dvars : KnR l.prog w K mg base 2 "variables_of" (spStar 0 (spVarsT K)) := ⟨f11, ok_variables F11 B Dleaves, m11, k11⟩
  have Dput := Fun.kn (P := l.prog) (w := w) (base := base) (k := 9) F12 m12 (ok_putP F12 m12 8) (fun _ _ _ _ _ _ us hl => match us, hl with | [_, _], _ => rfl)
  have Dneed := Fun.kn (P := l.prog) (w := w) (base := base) (k := 5) F13 m13 (ok_need F13 B B9 Dname Dkind) (fun _ _ _ _ _ _ us hl => match us, hl with | [_], _ => rfl)
  have Dputneed := Fun.kn (P := l.prog) (w := w) (base := base) (k := 10) F14 m14 (ok_putn (n := 8) F14 B Dput) (fun _ _ _ _ _ _ us hl => match us, hl with | [_, _], _ => rfl)
  have Dputneeds := Fun.kn (P := l.prog) (w := w) (base := base) (k := 11) F15 m15 (ok_putns (n := 8) F15 Dputneed) (fun _ _ _ _ _ _ us hl => match us, hl with | [_, _], _ => rfl)
  have Dkinds := Fun.kn (P := l.prog) (w := w) (base := base) (k := 1) F16 m16 (ok_kindsof F16) (fun _ _ _ _ _ _ us hl => match us, hl with | [_], _ => rfl)
  have SC : ScK K mg CS fI := ⟨PySem.W.mg_of X G aS, cS, mS, n1, n2, n3, n4⟩
  obtain ⟨ocI, odI, kVI, dcI, pmI, anI, cdI, ctI, slI, lI, cI, kI⟩ := uI
  have FI := fun_mk (st := s_Scheme___init__) lI cI kI
  obtain ⟨ocA, odA, kVA, dcA, pmA, anA, cdA, ctA, slA, lA, cA, kA⟩ := uA
  have FA := fun_mk (st := s_Scheme_at) lA cA kA
  obtain ⟨ocD, odD, kVD, dcD, pmD, anD, cdD, ctD, slD, lD, cD, kD⟩ := uD
  have FD := fun_mk (st := s_Scheme_named) lD cD kD
  obtain ⟨ocU, odU, kVU, dcU, pmU, anU, cdU, ctU, slU, lU, cU, kU⟩ := uU
  have FU := fun_mk (st := s_Scheme_under) lU cU kU
  have BMA : BMeth K CS "at" fA := ⟨⟨mtA, mfA, kA⟩, mgA, mkA, by decide, miA⟩
  have BMD : BMeth K CS "named" fD := ⟨⟨mtD, mfD, kD⟩, mgD, mkD, by decide, miD⟩
  have CR : CRead K CS (.type "type") := ⟨sr, sg⟩
  have CM : CMet K CS (.type "type") "under" pU fU := ⟨sU, ⟨_, rU⟩, fiU⟩
  have HI := ok_init (P := l.prog) (w := w) (base := base) FI SC E_InvalidKind E_InvalidNeed Dkind Dneed Dkinds Dvars Dsize
  have HA := ok_at (P := l.prog) (w := w) (base := base) FA SC B E_InvalidCount Dput Dputneeds
  have HU := fnr_of (ok_under (P := l.prog) (w := w) (base := base) FU SC B B9 E_InvalidKind E_InvalidNeed Dkind HI) (FU.binds (fun _ _ _ _ _ _ us hl => match us, hl with | [_, _, _], _ => rfl))
  have HN := fnr_of (ok_named (P := l.prog) (w := w) (base := base) FD SC B BMA Dfirst Dvar HA HI) (FD.binds (fun _ _ _ _ _ _ us hl => match us, hl with | [_], _ => rfl))
  have Dbegin := Fun.kn (P := l.prog) (w := w) (base := base) (k := 1) F17 m17 (ok_begin F17) (fun _ _ _ _ _ _ us hl => match us, hl with | [_], _ => rfl)
  have Ddraw := Fun.kn (P := l.prog) (w := w) (base := base) (k := 1) F18 m18 (ok_draw F18 B) (fun _ _ _ _ _ _ us hl => match us, hl with | [_, _], _ => rfl)
  have Dpick := Fun.kn (P := l.prog) (w := w) (base := base) (k := 2) F19 m19 (ok_pick F19 B Ddraw) (fun _ _ _ _ _ _ us hl => match us, hl with | [_, _], _ => rfl)
  have Dodd := Fun.kn (P := l.prog) (w := w) (base := base) (k := 3) F20 m20 (ok_odd F20 Dpick) (fun _ _ _ _ _ _ us hl => match us, hl with | [_], _ => rfl)
  have Dwords := Fun.kn (P := l.prog) (w := w) (base := base) (k := 3) F21 m21 (ok_words F21 B Ddraw Dpick) (fun _ _ _ _ _ _ us hl => match us, hl with | [_, _], _ => rfl)
  have Dcon := Fun.kn (P := l.prog) (w := w) (base := base) (k := 1) F22 m22 (ok_con F22) (fun _ _ _ _ _ _ us hl => match us, hl with | [_, _], _ => rfl)
  have Dlput := Fun.kn (P := l.prog) (w := w) (base := base) (k := 9) F23 m23 (ok_put F23 m23 8) (fun _ _ _ _ _ _ us hl => match us, hl with | [_, _], _ => rfl)
  have Dlvars := Fun.kn (P := l.prog) (w := w) (base := base) (k := 1) F24 m24 (ok_vars F24 B) (fun _ _ _ _ _ _ us hl => match us, hl with | [_], _ => rfl)
  have Dwith := Fun.kn (P := l.prog) (w := w) (base := base) (k := 10) F25 m25 (ok_with (n := 8) F25 B Dlput) (fun _ _ _ _ _ _ us hl => match us, hl with | [_, _], _ => rfl)
  have Dlk2 := Fun.kn (P := l.prog) (w := w) (base := base) (k := 5) F26 m26 (ok_lks F26 m26 B Ddraw Dpick Dcon 2) (fun _ _ _ _ _ _ us hl => match us, hl with | [_, _, _, _], _ => rfl)
  have Dlk3 := Fun.kn (P := l.prog) (w := w) (base := base) (k := 6) F26 m26 (ok_lks F26 m26 B Ddraw Dpick Dcon 3) (fun _ _ _ _ _ _ us hl => match us, hl with | [_, _, _, _], _ => rfl)
  have Dcount := Fun.kn (P := l.prog) (w := w) (base := base) (k := 9) F27 m27 (ok_count F27 m27 8) (fun _ _ _ _ _ _ us hl => match us, hl with | [_], _ => rfl)
  have Dschof := Fun.knX (P := l.prog) (w := w) (base := base) (k := 9) F29 m29 (ok_schof F29 SC B CR CM HU HI) (fun _ _ _ _ _ _ us hl => match us, hl with | [_, _], _ => rfl)
  have Dputat := Fun.knX (P := l.prog) (w := w) (base := base) (k := 13) F30 m30 (ok_putat F30 SC B BMA HA) (fun _ _ _ _ _ _ us hl => match us, hl with | [_, _], _ => rfl)
  have Dneeds := Fun.kn (P := l.prog) (w := w) (base := base) (k := 6) F31 m31 (ok_drawn F31 B Ddraw Dlk2) (fun _ _ _ _ _ _ us hl => match us, hl with | [_, _, _, _], _ => rfl)
  have Dwide := Fun.kn (P := l.prog) (w := w) (base := base) (k := 14) F32 m32 (ok_wide F32 SC B BMD HN HI) (fun _ _ _ _ _ _ us hl => match us, hl with | [], _ => rfl)
  obtain ⟨TT, hTT⟩ : ∃ TT : List (Addr × Str), TT = [(PP, ("_law_is_put_right" : Str) ++ ".<locals>." ++ ("<lambda>" : Str)), (PR, ("_law_is_refused_right" : Str) ++ ".<locals>." ++ ("<lambda>" : Str))] := ⟨_, rfl⟩
  have hmP : (PP, ("_law_is_put_right" : Str) ++ ".<locals>." ++ ("<lambda>" : Str)) ∈ TT := by rw [hTT]; exact List.mem_cons_self
  have hmR : (PR, ("_law_is_refused_right" : Str) ++ ".<locals>." ++ ("<lambda>" : Str)) ∈ TT := by rw [hTT]; exact List.mem_cons_of_mem _ List.mem_cons_self
  have huP : ∀ p ∈ TT, p.1 = PP → p.2 = ("_law_is_put_right" : Str) ++ ".<locals>." ++ ("<lambda>" : Str) := fun p hp e => by
    rw [hTT] at hp
    rcases List.mem_cons.mp hp with rfl | hp
    · rfl
    · rw [List.mem_singleton.mp hp] at e
      exact absurd e.symm nPR
  have huR : ∀ p ∈ TT, p.1 = PR → p.2 = ("_law_is_refused_right" : Str) ++ ".<locals>." ++ ("<lambda>" : Str) := fun p hp e => by
    rw [hTT] at hp
    rcases List.mem_cons.mp hp with rfl | hp
    · exact absurd e nPR
    · rw [List.mem_singleton.mp hp]
  have Dputr : KnG l.prog w K mg base 17 "_law_is_put_right" (spPutR CS TT) := ⟨f33, ok_putr (P := l.prog) (w := w) (base := base) F33 rfl TBP (F33.binds (fun _ _ _ _ _ _ us hl => match us, hl with | [_, _, _, _], _ => rfl)) hmP huP B B9 (PySem.W.mg_none_of X G z22) SC E_InvalidKind E_InvalidNeed E_InvalidCount nKN nKC nNC F28 m28 (F28.binds (fun _ _ _ _ _ _ us hl => match us, hl with | [_], _ => rfl)) Dlput Dwith Dputat, m33, kPP⟩
  have Drefr : KnG l.prog w K mg base 13 "_law_is_refused_right" (spRefR K TT) := ⟨f34, ok_refr (P := l.prog) (w := w) (base := base) F34 rfl TBR (F34.binds (fun _ _ _ _ _ _ us hl => match us, hl with | [_, _, _, _], _ => rfl)) hmR huR B B9 (PySem.W.mg_none_of X G z22) E_InvalidKind E_InvalidNeed E_InvalidCount nKN nKC nNC F28 m28 (F28.binds (fun _ _ _ _ _ _ us hl => match us, hl with | [_], _ => rfl)) Dodd Ddraw Dschof, m34, kPR⟩
  exact law_run (P := l.prog) (w := w) (base := base) F35 rfl hTT B B5 B9 (PySem.W.mg_none_of X G z20) SC CR CM BMD HU HN Dbegin Ddraw Dwords Dlk3 Dneeds Dschof Dlvars Dcount Dlput Dwith Dputr Drefr Dwide
theorem ex_of {l : PySem.W.OpenLaw} {w : World} {K : PySem.W.Frag} {h : Heap} {mg : Str → Option Value} {fa PP PR : Addr} (KX : K.In h) (T1 : h.get? PP = some { cls := .none, data := .fields #[] }) (T2 : h.get? PR = some { cls := .none, data := .fields #[] }) (o1 : K.lookup PP = none) (o2 : K.lookup PR = none)
    (r : ∃ fd : FuncData, (∀ p ∈ [PP, PR], ∃ c, PySem.W.CodeHd h c p) ∧ (∀ (s : Shared) (v : Value), BindsTo s fd ⟨[v], []⟩ [("_law_script", v)]) ∧ ∀ base : Heap, K.In base → base.Ns mainGlobals mg → (∀ p ∈ [PP, PR], ∀ c, PySem.W.CodeHd h c p → TabB base mg c p) → LawRun l.prog w K mg base fa fd "_law_script" (spLaw K [PP, PR])) :
    ∃ (K : PySem.W.Frag) (fd : FuncData) (ts : List Addr), K.In h ∧ (∀ p ∈ ts, h.get? p = some { cls := .none, data := .fields #[] }) ∧ (∀ p ∈ ts, K.lookup p = none) ∧ (∀ p ∈ ts, ∃ c, PySem.W.CodeHd h c p) ∧ (∀ (s : Shared) (u : Value), BindsTo s fd ⟨[u], []⟩ [("_law_script", u)]) ∧ ∀ base : Heap, K.In base → base.Ns mainGlobals mg → (∀ p ∈ ts, ∀ c, PySem.W.CodeHd h c p → TabB base mg c p) → LawRun l.prog w K mg base fa fd "_law_script" (spLaw K ts) := by
  obtain ⟨fd, h1, h2, h3⟩ := r
  refine ⟨K, fd, [PP, PR], KX, fun p hp => ?_, fun p hp => ?_, h1, h2, h3⟩
  · rcases List.mem_cons.mp hp with rfl | hp
    · exact T1
    · rw [List.mem_singleton.mp hp]
      exact T2
  · rcases List.mem_cons.mp hp with rfl | hp
    · exact o1
    · rw [List.mem_singleton.mp hp]
      exact o2
end L3

set_option maxHeartbeats 4000000
open PySem PySem.W PySem.Calls PyProof.Rows in
set_option maxRecDepth 100000 in
set_option maxHeartbeats 0 in
theorem PySem.Challenge.cw_leastneeds_k09_schemes_made_holds : PySem.Challenge.rw_leastneeds_k09_schemes_made.Holds := by
  w_on; o_law; k_head; (case hw => w_witness2)
  k_fill
  refine L3.walkXTs (l := PySem.Challenge.rw_leastneeds_k09_schemes_made) (n := 63) (x := "_law_script") (sp := fun K ts => L3.spLaw K ts) rfl (by decide) rfl ?F (fun K ts H a ns _ hP hS => ⟨a, ns, rfl, hS, hP, fun _ => rfl⟩)
  case F =>
    intro w mg fa h Y G hmg
    have KX := km_in_of Y
    have T1 := km_tabs_of Y _ (List.mem_cons_of_mem _ List.mem_cons_self)
    have T2 := km_tabs_of Y _ List.mem_cons_self
    refine' L3.ex_of (l := PySem.Challenge.rw_leastneeds_k09_schemes_made) KX T1 T2 ?off1 ?off2 (L3.all_mk (l := PySem.Challenge.rw_leastneeds_k09_schemes_made) KX G hmg ?a1 ?u1 ?a2 ?u2 ?a3 ?u3 ?a4 ?u4 ?a5 ?u5 ?a6 ?u6 ?a7 ?u7 ?a8 ?u8 ?a9 ?u9 ?a10 ?u10 ?a11 ?u11 ?a12 ?u12 ?a13 ?u13 ?a14 ?u14 ?a15 ?u15 ?a16 ?u16 ?a17 ?u17 ?a18 ?u18 ?a19 ?u19 ?a20 ?u20 ?a21 ?u21 ?a22 ?u22 ?a23 ?u23 ?a24 ?u24 ?a25 ?u25 ?a26 ?u26 ?a27 ?u27 ?a28 ?u28 ?a29 ?u29 ?a30 ?u30 ?a31 ?u31 ?a32 ?u32 ?a33 ?lPP ?cPP ?kPP ?hPP ?a34 ?lPR ?cPR ?kPR ?hPRx ?a35 ?lPL ?cPL ?kPL ?z0 ?z1 ?z2 ?z3 ?z4 ?z5 ?z6 ?z7 ?z8 ?z9 ?z10 ?z11 ?z12 ?z13 ?z14 ?z15 ?z16 ?z17 ?z18 ?z19 ?z20 ?z21 ?z22 ?aL ?rL ?aT ?rT ?xB ?lkB ?kkB ?wkB ?vkB ?qK ?pK ?iK ?nK ?qN ?pN ?iN ?nN ?qC ?pC ?iC ?nC ?e1 ?e2 ?e3 ?aS ?cS ?mS ?n1 ?n2 ?n3 ?n4 ?uI ?mtA ?mfA ?mgA ?mkA ?miA ?uA ?mtD ?mfD ?mgD ?mkD ?miD ?uD ?sg ?sr ?sU ?rU ?fiU ?uU ?hPR)
    (case off1 => rfl)
    (case off2 => rfl)
    (case a1 => k_is)
    (case u1 => refine' L3.fn_is ?l ?c ?k; (case l => k_is); (case c => k_is); (case k => k_is))
    (case a2 => k_is)
    (case u2 => refine' L3.fn_is ?l ?c ?k; (case l => k_is); (case c => k_is); (case k => k_is))
    (case a3 => k_is)
    (case u3 => refine' L3.fn_is ?l ?c ?k; (case l => k_is); (case c => k_is); (case k => k_is))
    (case a4 => k_is)
    (case u4 => refine' L3.fn_is ?l ?c ?k; (case l => k_is); (case c => k_is); (case k => k_is))
    (case a5 => k_is)
    (case u5 => refine' L3.fn_is ?l ?c ?k; (case l => k_is); (case c => k_is); (case k => k_is))
    (case a6 => k_is)
    (case u6 => refine' L3.fn_is ?l ?c ?k; (case l => k_is); (case c => k_is); (case k => k_is))
    (case a7 => k_is)
    (case u7 => refine' L3.fn_is ?l ?c ?k; (case l => k_is); (case c => k_is); (case k => k_is))
    (case a8 => k_is)
    (case u8 => refine' L3.fn_is ?l ?c ?k; (case l => k_is); (case c => k_is); (case k => k_is))
    (case a9 => k_is)
    (case u9 => refine' L3.fn_is ?l ?c ?k; (case l => k_is); (case c => k_is); (case k => k_is))
    (case a10 => k_is)
    (case u10 => refine' L3.fn_is ?l ?c ?k; (case l => k_is); (case c => k_is); (case k => k_is))
    (case a11 => k_is)
    (case u11 => refine' L3.fn_is ?l ?c ?k; (case l => k_is); (case c => k_is); (case k => k_is))
    (case a12 => k_is)
    (case u12 => refine' L3.fn_is ?l ?c ?k; (case l => k_is); (case c => k_is); (case k => k_is))
    (case a13 => k_is)
    (case u13 => refine' L3.fn_is ?l ?c ?k; (case l => k_is); (case c => k_is); (case k => k_is))
    (case a14 => k_is)
    (case u14 => refine' L3.fn_is ?l ?c ?k; (case l => k_is); (case c => k_is); (case k => k_is))
    (case a15 => k_is)
    (case u15 => refine' L3.fn_is ?l ?c ?k; (case l => k_is); (case c => k_is); (case k => k_is))
    (case a16 => k_is)
    (case u16 => refine' L3.fn_is ?l ?c ?k; (case l => k_is); (case c => k_is); (case k => k_is))
    (case a17 => k_is)
    (case u17 => refine' L3.fn_is ?l ?c ?k; (case l => k_is); (case c => k_is); (case k => k_is))
    (case a18 => k_is)
    (case u18 => refine' L3.fn_is ?l ?c ?k; (case l => k_is); (case c => k_is); (case k => k_is))
    (case a19 => k_is)
    (case u19 => refine' L3.fn_is ?l ?c ?k; (case l => k_is); (case c => k_is); (case k => k_is))
    (case a20 => k_is)
    (case u20 => refine' L3.fn_is ?l ?c ?k; (case l => k_is); (case c => k_is); (case k => k_is))
    (case a21 => k_is)
    (case u21 => refine' L3.fn_is ?l ?c ?k; (case l => k_is); (case c => k_is); (case k => k_is))
    (case a22 => k_is)
    (case u22 => refine' L3.fn_is ?l ?c ?k; (case l => k_is); (case c => k_is); (case k => k_is))
    (case a23 => k_is)
    (case u23 => refine' L3.fn_is ?l ?c ?k; (case l => k_is); (case c => k_is); (case k => k_is))
    (case a24 => k_is)
    (case u24 => refine' L3.fn_is ?l ?c ?k; (case l => k_is); (case c => k_is); (case k => k_is))
    (case a25 => k_is)
    (case u25 => refine' L3.fn_is ?l ?c ?k; (case l => k_is); (case c => k_is); (case k => k_is))
    (case a26 => k_is)
    (case u26 => refine' L3.fn_is ?l ?c ?k; (case l => k_is); (case c => k_is); (case k => k_is))
    (case a27 => k_is)
    (case u27 => refine' L3.fn_is ?l ?c ?k; (case l => k_is); (case c => k_is); (case k => k_is))
    (case a28 => k_is)
    (case u28 => refine' L3.fn_is ?l ?c ?k; (case l => k_is); (case c => k_is); (case k => k_is))
    (case a29 => k_is)
    (case u29 => refine' L3.fn_is ?l ?c ?k; (case l => k_is); (case c => k_is); (case k => k_is))
    (case a30 => k_is)
    (case u30 => refine' L3.fn_is ?l ?c ?k; (case l => k_is); (case c => k_is); (case k => k_is))
    (case a31 => k_is)
    (case u31 => refine' L3.fn_is ?l ?c ?k; (case l => k_is); (case c => k_is); (case k => k_is))
    (case a32 => k_is)
    (case u32 => refine' L3.fn_is ?l ?c ?k; (case l => k_is); (case c => k_is); (case k => k_is))
    (case a33 => k_is)
    (case lPP => k_is)
    (case cPP => k_is)
    (case kPP => k_is)
    (case hPP => kernel_rfl)
    (case a34 => k_is)
    (case lPR => k_is)
    (case cPR => k_is)
    (case kPR => k_is)
    (case hPRx => kernel_rfl)
    (case a35 => k_is)
    (case lPL => k_is)
    (case cPL => k_is)
    (case kPL => k_is)
    (case z0 => k_is)
    (case z1 => k_is)
    (case z2 => k_is)
    (case z3 => k_is)
    (case z4 => k_is)
    (case z5 => k_is)
    (case z6 => k_is)
    (case z7 => k_is)
    (case z8 => k_is)
    (case z9 => k_is)
    (case z10 => k_is)
    (case z11 => k_is)
    (case z12 => k_is)
    (case z13 => k_is)
    (case z14 => k_is)
    (case z15 => k_is)
    (case z16 => k_is)
    (case z17 => k_is)
    (case z18 => k_is)
    (case z19 => k_is)
    (case z20 => k_is)
    (case z21 => k_is)
    (case z22 => k_is)
    (case aL => k_is)
    (case rL => exact ⟨_, rfl⟩)
    (case aT => k_is)
    (case rT => exact ⟨_, rfl⟩)
    (case xB => k_is)
    (case lkB => k_is)
    (case kkB => exact ⟨⟨_, _, rfl, rfl⟩, ⟨⟨_, _, rfl, rfl⟩, ⟨⟨_, _, rfl, rfl⟩, ⟨⟨_, _, rfl, rfl⟩, ⟨⟨_, _, rfl, rfl⟩, ⟨⟨_, _, rfl, rfl⟩, ⟨⟨_, _, rfl, rfl⟩, ⟨⟨_, _, rfl, rfl⟩, ⟨⟨_, _, rfl, rfl⟩, ⟨⟨_, _, rfl, rfl⟩, ⟨⟨_, _, rfl, rfl⟩, ⟨⟨_, _, rfl, rfl⟩, ⟨⟨_, _, rfl, rfl⟩, ⟨⟨_, _, rfl, rfl⟩, ⟨⟨_, _, rfl, rfl⟩, ⟨⟨_, _, rfl, rfl⟩, ⟨⟨_, _, rfl, rfl⟩, trivial⟩⟩⟩⟩⟩⟩⟩⟩⟩⟩⟩⟩⟩⟩⟩⟩⟩)
    (case wkB => rfl)
    (case vkB => rfl)
    (case qK => refine' L3.kc_is ?a1 ?a2 ?a3 ?a4 ?a5 ?a6 ?a7 ?a8 ?a9 ?a10 ?a11 ?a12 ?a13; (case a1 => k_is); (case a2 => k_is); (case a3 => k_is); (case a4 => k_is); (case a5 => k_is); (case a6 => k_is); (case a7 => k_is); (case a8 => k_is); (case a9 => k_is); (case a10 => k_is); (case a11 => k_is); (case a12 => rfl); (case a13 => k_is))
    (case pK => refine' L3.Ki.mk ?b1 ?b2 ?b3 ?b4 ?b5; (case b1 => kx_is); (case b2 => kx_is); (case b3 => k_is); (case b4 => k_is); (case b5 => k_is))
    (case iK => refine' L3.fn_is ?l ?c ?k; (case l => k_is); (case c => k_is); (case k => k_is))
    (case nK => k_is)
    (case qN => refine' L3.kc_is ?a1 ?a2 ?a3 ?a4 ?a5 ?a6 ?a7 ?a8 ?a9 ?a10 ?a11 ?a12 ?a13; (case a1 => k_is); (case a2 => k_is); (case a3 => k_is); (case a4 => k_is); (case a5 => k_is); (case a6 => k_is); (case a7 => k_is); (case a8 => k_is); (case a9 => k_is); (case a10 => k_is); (case a11 => k_is); (case a12 => rfl); (case a13 => k_is))
    (case pN => refine' L3.Ki.mk ?b1 ?b2 ?b3 ?b4 ?b5; (case b1 => kx_is); (case b2 => kx_is); (case b3 => k_is); (case b4 => k_is); (case b5 => k_is))
    (case iN => refine' L3.fn_is ?l ?c ?k; (case l => k_is); (case c => k_is); (case k => k_is))
    (case nN => k_is)
    (case qC => refine' L3.kc_is ?a1 ?a2 ?a3 ?a4 ?a5 ?a6 ?a7 ?a8 ?a9 ?a10 ?a11 ?a12 ?a13; (case a1 => k_is); (case a2 => k_is); (case a3 => k_is); (case a4 => k_is); (case a5 => k_is); (case a6 => k_is); (case a7 => k_is); (case a8 => k_is); (case a9 => k_is); (case a10 => k_is); (case a11 => k_is); (case a12 => rfl); (case a13 => k_is))
    (case pC => refine' L3.Ki.mk ?b1 ?b2 ?b3 ?b4 ?b5; (case b1 => kx_is); (case b2 => kx_is); (case b3 => k_is); (case b4 => k_is); (case b5 => k_is))
    (case iC => refine' L3.fn_is ?l ?c ?k; (case l => k_is); (case c => k_is); (case k => k_is))
    (case nC => k_is)
    (case e1 => rfl)
    (case e2 => rfl)
    (case e3 => rfl)
    (case aS => k_is)
    (case cS => refine' L2.Cls.mk ?d1 ?d2 ?d3 ?d4; (case d1 => k_is); (case d2 => k_is); (case d3 => k_is); (case d4 => k_is))
    (case mS => refine' L2.Mk.mk ?d1 ?d2 ?d3 ?d4; (case d1 => k_is); (case d2 => k_is); (case d3 => k_is); (case d4 => k_is))
    (case n1 => k_is)
    (case n2 => k_is)
    (case n3 => k_is)
    (case n4 => k_is)
    (case uI => refine' L3.fn_is ?l ?c ?k; (case l => k_is); (case c => k_is); (case k => k_is))
    (case mtA => k_is)
    (case mfA => first | k_is | rfl | kernel_rfl)
    (case mgA => first | k_is | kx_is | kernel_rfl)
    (case mkA => first | k_is | kx_is | kernel_rfl)
    (case miA => first | k_is | rfl | kernel_rfl)
    (case uA => refine' L3.fn_is ?l ?c ?k; (case l => k_is); (case c => k_is); (case k => k_is))
    (case mtD => k_is)
    (case mfD => first | k_is | rfl | kernel_rfl)
    (case mgD => first | k_is | kx_is | kernel_rfl)
    (case mkD => first | k_is | kx_is | kernel_rfl)
    (case miD => first | k_is | rfl | kernel_rfl)
    (case uD => refine' L3.fn_is ?l ?c ?k; (case l => k_is); (case c => k_is); (case k => k_is))
    (case sg => k_is)
    (case sr => k_is)
    (case sU => k_is)
    (case rU => first | k_is | rfl | kernel_rfl)
    (case fiU => first | k_is | rfl | kernel_rfl)
    (case uU => refine' L3.fn_is ?l ?c ?k; (case l => k_is); (case c => k_is); (case k => k_is))
    (case hPR => rfl)
