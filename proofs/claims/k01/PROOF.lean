import PyProof.Rows.All
import Wide.All
import OpenK.AllK
import Wide.FinOn
import HandS.ForMost
import HandS.Flow
import HandS.Small
import HandS.SetKeys
import HandS.Zip
import HandS.Style
import HandS.More
import HandS.Deep
import PySem.Challenge.RW_leastneeds_k01_errors
import KE.KDictZip
import HandS.ListItems
import HandS.DictComp
import PyProof.ReprLen
import PyProof.StrLawsRepr
import HandS.Dict
import PyProof.EqKinds
import HandS.IsInst
import HandS.ExcInit
import HandS.ExcField
import KE.KExcInit
import KE.KExcIs
import HandS.ExcValue
import PyProof.NeKinds
import HandS.TupMul
import PyProof.StrOps2
import HandS.StrMore
import HandS.HeadHook3
import HandS.Walk
import HandS.Steps
import PyProof.CallFns
import KE.KExcLine
import HandS.Head0
import HandS.Head1
import HandS.Head2
import HandS.HeadEnd
import HandS.HeadHook1
import HandS.HeadHook2
import HandS.HeadHook4
set_option Elab.async false
set_option linter.all false
set_option maxRecDepth 100000
set_option maxHeartbeats 4000000
namespace L3
open PySem L2
/-! ### a def that is known by its name -/
section
variable {P : Program} {w : World} {K : PySem.W.Frag} {mg : Str → Option Value} {base : Heap}
structure Kn (P : Program) (w : World) (K : PySem.W.Frag) (mg : Str → Option Value) (base : Heap) (k : Nat) (x : Str) (ps : List Str) (sp : Sp) : Prop where
  ex : ∃ (f : Addr) (fd : FuncData), FnOk P w K mg base CX0 k f fd ps sp ∧ mg x = some (.ref f) ∧ PySem.W.keepIn K (.ref f) = true ∧ Binds K fd ps []
end
section
variable {X : Cx} {x : Str} {k : Nat} {ps : List Str} {sp : Sp} {e : Expr} {es : List Expr} {t : TA} {p pos : Pos}
theorem pe_kn (D : Kn X.prog X.w X.K X.mg X.base k x ps sp) (hr : Room k X.A) (ha : PA X (e :: es) t) (hg : Gl X x := by rfl) (hdb : (x == ("__debug__" : Str)) = false := by decide)
    (he : starEach (e :: es) X.env = (false, eval e X.env) :: starEach es X.env := by rfl) (hpl : (backTo pos (starEach es X.env)).any (·.1) = false := by rfl) :
    PE X (.Call (.Name x p) (e :: es) [] pos) (tCall sp [] E0 t) := by
  obtain ⟨f, fd, F, hm, hk, hb⟩ := D.ex
  exact pe_call F hr hg hm hk hb .nil pass0 ha hdb he hpl
theorem pe_kn0 (D : Kn X.prog X.w X.K X.mg X.base k x ps sp) (hr : Room k X.A) (hg : Gl X x := by rfl) (hdb : (x == ("__debug__" : Str)) = false := by decide) :
    PE X (.Call (.Name x p) [] [] pos) (tCall sp [] E0 tNil) := by
  obtain ⟨f, fd, F, hm, hk, hb⟩ := D.ex
  exact pe_call0 F hr hg hm hk hb .nil pass0 hdb
end
/-- built-in names that the text leaves alone -/
structure Bl (mg : Str → Option Value) : Prop where
  len : mg "len" = none
  int : mg "int" = none
  list : mg "list" = none
  tuple : mg "tuple" = none
  dict : mg "dict" = none
  repr : mg "repr" = none
  range : mg "range" = none
  zip : mg "zip" = none
  sorted : mg "sorted" = none

/-! ### the tape -/
/-- all but the object at t is kept -/
def Ext (t : Addr) (H H' : Hp) : Prop := ∀ b o, b ≠ t → H b = some o → H' b = some o
theorem Ext.refl (t : Addr) (H : Hp) : Ext t H H := fun _ _ _ h => h
theorem Ext.trans {t : Addr} {H H1 H2 : Hp} (a : Ext t H H1) (b : Ext t H1 H2) : Ext t H H2 := fun c o n h => b c o n (a c o n h)
theorem Ext.new {t p : Addr} {H : Hp} {o : HO} (h : H p = none) : Ext t H (upd H p o) := fun b u _ e => by
  rw [upd_ne (ne_of_none e h)]
  exact e
theorem Ext.put {t : Addr} {H : Hp} {o : HO} : Ext t H (upd H t o) := fun b u n e => by
  rw [upd_ne n]
  exact e
theorem same_ext {t : Addr} {H H' : Hp} (h : Same H H') : Ext t H H' := fun b o _ e => h b o e
theorem same_new {p : Addr} {H : Hp} {o : HO} (h : H p = none) : Same H (upd H p o) := fun b u e => by
  rw [upd_ne (ne_of_none e h)]
  exact e
def tp (c : Addr) (p l : Int) : List (Key × V) := [(.inr "cells", .ref c), (.inr "place", .int p), (.inr "left", .int l)]
theorem tp_cells (c : Addr) (p l : Int) : valV (tp c p l) (.inr "cells") = some (.ref c) := by rfl
theorem tp_place (c : Addr) (p l : Int) : valV (tp c p l) (.inr "place") = some (.int p) := by rfl
theorem tp_left (c : Addr) (p l : Int) : valV (tp c p l) (.inr "left") = some (.int l) := by rfl
theorem tp_putP (c : Addr) (p l q : Int) : putK (tp c p l) (.inr "place") (.int q) = tp c q l := by rfl
theorem tp_putL (c : Addr) (p l q : Int) : putK (tp c p l) (.inr "left") (.int q) = tp c p q := by rfl
/-- at t a tape stands, its cells at c, from which b more cells may be taken -/
def Tape (K : PySem.W.Frag) (H : Hp) (t c : Addr) (b : Nat) : Prop :=
  ∃ (p l : Int) (ns : List Int), H t = some (.dK (tp c p l)) ∧ SqL K H c (ns.map V.int) ∧ c ≠ t ∧ 0 < ns.length ∧ ns.length ≤ 63 ∧ 0 ≤ p ∧ p + b ≤ 1000000 ∧ 0 ≤ l
theorem Tape.less {K : PySem.W.Frag} {H : Hp} {t c : Addr} {b b' : Nat} (h : Tape K H t c b) (hb : b' ≤ b) : Tape K H t c b' := by
  obtain ⟨p, l, ns, h1, h2, h3, h4, h5, h6, h7, h8⟩ := h
  exact ⟨p, l, ns, h1, h2, h3, h4, h5, h6, by omega, h8⟩
theorem SqL.same {K : PySem.W.Frag} {H H' : Hp} {a : Addr} {xs : List V} (h : SqL K H a xs) (k : ∀ o, H a = some o → H' a = some o) : SqL K H' a xs := by
  rcases h with (h | ⟨o, h⟩) | h
  · exact .inl (.inl (k _ h))
  · exact .inl (.inr ⟨o, k _ h⟩)
  · exact .inr h
theorem SqL.ext {K : PySem.W.Frag} {t : Addr} {H H' : Hp} {a : Addr} {xs : List V} (h : SqL K H a xs) (e : Ext t H H') (n : a ≠ t) : SqL K H' a xs := SqL.same h fun o q => e a o n q
/-- the tape is untouched -/
theorem Tape.same {K : PySem.W.Frag} {H H' : Hp} {t c : Addr} {b : Nat} (h : Tape K H t c b) (k : Same H H') : Tape K H' t c b := by
  obtain ⟨p, l, ns, h1, h2, h3, h4, h5, h6, h7, h8⟩ := h
  exact ⟨p, l, ns, k _ _ h1, k.seq h2, h3, h4, h5, h6, h7, h8⟩
theorem Tape.new {K : PySem.W.Frag} {H : Hp} {t c : Addr} {b : Nat} {q : Addr} {o : HO} (h : Tape K H t c b) (n : H q = none) : Tape K (upd H q o) t c b := h.same (same_new n)
theorem Tape.dict {K : PySem.W.Frag} {H : Hp} {t c : Addr} {b : Nat} (h : Tape K H t c b) : ∃ kvs, H t = some (.dK kvs) := by
  obtain ⟨p, l, ns, h1, _⟩ := h
  exact ⟨_, h1⟩
theorem Tape.ne {K : PySem.W.Frag} {H : Hp} {t c : Addr} {b : Nat} (h : Tape K H t c b) {l : Addr} (n : H l = none) : l ≠ t := fun e => by
  obtain ⟨kvs, q⟩ := h.dict
  rw [e, q] at n
  cases n
theorem Ext.free {t : Addr} {H H' : Hp} (e : Ext t H H') {l : Addr} (n : l ≠ t) (h : H' l = none) : H l = none := by
  cases q : H l with
  | none => rfl
  | some o =>
    rw [e l o n q] at h
    cases h
/-- an object D that was not there at H0 is stored into -/
theorem Tape.put {K : PySem.W.Frag} {H0 H : Hp} {t c : Addr} {b0 b : Nat} {D : Addr} {o : HO} (h0 : Tape K H0 t c b0) (e : Ext t H0 H) (h : Tape K H t c b) (n : H0 D = none) : Tape K (upd H D o) t c b := by
  have nt : t ≠ D := (h0.ne n).symm
  obtain ⟨_, _, ns, _, g2, g3, g4, g5, _⟩ := h0
  obtain ⟨p, l, _, h1, _, _, _, _, h6, h7, h8⟩ := h
  refine ⟨p, l, ns, by rw [upd_ne nt]; exact h1, SqL.same g2 fun u q => ?_, g3, g4, g5, h6, h7, h8⟩
  rw [upd_ne (ne_of_none q n)]
  exact e _ _ g3 q
theorem Ext.upd {t : Addr} {H0 H : Hp} {D : Addr} {o : HO} (e : Ext t H0 H) (n : H0 D = none) : Ext t H0 (upd H D o) := fun q u h1 h2 => by
  rw [upd_ne (ne_of_none h2 n)]
  exact e q u h1 h2
end L3

namespace L3
open PySem L2
theorem slz {n : Nat} (h : Nat.ble n 1000 = true) : n ≤ sizeLine := Nat.le_of_lt (small1000 (Nat.le_of_ble_eq_true h))
theorem iT {c : Bool} {A B : Prop} (h : c = true) (a : A) : if c = true then A else B := by
  rw [if_pos h]
  exact a
theorem iF {c : Bool} {A B : Prop} (h : c = false) (b : B) : if c = true then A else B := by
  rw [h]
  exact iteF b
theorem tg_aa : decide (V.str ("apply" : Str) = V.str ("apply" : Str)) = true := decide_eq_true rfl
theorem tg_va : decide (V.str ("var" : Str) = V.str ("apply" : Str)) = false := by decide +kernel
theorem tg_ca : decide (V.str ("con" : Str) = V.str ("apply" : Str)) = false := by decide +kernel
theorem tg_vv : decide (V.str ("var" : Str) = V.str ("var" : Str)) = true := decide_eq_true rfl
theorem tg_cv : decide (V.str ("con" : Str) = V.str ("var" : Str)) = false := by decide +kernel
theorem tg_av : decide (V.str ("apply" : Str) = V.str ("var" : Str)) = false := by decide +kernel
theorem tg_ac : decide (V.str ("apply" : Str) = V.str ("con" : Str)) = false := by decide +kernel
theorem tg_vc : decide (V.str ("var" : Str) = V.str ("con" : Str)) = false := by decide +kernel
theorem tg_cc : decide (V.str ("con" : Str) = V.str ("con" : Str)) = true := decide_eq_true rfl
/-! ### kinds -/
inductive Kd where
  | var (x : Str) | con (x : Str) | app (a b : Kd)
  deriving DecidableEq
def Kd.tag : Kd → Str
  | .var _ => "var" | .con _ => "con" | .app _ _ => "apply"
/-- a word of 1 to 8 letters from a to z -/
def Wok (x : Str) : Prop := 1 ≤ x.length ∧ x.length ≤ 8 ∧ ∀ c ∈ x.cps.toList, 97 ≤ c ∧ c ≤ 122
/-- at most n deep, of words -/
def Kd.fit : Nat → Kd → Prop
  | _, .var x => Wok x
  | _, .con x => Wok x
  | 0, .app _ _ => False
  | n + 1, .app a b => Kd.fit n a ∧ Kd.fit n b
theorem Kd.fit_mono : ∀ {k : Kd} {n m : Nat}, n ≤ m → Kd.fit n k → Kd.fit m k
  | .var _, n, m, _, h => by cases n <;> cases m <;> exact h
  | .con _, n, m, _, h => by cases n <;> cases m <;> exact h
  | .app a b, 0, _, _, h => h.elim
  | .app a b, n + 1, 0, e, _ => absurd e (by omega)
  | .app a b, n + 1, m + 1, e, h => ⟨Kd.fit_mono (by omega) h.1, Kd.fit_mono (by omega) h.2⟩
theorem Kd.fit_app {n : Nat} {a b : Kd} (h : Kd.fit n (.app a b)) : ∃ m, n = m + 1 ∧ Kd.fit m a ∧ Kd.fit m b := by
  cases n with
  | zero => exact h.elim
  | succ m => exact ⟨m, rfl, h.1, h.2⟩
def KdAt (H : Hp) : V → Kd → Prop
  | v, .var x => ∃ a, v = .ref a ∧ H a = some (.tup [.str "var", .str x])
  | v, .con x => ∃ a, v = .ref a ∧ H a = some (.tup [.str "con", .str x])
  | v, .app k l => ∃ a u z, v = .ref a ∧ H a = some (.tup [.str "apply", u, z]) ∧ KdAt H u k ∧ KdAt H z l
/-- tuples stay -/
def Tups (H H' : Hp) : Prop := ∀ b xs, H b = some (.tup xs) → H' b = some (.tup xs)
theorem same_tups {H H' : Hp} (h : Same H H') : Tups H H' := fun b xs e => h b _ e
theorem Tups.trans {H H1 H2 : Hp} (a : Tups H H1) (b : Tups H1 H2) : Tups H H2 := fun c xs e => b c xs (a c xs e)
theorem Tups.put {H : Hp} {d : Addr} {o u : HO} (h : H d = some o) (n : ∀ xs, o ≠ .tup xs) : Tups H (upd H d u) := fun b xs e => by
  rw [upd_ne (fun q => by rw [q, h] at e; exact n xs (Option.some.inj e))]
  exact e
theorem Tups.new {H : Hp} {d : Addr} {u : HO} (h : H d = none) : Tups H (upd H d u) := same_tups (same_new h)
theorem Ext.tups {K : PySem.W.Frag} {t c : Addr} {b : Nat} {H H' : Hp} (e : Ext t H H') (h : Tape K H t c b) : Tups H H' := fun q xs z => by
  obtain ⟨kvs, hk⟩ := h.dict
  exact e q _ (ne_of z hk (by intro r; cases r)) z
theorem KdAt.tups {H H' : Hp} (h : Tups H H') : ∀ {k : Kd} {v : V}, KdAt H v k → KdAt H' v k
  | .var _, _, ⟨a, e, q⟩ => ⟨a, e, h _ _ q⟩
  | .con _, _, ⟨a, e, q⟩ => ⟨a, e, h _ _ q⟩
  | .app _ _, _, ⟨a, u, z, e, q, h1, h2⟩ => ⟨a, u, z, e, h _ _ q, KdAt.tups h h1, KdAt.tups h h2⟩
/-- the tuple of a kind, and its first item -/
theorem KdAt.top {H : Hp} : ∀ {k : Kd} {v : V}, KdAt H v k → ∃ a xs, v = .ref a ∧ H a = some (.tup xs) ∧ xs[0]? = some (.str k.tag)
  | .var _, _, ⟨a, e, q⟩ => ⟨a, _, e, q, rfl⟩
  | .con _, _, ⟨a, e, q⟩ => ⟨a, _, e, q, rfl⟩
  | .app _ _, _, ⟨a, u, z, e, q, _⟩ => ⟨a, _, e, q, rfl⟩
def Kd.dat : Kd → PyData
  | .var x => .tuple [.str "var", .str x]
  | .con x => .tuple [.str "con", .str x]
  | .app a b => .tuple [.str "apply", a.dat, b.dat]
theorem KdAt.dp {K : PySem.W.Frag} {H : Hp} : ∀ {k : Kd} {v : V}, KdAt H v k → Dp K H v k.dat
  | .var x, _, ⟨a, e, q⟩ => by subst e; exact .tup (SqT.of q) (.cons (.str _) (.cons (.str _) .nil))
  | .con x, _, ⟨a, e, q⟩ => by subst e; exact .tup (SqT.of q) (.cons (.str _) (.cons (.str _) .nil))
  | .app _ _, _, ⟨a, u, z, e, q, h1, h2⟩ => by subst e; exact .tup (SqT.of q) (.cons (.str _) (.cons h1.dp (.cons h2.dp .nil)))
theorem ne_vc : ¬ (("var" : Str) = "con") := by decide +kernel
theorem ne_cv : ¬ (("con" : Str) = "var") := by decide +kernel
theorem ne_va : ¬ (("var" : Str) = "apply") := by decide +kernel
theorem ne_av : ¬ (("apply" : Str) = "var") := by decide +kernel
theorem ne_ca : ¬ (("con" : Str) = "apply") := by decide +kernel
theorem ne_ac : ¬ (("apply" : Str) = "con") := by decide +kernel
theorem str_beq (x y : Str) : (x == y) = decide (x = y) := by
  rw [Bool.eq_iff_iff]
  simp
theorem eqv_tt (xs ys : List PyData) : PyData.eqv (.tuple xs) (.tuple ys) = PyData.eqvAll xs ys := by rw [PyData.eqv]
theorem eqv_cc (x y : PyData) (xs ys : List PyData) : PyData.eqvAll (x :: xs) (y :: ys) = (PyData.eqv x y && PyData.eqvAll xs ys) := by rw [PyData.eqvAll]
theorem eqv_nn : PyData.eqvAll [] [] = true := by rw [PyData.eqvAll]
theorem eqv_nc (y : PyData) (ys : List PyData) : PyData.eqvAll [] (y :: ys) = false := by rw [PyData.eqvAll]
theorem eqv_cn (y : PyData) (ys : List PyData) : PyData.eqvAll (y :: ys) [] = false := by rw [PyData.eqvAll]
theorem eqv_ss (x y : Str) : PyData.eqv (.str x) (.str y) = decide (x = y) := by rw [PyData.eqv]; exact str_beq x y
theorem Kd.eqv (a b : Kd) : PyData.eqv a.dat b.dat = decide (a = b) := by
  induction a generalizing b with
  | var x =>
    cases b with
    | var y => simp only [Kd.dat, eqv_tt, eqv_cc, eqv_ss, eqv_nn, decide_true, Bool.true_and, Bool.and_true, Kd.var.injEq]
    | con y => simp only [Kd.dat, eqv_tt, eqv_cc, eqv_ss, decide_eq_false ne_vc, Bool.false_and, reduceCtorEq, decide_false]
    | app c d => simp only [Kd.dat, eqv_tt, eqv_cc, eqv_ss, decide_eq_false ne_va, Bool.false_and, reduceCtorEq, decide_false]
  | con x =>
    cases b with
    | con y => simp only [Kd.dat, eqv_tt, eqv_cc, eqv_ss, eqv_nn, decide_true, Bool.true_and, Bool.and_true, Kd.con.injEq]
    | var y => simp only [Kd.dat, eqv_tt, eqv_cc, eqv_ss, decide_eq_false ne_cv, Bool.false_and, reduceCtorEq, decide_false]
    | app c d => simp only [Kd.dat, eqv_tt, eqv_cc, eqv_ss, decide_eq_false ne_ca, Bool.false_and, reduceCtorEq, decide_false]
  | app a1 a2 h1 h2 =>
    cases b with
    | var y => simp only [Kd.dat, eqv_tt, eqv_cc, eqv_ss, decide_eq_false ne_av, Bool.false_and, reduceCtorEq, decide_false]
    | con y => simp only [Kd.dat, eqv_tt, eqv_cc, eqv_ss, decide_eq_false ne_ac, Bool.false_and, reduceCtorEq, decide_false]
    | app c d =>
      simp only [Kd.dat, eqv_tt, eqv_cc, eqv_ss, eqv_nn, h1, h2, decide_true, Bool.true_and, Bool.and_true, Kd.app.injEq, Bool.decide_and]
theorem SqL.extT {K : PySem.W.Frag} {t c : Addr} {b : Nat} {H H' : Hp} {a : Addr} {xs : List V} (h : SqL K H a xs) (hT : Tape K H t c b) (e : Ext t H H') : SqL K H' a xs := by
  obtain ⟨kvs, hk⟩ := hT.dict
  rcases h with (h | ⟨o, h⟩) | h
  · exact .inl (.inl (e _ _ (ne_of h hk (by intro r; cases r)) h))
  · exact .inl (.inr ⟨o, e _ _ (ne_of h hk (by intro r; cases r)) h⟩)
  · exact .inr h
theorem Wok.str {x : Str} (h : Wok x) : PyData.strOk x = true := by
  unfold PyData.strOk
  rw [Array.all_eq_true']
  intro c hc
  have := h.2.2 c (by simpa using hc)
  exact decide_eq_true (by omega)
theorem Kd.lay : ∀ {k : Kd} {n : Nat}, Kd.fit n k → k.dat.canLay0 = true ∧ k.dat.depth ≤ n + 1
  | .var x, n, h => by
    have w : Wok x := by cases n <;> exact h
    refine ⟨?_, ?_⟩
    · simp only [Kd.dat, PyData.canLay0, PyData.canLayAll0, w.str, Bool.and_true]
      decide +kernel
    · simp [Kd.dat, PyData.depth, PyData.depthAll]
  | .con x, n, h => by
    have w : Wok x := by cases n <;> exact h
    refine ⟨?_, ?_⟩
    · simp only [Kd.dat, PyData.canLay0, PyData.canLayAll0, w.str, Bool.and_true]
      decide +kernel
    · simp [Kd.dat, PyData.depth, PyData.depthAll]
  | .app a b, n, h => by
    obtain ⟨m, rfl, h1, h2⟩ := Kd.fit_app h
    obtain ⟨a1, a2⟩ := Kd.lay h1
    obtain ⟨b1, b2⟩ := Kd.lay h2
    refine ⟨?_, ?_⟩
    · simp only [Kd.dat, PyData.canLay0, PyData.canLayAll0, a1, b1, Bool.and_true]
      decide +kernel
    · simp only [Kd.dat, PyData.depth, PyData.depthAll]
      omega
theorem Kd.shaped {k : Kd} {n : Nat} (h : Kd.fit n k) (hn : n ≤ 60) : SeqAt.shaped k.dat = true := by
  obtain ⟨h1, h2⟩ := Kd.lay h
  unfold SeqAt.shaped
  rw [h1, Bool.true_and]
  exact decide_eq_true (by omega)
/-- a list of words -/
theorem dp_words {K : PySem.W.Frag} {H : Hp} : ∀ ws : List Str, DpAll K H (ws.map V.str) (ws.map PyData.str)
  | [] => .nil
  | _ :: r => .cons (.str _) (dp_words r)
theorem lay_words : ∀ {ws : List Str}, (∀ x ∈ ws, Wok x) → PyData.canLayAll0 (ws.map PyData.str) = true ∧ PyData.depthAll (ws.map PyData.str) = 0
  | [], _ => ⟨by simp [PyData.canLayAll0], by simp [PyData.depthAll]⟩
  | x :: r, h => by
    obtain ⟨h1, h2⟩ := lay_words (ws := r) fun y hy => h y (List.mem_cons_of_mem _ hy)
    refine ⟨?_, ?_⟩
    · simp only [List.map_cons, PyData.canLayAll0, PyData.canLay0, (h x List.mem_cons_self).str, h1, Bool.true_and]
    · simp only [List.map_cons, PyData.depthAll, PyData.depth, h2]; rfl
theorem shaped_words {ws : List Str} (h : ∀ x ∈ ws, Wok x) : SeqAt.shaped (.list (ws.map PyData.str)) = true := by
  obtain ⟨h1, h2⟩ := lay_words h
  unfold SeqAt.shaped
  simp only [PyData.canLay0, h1, PyData.depth, h2]
  decide
theorem shaped_nil : SeqAt.shaped (.list []) = true := by decide
/-! ### rows of kinds, dicts of kinds -/
abbrev KdsAt (H : Hp) : List V → List Kd → Prop := Paired (KdAt H)
theorem paired_get {α β : Type} {F : α → β → Prop} : ∀ {xs : List α} {ys : List β} {i : Nat} {x : α}, Paired F xs ys → xs[i]? = some x → ∃ y, ys[i]? = some y ∧ F x y
  | _, _, _, _, .nil, e => by simp at e
  | _, _, 0, _, .cons r _, e => by simp at e; subst e; exact ⟨_, rfl, r⟩
  | _, _, i + 1, x, .cons _ t, e => by
    obtain ⟨y, h1, h2⟩ := paired_get (i := i) (x := x) t (by simpa using e)
    exact ⟨y, by simpa using h1, h2⟩
theorem paired_map {α β : Type} {F G : α → β → Prop} (h : ∀ a b, F a b → G a b) : ∀ {xs : List α} {ys : List β}, Paired F xs ys → Paired G xs ys
  | _, _, .nil => .nil
  | _, _, .cons r t => .cons (h _ _ r) (paired_map h t)
theorem KdsAt.tups {H H' : Hp} (h : Tups H H') {xs : List V} {ks : List Kd} (r : KdsAt H xs ks) : KdsAt H' xs ks := paired_map (fun _ _ q => KdAt.tups h q) r
theorem KdsAt.dp {K : PySem.W.Frag} {H : Hp} : ∀ {xs : List V} {ks : List Kd}, KdsAt H xs ks → DpAll K H xs (ks.map Kd.dat)
  | _, _, .nil => .nil
  | _, _, .cons r t => .cons r.dp (KdsAt.dp t)
abbrev By := List (Str × Kd)
def lk (by' : By) (x : Str) : Option Kd := (by'.find? fun p => decide (p.1 = x)).map (·.2)
theorem lk_nil (x : Str) : lk [] x = none := rfl
theorem lk_pos {p : Str × Kd} {r : By} {x : Str} (e : p.1 = x) : lk (p :: r) x = some p.2 := by simp [lk, List.find?_cons, e]
theorem lk_neg {p : Str × Kd} {r : By} {x : Str} (e : ¬ p.1 = x) : lk (p :: r) x = lk r x := by simp [lk, List.find?_cons, e]
abbrev ByAt (H : Hp) : List (Key × V) → By → Prop := Paired fun p q => p.1 = .inr q.1 ∧ KdAt H p.2 q.2
theorem ByAt.tups {H H' : Hp} (h : Tups H H') {kvs : List (Key × V)} {by' : By} (r : ByAt H kvs by') : ByAt H' kvs by' := paired_map (fun _ _ q => ⟨q.1, KdAt.tups h q.2⟩) r
theorem ByAt.get {H : Hp} (x : Str) : ∀ {kvs : List (Key × V)} {by' : By}, ByAt H kvs by' → (valV kvs (.inr x) = none ∧ lk by' x = none) ∨ ∃ v k, valV kvs (.inr x) = some v ∧ lk by' x = some k ∧ KdAt H v k
  | _, _, .nil => .inl ⟨rfl, rfl⟩
  | p :: kvs, q :: by', .cons r t => by
    by_cases e : q.1 = x
    · exact .inr ⟨p.2, q.2, valV_pos (by rw [r.1, e]), lk_pos e, r.2⟩
    · have e' : ¬ p.1 = (.inr x : Key) := by
        rw [r.1]
        intro z
        exact e (Sum.inr.inj z)
      rw [valV_neg e', lk_neg e]
      exact ByAt.get x t
def Kd.put (by' : By) : Kd → Kd
  | .var x => (lk by' x).getD (.var x)
  | .con x => .con x
  | .app a b => .app (a.put by') (b.put by')
def conK (x : Str) (ks : List Kd) : Kd := ks.foldl Kd.app (.con x)
theorem conK_snoc (x : Str) (ks : List Kd) (k : Kd) : conK x (ks ++ [k]) = .app (conK x ks) k := by
  unfold conK
  rw [List.foldl_append]
  rfl
theorem Kd.fit_put {by' : By} {m : Nat} (hb : ∀ x k, lk by' x = some k → Kd.fit m k) : ∀ {k : Kd} {n : Nat}, Kd.fit n k → Kd.fit (n + m) (k.put by')
  | .var x, n, h => by
    have w : Wok x := by cases n <;> exact h
    show Kd.fit (n + m) ((lk by' x).getD (.var x))
    cases e : lk by' x with
    | none =>
      show Kd.fit (n + m) (.var x)
      generalize n + m = j
      cases j <;> exact w
    | some k => exact Kd.fit_mono (by omega) (hb x k e)
  | .con x, n, h => by
    have w : Wok x := by cases n <;> exact h
    show Kd.fit (n + m) (.con x)
    generalize n + m = j
    cases j <;> exact w
  | .app a b, n, h => by
    obtain ⟨j, rfl, h1, h2⟩ := Kd.fit_app h
    show Kd.fit (j + 1 + m) (.app (a.put by') (b.put by'))
    rw [show j + 1 + m = j + m + 1 by omega]
    exact ⟨Kd.fit_put hb h1, Kd.fit_put hb h2⟩
theorem fitV {n : Nat} {x : Str} (w : Wok x) : Kd.fit n (.var x) := by cases n <;> exact w
theorem fitC {n : Nat} {x : Str} (w : Wok x) : Kd.fit n (.con x) := by cases n <;> exact w
theorem wok_of_var {n : Nat} {x : Str} (h : Kd.fit n (.var x)) : Wok x := by cases n <;> exact h
theorem wok_of_con {n : Nat} {x : Str} (h : Kd.fit n (.con x)) : Wok x := by cases n <;> exact h
theorem fit_fold {j : Nat} : ∀ {ks : List Kd} {h : Kd} {i : Nat}, Kd.fit i h → (∀ k ∈ ks, Kd.fit j k) → j ≤ i → Kd.fit (i + ks.length) (ks.foldl Kd.app h)
  | [], h, i, h1, _, _ => h1
  | k :: r, h, i, h1, h2, h3 => by
    have q : Kd.fit (i + 1) (.app h k) := ⟨h1, Kd.fit_mono h3 (h2 k List.mem_cons_self)⟩
    have z := fit_fold (ks := r) q (fun y hy => h2 y (List.mem_cons_of_mem _ hy)) (by omega)
    rw [List.length_cons, show i + (r.length + 1) = i + 1 + r.length by omega]
    exact z
theorem fit_conK {j : Nat} {x : Str} {ks : List Kd} (w : Wok x) (h : ∀ k ∈ ks, Kd.fit j k) : Kd.fit (j + ks.length) (conK x ks) := fit_fold (fitC w) h (Nat.le_refl _)
theorem eqv_ll (xs ys : List PyData) : PyData.eqv (.list xs) (.list ys) = PyData.eqvAll xs ys := by rw [PyData.eqv]
theorem words_ne {ws : List Str} : (!PyData.eqv (.list (ws.map PyData.str)) (.list [])) = !ws.isEmpty := by
  rw [eqv_ll]
  cases ws with
  | nil => rw [List.map_nil, eqv_nn]; rfl
  | cons x r => rw [List.map_cons, eqv_cn]; rfl
/-- rows (word, how many parts) -/
def ConsAt (K : PySem.W.Frag) (H : Hp) (l : Addr) : Prop := ∃ xs, SqL K H l xs ∧ 0 < xs.length ∧ xs.length < 1000 ∧ ∀ v ∈ xs, ∃ (a : Addr) (x : Str) (m : Nat), v = .ref a ∧ H a = some (.tup [.str x, .int (m : Int)]) ∧ m ≤ 2 ∧ Wok x
theorem ConsAt.ext {K : PySem.W.Frag} {t c : Addr} {b : Nat} {H H' : Hp} {l : Addr} (h : ConsAt K H l) (hT : Tape K H t c b) (e : Ext t H H') : ConsAt K H' l := by
  obtain ⟨xs, h1, h2, h3, h4⟩ := h
  refine ⟨xs, SqL.extT h1 hT e, h2, h3, fun v hv => ?_⟩
  obtain ⟨a, x, m, e1, e2, e3, e4⟩ := h4 v hv
  exact ⟨a, x, m, e1, Ext.tups e hT _ _ e2, e3, e4⟩
/-- the variables of kinds are among some words -/
def Kd.of (ws : List Str) : Kd → Prop
  | .var x => x ∈ ws
  | .con _ => True
  | .app a b => Kd.of ws a ∧ Kd.of ws b
theorem of_fold {ws : List Str} : ∀ {ks : List Kd} {h : Kd}, Kd.of ws h → (∀ k ∈ ks, Kd.of ws k) → Kd.of ws (ks.foldl Kd.app h)
  | [], _, h1, _ => h1
  | k :: r, h, h1, h2 => of_fold (ks := r) (h := .app h k) ⟨h1, h2 k List.mem_cons_self⟩ fun y hy => h2 y (List.mem_cons_of_mem _ hy)
theorem of_conK {ws : List Str} {x : Str} {ks : List Kd} (h : ∀ k ∈ ks, Kd.of ws k) : Kd.of ws (conK x ks) := of_fold (h := .con x) trivial h
/-! ### recursion -/
theorem fn_false {P : Program} {w : World} {K : PySem.W.Frag} {mg : Str → Option Value} {base : Heap} {f : Addr} {fd : FuncData} {ps : List Str} : FnOk P w K mg base CX0 0 f fd ps (fun _ _ _ _ => False) :=
  ⟨fun _ _ _ _ h => h.elim, fun _ _ _ _ _ _ _ _ _ _ _ _ _ h => h.elim⟩
end L3

namespace L3
open PySem L2
def topS (i : Nat) : Stmt := PySem.Challenge.pw_leastneeds_k01_errors.main.body.getD i (.Pass ⟨0, 0, 0, 0⟩)
section
variable {P : Program} {w : World} {K : PySem.W.Frag} {mg : Str → Option Value} {base : Heap}

abbrev s__law_begin : Stmt := topS 40
abbrev N__law_begin : List Str := ["_law_script"]
theorem sc__law_begin : FnScope N__law_begin ["_law_script"] (defScope s__law_begin) := ⟨rfl, rfl, rfl, by decide +kernel, rfl, by decide +kernel, by decide +kernel⟩
def spBegin (K : PySem.W.Frag) : Sp := fun vs H Q _ => ∃ (a : Addr) (ns : List Int), vs = [.ref a] ∧ SqL K H a (ns.map V.int) ∧ ∀ (H' : Hp) (t c : Addr), Same H H' → H t = none → Tape K H' t c 1000000 → Q (.ref t) H'
theorem cut63 (ns : List Int) : cutV (ns.map V.int) none (some 63) = (ns.take 63).map V.int := by
  unfold cutV
  rw [HT.sIx_none, show (63 : Int) = ((63 : Nat) : Int) from rfl, HT.sIx_nat, List.drop_zero, List.length_map, Nat.sub_zero, List.map_take]
  by_cases h : 63 ≤ ns.length
  · rw [Nat.min_eq_left h]
  · rw [Nat.min_eq_right (by omega), List.take_of_length_le (by simp), List.take_of_length_le (by simp; omega)]
theorem ok_begin {f : Addr} {fd : FuncData} (F : Fun K "_law_begin" "_law_begin" s__law_begin f fd) : FnOk P w K mg base CX0 1 f fd ["_law_script"] (spBegin K) := by
  refine F.ok sc__law_begin (fun vs H Q E h => ?_) (fun cdv A outer s H vs Q E hr h => ?_)
  · obtain ⟨a, ns, rfl, _⟩ := h
    rfl
  · obtain ⟨a, ns, rfl, hS, k⟩ := h
    refine ⟨_, (pss_one (ps_ret (pe_disp (pps_cons pe_str (pe_orT (pe_slice sl_list (pv 0) po_none (po_some pe_int)) (pe_one (pe_lst (pa_cons pe_int pa_nil)))) (pps_cons pe_str pe_int (pps_cons pe_str pe_int pps_nil))) (by rfl) (by rfl) (fun z => by cases z) (by decide)))), ?_⟩
    intro t ht
    have s0 : Same H (upd H t (.dK [])) := same_new ht
    refine ⟨_, rfl, _, rfl, a, _, rfl, s0.seq hS, fun q hq => ?_⟩
    rw [cut63]
    have nq : t ≠ q := fun e => by
      rw [← e, upd_same] at hq
      cases hq
    have s1 : Same (upd H t (.dK [])) (upd (upd H t (.dK [])) q (.lst ((ns.take 63).map V.int))) := same_new hq
    -- what stands at the end
    have fin : ∀ (H2 : Hp) (c : Addr) (ms : List Int), Same (upd H t (.dK [])) H2 → H2 c = some (.lst (ms.map V.int)) → c ≠ t → 0 < ms.length → ms.length ≤ 63 →
        H2 t = some (.dK []) ∧ ∃ kvs : List (Key × V), [(V.str "cells", V.ref c), (V.str "place", V.int 0), (V.str "left", V.int 0)] = kvs.map (fun kv => (kV kv.1, kv.2)) ∧ kvs.length ≤ 15 ∧ Q (.ref t) (upd H2 t (.dK (mergeK [] kvs))) := by
      intro H2 c ms h2 hc nc h0 h63
      refine ⟨h2 _ _ upd_same, tp c 0 0, rfl, by show 3 ≤ 15; decide, ?_⟩
      refine k _ t c (fun b o e => ?_) ht ⟨0, 0, ms, ?_, SqL.of ?_, nc, h0, h63, by omega, by omega, by omega⟩
      · have n : b ≠ t := ne_of_none e ht
        rw [upd_ne n]
        exact h2 _ _ (s0 _ _ e)
      · rw [upd_same]
        rfl
      · rw [upd_ne nc]
        exact hc
    refine ⟨_, .inl ⟨_, SqL.of upd_same, rfl⟩, ?_⟩
    cases hns : ns.take 63 with
    | nil =>
      rw [hns] at s1
      refine iteF ?_
      refine ⟨by decide, fun r hr2 => ?_⟩
      refine fin _ r [0] (s1.trans (same_new hr2)) upd_same (fun e => ?_) (by decide) (by decide)
      rw [e, upd_ne nq, upd_same] at hr2
      cases hr2
    | cons z zs =>
      refine iteT ?_
      refine fin _ q (z :: zs) (by rw [← hns]; exact s1) (by rw [upd_same]) nq.symm (Nat.zero_lt_succ _) ?_
      rw [← hns, List.length_take]
      omega

/-! ### a number from the tape -/
abbrev s__law_draw : Stmt := topS 41
abbrev N__law_draw : List Str := ["_law_tape", "_law_many", "_law_spot", "_law_size", "_law_cell", "_law_got"]
theorem sc__law_draw : FnScope N__law_draw ["_law_tape", "_law_many"] (defScope s__law_draw) := ⟨rfl, rfl, rfl, by decide +kernel, rfl, by decide +kernel, by decide +kernel⟩
theorem get_left {H : Hp} {t c : Addr} {p l : Int} (h : H t = some (.dK (tp c p l))) : DGet H t (.str "left") (some (.int l)) := DGet.k (k := .inr "left") h
theorem get_place {H : Hp} {t c : Addr} {p l : Int} (h : H t = some (.dK (tp c p l))) : DGet H t (.str "place") (some (.int p)) := DGet.k (k := .inr "place") h
theorem get_cells {H : Hp} {t c : Addr} {p l : Int} (h : H t = some (.dK (tp c p l))) : DGet H t (.str "cells") (some (.ref c)) := DGet.k (k := .inr "cells") h
theorem put_left {H : Hp} {t c : Addr} {p l q : Int} (h : H t = some (.dK (tp c p l))) : DPut H t (.str "left") (.int q) (upd H t (.dK (tp c p q))) := DPut.k (k := .inr "left") (v := .int q) h (by show 3 < sizeLine; decide)
theorem put_place {H : Hp} {t c : Addr} {p l q : Int} (h : H t = some (.dK (tp c p l))) : DPut H t (.str "place") (.int q) (upd H t (.dK (tp c q l))) := DPut.k (k := .inr "place") (v := .int q) h (by show 3 < sizeLine; decide)
def spDraw (K : PySem.W.Frag) : Sp := fun vs H Q _ => ∃ (t c : Addr) (n : Int) (b : Nat), vs = [.ref t, .int n] ∧ 1 ≤ n ∧ n < 1000000 ∧ Tape K H t c (b + 1) ∧
  ∀ (H' : Hp) (r : Int), Ext t H H' → Tape K H' t c b → 0 ≤ r → r < n → Q (.int r) H'
theorem ok_draw {f : Addr} {fd : FuncData} (F : Fun K "_law_draw" "_law_draw" s__law_draw f fd) (B : Bl mg) : FnOk P w K mg base CX0 1 f fd ["_law_tape", "_law_many"] (spDraw K) := by
  refine F.ok sc__law_draw (fun vs H Q E h => ?_) (fun cdv A outer s H vs Q E hr h => ?_)
  · obtain ⟨t, c, n, b, rfl, _⟩ := h
    rfl
  · obtain ⟨t, c, n, b, rfl, hn1, hn2, ⟨p, l, ns, h1, h2, h3, h4, h5, h6, h7, h8⟩, k⟩ := h
    have hu := hu_of hr
    refine ⟨_, (pss_cons (ps_if (pt_cmpR op_lt (pe_dget hu (pv 0) pe_str (fun _ _ => rfl)) (pv 1) (nomark _))
  (pss_cons (ps_par (i := 2) (j := 3) (by rfl) sc__law_draw.nd rfl rfl (by decide) rfl rfl (pa_cons (pe_dget hu (pv 0) pe_str (fun _ _ => rfl)) (pa_cons (pe_callB call_len (by rfl) B.len PySem.boot_len (pa_cons (pe_dget hu (pv 0) pe_str (fun _ _ => rfl)) pa_nil)) pa_nil)) (by rfl))
  (pss_cons (ps_asg (pe_tup (pa_cons (pe_ix ix_list (pe_dget hu (pv 0) pe_str (fun _ _ => rfl)) (pe_op op_mod (pe_callTy call_int1 (by rfl) B.int (by decide +kernel) (pa_cons (pv 2) pa_nil)) (pv 3)) (fun _ _ => rfl)) (pa_cons (pe_op op_add (pv 2) pe_int) pa_nil))) (pg_tup (by rfl) (pgs_cons (pg_name (i := 4) sc__law_draw.nd rfl (Or.inl rfl)) (pgs_cons (pg_sub (pv 0) pe_str (set_dict hu)) pgs_nil))))
  (pss_cons (ps_dput hu (pv 0) pe_str (pe_op op_mod (pe_callTy call_int1 (by rfl) B.int (by decide +kernel) (pa_cons (pe_op op_pow (pe_op op_add (pe_op op_add (pe_op op_mod (pe_callTy call_int1 (by rfl) B.int (by decide +kernel) (pa_cons (pv 4) pa_nil)) pe_int) (pe_op op_mul pe_int (pv 2))) pe_int) pe_int) pa_nil)) (pe_op op_add (pe_op op_pow pe_int pe_int) pe_int)) rfl)
  (pss_one (ps_if (PW.pt (pw_and (pt_cmpR op_ge (pv 4) (pe_op op_pow pe_int pe_int) (nomark _)) (pw_and1 (pt_cmpR op_lt (pv 2) (pv 3) (nomark _)))))
  (pss_one (ps_dput hu (pv 0) pe_str (pe_op op_sub (pv 4) (pe_op op_pow pe_int pe_int)) rfl))
  pss_nil)))))
  pss_nil)
  (pss_cons (ps_asg (pe_tup (pa_cons (pe_op op_mod (pe_callTy call_int1 (by rfl) B.int (by decide +kernel) (pa_cons (pe_dget hu (pv 0) pe_str (fun _ _ => rfl)) pa_nil)) (pv 1)) (pa_cons (pe_op op_fdivN (pe_dget hu (pv 0) pe_str (fun _ _ => rfl)) (pv 1)) pa_nil))) (pg_tup (by rfl) (pgs_cons (pg_name (i := 5) sc__law_draw.nd rfl (Or.inl rfl)) (pgs_cons (pg_sub (pv 0) pe_str (set_dict hu)) pgs_nil))))
  (pss_one (ps_ret (pv 5))))), ?_⟩
    -- the last two rows, from any tape
    have fin : ∀ (H1 : Hp) (p l : Int) (v2 v3 v4 : Option V), Ext t H H1 → H1 t = some (.dK (tp c p l)) → SqL K H1 c (ns.map V.int) → 0 ≤ p → p + b ≤ 1000000 → 0 ≤ l →
        tSeq (tAsg (tTup (tCons (tOp (rI (fun _ j => 0 < j) fun i j => .int (i % j)) (tCB (fun xs H Q => (∃ i, xs = [.int i] ∧ Q (.int i) H) ∨ ∃ k, xs = [.bl k] ∧ Q (.int (if k then 1 else 0)) H) (tCons (tDGet (tVar 0) (tC (.str "left"))) tNil)) (tVar 1)) (tCons (tOp (rI CDivN fun i j => .int (i.fdiv j)) (tDGet (tVar 0) (tC (.str "left"))) (tVar 1)) tNil)))
          (gTup K 2 (gCons (gName 5) (gCons (gSub (tVar 0) (tC (.str "left")) rSetD) gNil)))) (tRet (tVar 5)) { nx := fun _ H' => Q .non H', rt := Q } [some (.ref t), some (.int n), v2, v3, v4, none] H1 := by
      intro H1 p l v2 v3 v4 e1 g1 g2 g3 g4 g5
      refine ⟨_, rfl, _, _, rfl, get_left g1, .inl ⟨_, rfl, _, rfl, _, _, rfl, rfl, (by omega), ?_⟩⟩
      refine ⟨_, rfl, _, _, rfl, get_left g1, _, rfl, _, _, rfl, rfl, ⟨by omega, by omega⟩, slz rfl, fun q hq => ?_⟩
      have nq : t ≠ q := ne_of_none g1 hq
      refine ⟨q, _, rfl, SqT.of upd_same, rfl, _, _, rfl, _, _, rfl, _, rfl, t, _, rfl, put_left (by rw [upd_ne nq]; exact g1), rfl, ?_⟩
      refine ⟨_, rfl, ?_⟩
      have e2 : Ext t H (upd H1 q (.tup [.int (l % n), .int (l.fdiv n)])) := e1.trans (Ext.new hq)
      refine k _ _ (e2.trans Ext.put) ⟨p, l.fdiv n, ns, upd_same, (SqL.ext g2 ((Ext.new hq).trans Ext.put) h3), h3, h4, h5, g3, g4, Int.fdiv_nonneg g5 (by omega)⟩ (Int.emod_nonneg _ (by omega)) (Int.emod_lt_of_pos _ (by omega))
    refine ⟨_, rfl, _, _, rfl, get_left h1, _, rfl, _, _, rfl, rfl, _, rfl, ?_⟩
    refine ite2 (fun hc => ?_) (fun hc => ?_)
    · refine ⟨_, rfl, _, _, rfl, get_place h1, _, rfl, _, _, rfl, get_cells h1, _, _, rfl, .inl ⟨_, h2, rfl⟩, _, _, rfl, ?_⟩
      have hm : p % ((ns.map V.int).length : Int) = ((p % ((ns.map V.int).length : Int)).toNat : Int) := (Int.toNat_of_nonneg (Int.emod_nonneg _ (by rw [List.length_map]; omega))).symm
      have hlt : (p % ((ns.map V.int).length : Int)).toNat < ns.length := by
        have := Int.emod_lt_of_pos p (show (0 : Int) < ((ns.map V.int).length : Int) by rw [List.length_map]; omega)
        rw [List.length_map] at this ⊢
        omega
      refine ⟨_, rfl, _, _, rfl, get_cells h1, _, rfl, .inl ⟨_, rfl, _, rfl, _, _, rfl, rfl, (by rw [List.length_map]; omega), c, _, _, V.int (ns[(p % ((ns.map V.int).length : Int)).toNat]), rfl, rfl, h2, at_of hm (by rw [List.getElem?_map, List.getElem?_eq_getElem hlt]; rfl), ?_⟩⟩
      generalize ns[(p % ((ns.map V.int).length : Int)).toNat] = cell
      refine ⟨_, rfl, _, _, rfl, rfl, slz rfl, fun q hq => ?_⟩
      have nq : t ≠ q := ne_of_none h1 hq
      have g0 : (upd H q (.tup [.int cell, .int (p + 1)])) t = some (.dK (tp c p l)) := by rw [upd_ne nq]; exact h1
      refine ⟨q, _, rfl, SqT.of upd_same, rfl, _, _, rfl, _, _, rfl, _, rfl, t, _, rfl, put_place g0, rfl, ?_⟩
      have e1 : Ext t H (upd (upd H q (.tup [.int cell, .int (p + 1)])) t (.dK (tp c (p + 1) l))) := (Ext.new hq).trans Ext.put
      have hu1 : 0 ≤ cell % 2147483587 := Int.emod_nonneg _ (by decide)
      have hu2 : cell % 2147483587 < 2147483587 := Int.emod_lt_of_pos _ (by decide)
      refine ⟨_, rfl, .inl ⟨_, rfl, _, _, rfl, rfl, (show (0 : Int) < 2147483587 by decide), _, rfl, _, _, rfl, rfl, .inr ⟨by omega, by omega⟩, _, _, rfl, rfl, _, _, rfl, rfl, ?_⟩⟩
      refine ⟨_, _, rfl, rfl, ⟨by decide, by decide, ?_⟩, .inl ⟨_, rfl, ?_⟩⟩
      · show (cell % 2147483587 + 48271 * p + 16807).natAbs < 2 ^ 64
        omega
      generalize (cell % 2147483587 + 48271 * p + 16807) ^ (13 : Int).toNat = big
      refine ⟨_, _, rfl, rfl, ⟨by decide, by decide, by decide⟩, _, _, rfl, rfl, _, _, rfl, rfl, (show (0 : Int) < 10 ^ (50 : Int).toNat + 57 by decide +kernel), ?_⟩
      refine ⟨_, rfl, t, _, rfl, put_left upd_same, ?_⟩
      have hl : 0 ≤ big % (10 ^ (50 : Int).toNat + 57) := Int.emod_nonneg _ (by decide +kernel)
      generalize big % (10 ^ (50 : Int).toNat + 57) = l2 at hl ⊢
      have e3 : Ext t H (upd (upd (upd H q (.tup [.int cell, .int (p + 1)])) t (.dK (tp c (p + 1) l))) t (.dK (tp c (p + 1) l2))) := e1.trans Ext.put
      refine ⟨_, rfl, _, _, rfl, rfl, ⟨by decide, by decide, by decide⟩, _, _, rfl, rfl, _, rfl, ?_⟩
      refine ite2 (fun hc1 => ?_) (fun hc1 => ?_)
      · refine ⟨_, rfl, _, rfl, _, _, rfl, rfl, _, rfl, ?_⟩
        refine ite2 (fun hc2 => ?_) (fun hc2 => ?_)
        · refine ⟨_, rfl, _, _, rfl, rfl, ⟨by decide, by decide, by decide⟩, _, _, rfl, rfl, ?_⟩
          refine ⟨_, rfl, t, _, rfl, put_left upd_same, ?_⟩
          have hc3 : (10 : Int) ^ (18 : Int).toNat ≤ cell := of_decide_eq_true hc1
          exact fin _ (p + 1) _ _ _ _ (e3.trans Ext.put) upd_same (SqL.ext h2 (e3.trans Ext.put) h3) (by omega) (by omega) (by omega)
        · exact fin _ (p + 1) _ _ _ _ e3 upd_same (SqL.ext h2 e3 h3) (by omega) (by omega) hl
      · refine iteF ?_
        exact fin _ (p + 1) _ _ _ _ e3 upd_same (SqL.ext h2 e3 h3) (by omega) (by omega) hl
    · exact fin H p l none none none (Ext.refl _ _) h1 h2 h6 (by omega) h8
end
end L3

namespace L3
open PySem L2
section
variable {P : Program} {w : World} {K : PySem.W.Frag} {mg : Str → Option Value} {base : Heap}
theorem Fun.kn {x : Str} {st : Stmt} {f : Addr} {fd : FuncData} {k : Nat} {ps : List Str} {sp : Sp} (F : Fun K x x st f fd) (hm : mg x = some (.ref f)) (h : FnOk P w K mg base CX0 k f fd ps sp)
    (b : ∀ (kV doc pm : Value) (an : Option Addr) (cdv ct : Value) (us : List Value), us.length = ps.length → bindArgs (PySem.W.fnOf x x (defArgs st) (defBody st) (defScope st) .none kV doc pm an cdv ct) ⟨us, []⟩ = pure (ps.zip us)) : Kn P w K mg base k x ps sp :=
  ⟨f, fd, h, hm, F.kp, F.binds b⟩
abbrev s__law_pick : Stmt := topS 42
abbrev N__law_pick : List Str := ["_law_tape", "_law_items"]
theorem sc__law_pick : FnScope N__law_pick ["_law_tape", "_law_items"] (defScope s__law_pick) := ⟨rfl, rfl, rfl, by decide +kernel, rfl, by decide +kernel, by decide +kernel⟩
def spPick (K : PySem.W.Frag) : Sp := fun vs H Q _ => ∃ (t c l : Addr) (xs : List V) (b : Nat), vs = [.ref t, .ref l] ∧ SqL K H l xs ∧ 0 < xs.length ∧ xs.length < 1000000 ∧ Tape K H t c (b + 1) ∧
  ∀ (H' : Hp) (v : V), Ext t H H' → Tape K H' t c b → v ∈ xs → Q v H'
theorem ok_pick {f : Addr} {fd : FuncData} (F : Fun K "_law_pick" "_law_pick" s__law_pick f fd) (B : Bl mg) (D__law_draw : Kn P w K mg base 1 "_law_draw" ["_law_tape", "_law_many"] (spDraw K)) : FnOk P w K mg base CX0 2 f fd ["_law_tape", "_law_items"] (spPick K) := by
  refine F.ok sc__law_pick (fun vs H Q E h => ?_) (fun cdv A outer s H vs Q E hr h => ?_)
  · obtain ⟨t, c, l, xs, b, rfl, _⟩ := h
    rfl
  · obtain ⟨t, c, l, xs, b, rfl, h1, h2, h3, h4, k⟩ := h
    have hr__law_draw := hr
    refine ⟨_, (pss_one (ps_ret (pe_ix ix_list (pv 1) (pe_kn D__law_draw hr__law_draw (pa_cons (pv 0) (pa_cons (pe_callB call_len (by rfl) B.len PySem.boot_len (pa_cons (pv 1) pa_nil)) pa_nil))) (fun _ _ => rfl)))), ?_⟩
    refine ⟨_, rfl, _, rfl, _, rfl, _, _, rfl, .inl ⟨_, h1, rfl⟩, t, c, _, b, rfl, by omega, by omega, h4, fun H' r e1 e2 r1 r2 => ?_⟩
    have hj : r = (r.toNat : Int) := (Int.toNat_of_nonneg r1).symm
    have hlt : r.toNat < xs.length := by omega
    exact ⟨l, xs, r, xs[r.toNat], rfl, rfl, SqL.extT h1 h4 e1, at_of hj (List.getElem?_eq_getElem hlt), k H' _ e1 e2 (List.getElem_mem hlt)⟩

end
end L3

namespace L3
open PySem L2
/-! ### variables in order -/
def addV (fs : List Str) (x : Str) : List Str := if x ∈ fs then fs else fs ++ [x]
def Kd.vs : Kd → List Str → List Str
  | .var x, fs => addV fs x
  | .con _, fs => fs
  | .app a b, fs => b.vs (a.vs fs)
def vsL : List Kd → List Str → List Str
  | [], fs => fs
  | k :: r, fs => vsL r (k.vs fs)
def Kd.size : Kd → Nat
  | .var _ => 1
  | .con _ => 1
  | .app a b => a.size + b.size + 1
def sizeL : List Kd → Nat
  | [] => 0
  | k :: r => k.size + sizeL r
theorem Kd.size_pos (k : Kd) : 0 < k.size := by cases k <;> simp [Kd.size]
theorem eqV_str (x y : Str) : eqV (.str y) (.str x) = decide (y = x) := str_beq y x
theorem inV_words (x : Str) : ∀ fs : List Str, inV (.str x) (fs.map V.str) = decide (x ∈ fs)
  | [] => rfl
  | y :: r => by
    have ih := inV_words x r
    unfold inV at ih ⊢
    rw [List.map_cons, List.any_cons, ih, eqV_str]
    by_cases h : y = x
    · subst h
      simp
    · have h2 : ¬ x = y := fun e => h e.symm
      simp [h, h2]
theorem flat_words : ∀ fs : List Str, (fs.map V.str).all flatV = true
  | [] => rfl
  | _ :: r => by
    rw [List.map_cons, List.all_cons, flat_words r]
    rfl
/-- the last of a row -/
theorem paired_last {α β : Type} {F : α → β → Prop} : ∀ {xs : List α} {ys : List β} {y : β}, Paired F xs (ys ++ [y]) → ∃ xs0 x, xs = xs0 ++ [x] ∧ Paired F xs0 ys ∧ F x y
  | [], [], _, h => nomatch h
  | [], _ :: _, _, h => nomatch h
  | x :: xs, [], y, .cons r t => by
    cases t
    exact ⟨[], x, rfl, .nil, r⟩
  | x :: xs, z :: ys, y, .cons r t => by
    obtain ⟨xs0, w, e, h1, h2⟩ := paired_last (ys := ys) t
    exact ⟨x :: xs0, w, by rw [e]; rfl, .cons r h1, h2⟩
theorem paired_snoc {α β : Type} {F : α → β → Prop} {xs : List α} {ys : List β} {x : α} {y : β} (h : Paired F xs ys) (r : F x y) : Paired F (xs ++ [x]) (ys ++ [y]) := Paired.snoc h r
theorem paired_rev {α β : Type} {F : α → β → Prop} : ∀ {xs : List α} {ys : List β}, Paired F xs ys → Paired F xs.reverse ys.reverse
  | _, _, .nil => .nil
  | _, _, .cons r t => by
    rw [List.reverse_cons, List.reverse_cons]
    exact Paired.snoc (paired_rev t) r
theorem kds_snoc : ∀ ks : List Kd, ks ≠ [] → ∃ ks0 k, ks = ks0 ++ [k] := fun ks h => ⟨ks.dropLast, ks.getLast h, (List.dropLast_concat_getLast h).symm⟩
theorem shaped_kds {ks : List Kd} (h : ∀ k ∈ ks, k.fit 60) : SeqAt.shaped (.list (ks.map Kd.dat)) = true := by
  have key : ∀ ks : List Kd, (∀ k ∈ ks, k.fit 60) → PyData.canLayAll0 (ks.map Kd.dat) = true ∧ PyData.depthAll (ks.map Kd.dat) ≤ 61 := by
    intro ks
    induction ks with
    | nil => intro _; exact ⟨by simp [PyData.canLayAll0], by simp [PyData.depthAll]⟩
    | cons k r ih =>
      intro h
      obtain ⟨h1, h2⟩ := ih fun y hy => h y (List.mem_cons_of_mem _ hy)
      obtain ⟨h3, h4⟩ := Kd.lay (h k List.mem_cons_self)
      refine ⟨by simp only [List.map_cons, PyData.canLayAll0, h3, h1, Bool.true_and], ?_⟩
      simp only [List.map_cons, PyData.depthAll]
      omega
  obtain ⟨h1, h2⟩ := key ks h
  unfold SeqAt.shaped
  simp only [PyData.canLay0, h1, PyData.depth, Bool.true_and]
  exact decide_eq_true (by omega)
theorem kds_ne {ks : List Kd} : (!PyData.eqv (.list (ks.map Kd.dat)) (.list [])) = !ks.isEmpty := by
  rw [eqv_ll]
  cases ks with
  | nil => rw [List.map_nil, eqv_nn]; rfl
  | cons x r => rw [List.map_cons, eqv_cn]; rfl
/-! ### matching -/
def Kd.mt : Kd → Kd → By → Bool × By
  | .var x, k, b => match lk b x with
    | some k' => (decide (k' = k), b)
    | none => (true, b ++ [(x, k)])
  | .con x, k, b => (decide (Kd.con x = k), b)
  | .app a c, .app d e, b => if (a.mt d b).1 = true then c.mt e (a.mt d b).2 else (false, (a.mt d b).2)
  | .app _ _, .var _, b => (false, b)
  | .app _ _, .con _, b => (false, b)
def mtL : List Kd → List Kd → By → Option By
  | p :: ps, k :: ks, b => if (p.mt k b).1 = true then mtL ps ks (p.mt k b).2 else none
  | _, _, b => some b
def mtP : List (Kd × Kd) → By → Option By
  | [], b => some b
  | (p, k) :: r, b => if (p.mt k b).1 = true then mtP r (p.mt k b).2 else none
theorem mtP_zip : ∀ (ps ks : List Kd) (b : By), mtP (ps.zip ks) b = mtL ps ks b
  | [], _, _ => rfl
  | _ :: _, [], _ => rfl
  | p :: ps, k :: ks, b => by
    show (if (p.mt k b).1 = true then mtP (ps.zip ks) (p.mt k b).2 else none) = if (p.mt k b).1 = true then mtL ps ks (p.mt k b).2 else none
    rw [mtP_zip ps ks]
theorem mtP_app (a c d e : Kd) (r : List (Kd × Kd)) (b : By) : mtP ((.app a c, .app d e) :: r) b = mtP ((a, d) :: (c, e) :: r) b := by
  show (if ((Kd.app a c).mt (.app d e) b).1 = true then mtP r ((Kd.app a c).mt (.app d e) b).2 else none) = if (a.mt d b).1 = true then (if (c.mt e (a.mt d b).2).1 = true then mtP r (c.mt e (a.mt d b).2).2 else none) else none
  by_cases h : (a.mt d b).1 = true
  · have q : (Kd.app a c).mt (.app d e) b = c.mt e (a.mt d b).2 := by simp only [Kd.mt, if_pos h]
    rw [if_pos h, q]
  · have q : (Kd.app a c).mt (.app d e) b = (false, (a.mt d b).2) := by simp only [Kd.mt, if_neg h]
    rw [if_neg h, q]
    rfl
theorem lk_snoc {b : By} {x : Str} {k : Kd} (h : lk b x = none) (y : Str) : lk (b ++ [(x, k)]) y = if y = x then some k else lk b y := by
  induction b with
  | nil =>
    by_cases e : x = y
    · rw [if_pos e.symm]
      exact lk_pos e
    · rw [if_neg (fun z => e z.symm)]
      exact lk_neg e
  | cons p r ih =>
    have hk : ¬ p.1 = x := fun z => by rw [lk_pos z] at h; cases h
    rw [lk_neg hk] at h
    rw [List.cons_append]
    by_cases e : p.1 = y
    · rw [lk_pos e, lk_pos e, if_neg (fun z => hk (e.trans z))]
    · rw [lk_neg e, lk_neg e, ih h]
theorem lk_mem {b : By} {x : Str} {k : Kd} (h : lk b x = some k) : (x, k) ∈ b := by
  induction b with
  | nil => cases h
  | cons p r ih =>
    by_cases e : p.1 = x
    · rw [lk_pos e] at h
      have : p = (x, k) := by
        obtain ⟨p1, p2⟩ := p
        have e' : p1 = x := e
        have h' : p2 = k := Option.some.inj h
        rw [e', h']
      rw [this]
      exact List.mem_cons_self
    · rw [lk_neg e] at h
      exact List.mem_cons_of_mem _ (ih h)
/-- what matching adds -/
theorem Kd.mt_grow {m : Nat} : ∀ (p k : Kd) (b : By), k.fit m → (∀ q ∈ b, q.2.fit m) → (p.mt k b).2.length ≤ b.length + p.size ∧ ∀ q ∈ (p.mt k b).2, q.2.fit m
  | .var x, k, b, hk, hb => by
    simp only [Kd.mt]
    cases e : lk b x with
    | some k' => exact ⟨Nat.le_add_right _ _, hb⟩
    | none =>
      refine ⟨by simp [Kd.size], fun q hq => ?_⟩
      rcases List.mem_append.mp hq with h | h
      · exact hb q h
      · rw [List.mem_singleton.mp h]
        exact hk
  | .con x, k, b, hk, hb => ⟨Nat.le_add_right _ _, hb⟩
  | .app a c, .app d e, b, hk, hb => by
    obtain ⟨j, rfl, h1, h2⟩ := Kd.fit_app hk
    have h1' := Kd.fit_mono (Nat.le_succ j) h1
    have h2' := Kd.fit_mono (Nat.le_succ j) h2
    obtain ⟨g1, g2⟩ := Kd.mt_grow a d b h1' hb
    obtain ⟨g3, g4⟩ := Kd.mt_grow c e (a.mt d b).2 h2' g2
    simp only [Kd.mt]
    by_cases h : (a.mt d b).1 = true
    · rw [if_pos h]
      refine ⟨?_, g4⟩
      simp only [Kd.size]
      omega
    · rw [if_neg h]
      refine ⟨?_, g2⟩
      simp only [Kd.size]
      omega
  | .app _ _, .var _, b, _, hb => ⟨Nat.le_add_right _ _, hb⟩
  | .app _ _, .con _, b, _, hb => ⟨Nat.le_add_right _ _, hb⟩
/-- the names, as the variables come -/
def names (b : By) : List Str := b.map (·.1)
theorem lk_names (b : By) (x : Str) : (lk b x).isSome = decide (x ∈ names b) := by
  induction b with
  | nil => rfl
  | cons p r ih =>
    by_cases e : p.1 = x
    · rw [lk_pos e]
      simp [names, e]
    · rw [lk_neg e, ih]
      have e' : ¬ x = p.1 := fun z => e z.symm
      have q : names (p :: r) = p.1 :: names r := rfl
      rw [q]
      simp [e']
theorem Kd.mt_names : ∀ (p k : Kd) (b : By), (p.mt k b).1 = true → names (p.mt k b).2 = p.vs (names b)
  | .var x, k, b, h => by
    have hn := lk_names b x
    simp only [Kd.mt, Kd.vs, addV] at h ⊢
    cases e : lk b x with
    | some k' =>
      rw [e] at hn
      have : x ∈ names b := of_decide_eq_true hn.symm
      simp only [this, if_true]
    | none =>
      rw [e] at hn
      have : ¬ x ∈ names b := of_decide_eq_false hn.symm
      rw [if_neg this]
      simp [names]
  | .con x, k, b, _ => rfl
  | .app a c, .app d e, b, h => by
    simp only [Kd.mt, Kd.vs] at h ⊢
    by_cases h1 : (a.mt d b).1 = true
    · rw [if_pos h1] at h ⊢
      rw [Kd.mt_names c e _ h, Kd.mt_names a d b h1]
    · rw [if_neg h1] at h
      cases h
  | .app _ _, .var _, b, h => by simp [Kd.mt] at h
  | .app _ _, .con _, b, h => by simp [Kd.mt] at h
theorem mtL_names : ∀ (ps ks : List Kd) (b c : By), ps.length = ks.length → mtL ps ks b = some c → names c = vsL ps (names b)
  | [], [], b, c, _, h => by cases h; rfl
  | [], _ :: _, _, _, h, _ => by cases h
  | _ :: _, [], _, _, h, _ => by cases h
  | p :: ps, k :: ks, b, c, hl, h => by
    simp only [mtL] at h
    by_cases h1 : (p.mt k b).1 = true
    · rw [if_pos h1] at h
      rw [mtL_names ps ks _ c (Nat.succ.inj hl) h, Kd.mt_names p k b h1]
      rfl
    · rw [if_neg h1] at h
      cases h
end L3

/-! repr of nested data; a law's own run, where nothing else is being shown -/
namespace L3
open PySem PySem.Spec PyProof.Rows L2
section
variable {X : Cx}
/-- repr of a list or tuple of nested data -/
def rRepr (K : PySem.W.Frag) : List V → Hp → VK → Prop := fun xs H Q => ∃ (a : Addr) (d : PyData), xs = [.ref a] ∧ Dp K H (.ref a) d ∧ d.showable = true ∧ d.hasDict = false ∧ d.depth ≤ 60 ∧ d.shown.length ≤ sizeLine ∧ Q (.str d.shown) H
theorem call_reprD (hg : X.A.guards = some []) (hu : X.A.units + 64 < cLine) : CallR X (.builtin "repr") (rRepr X.K) := by
  intro pins s σ H xs us Q I r h
  obtain ⟨a, d, rfl, hd, hs, hn, hdep, hsz, q⟩ := h
  obtain ⟨u, rfl, rx⟩ := vals1 r
  obtain rfl : u = Value.ref a := rx
  obtain ⟨as, hr⟩ := Dp.reads I d _ _ hd (show RelV (.ref a) (.ref a) from rfl)
  exact repr_of_reads' hr hs (fun z => by rw [hn] at z; cases z) hg (by omega) (fun _ _ e => e) (fun h' u tk hk => ⟨.str d.shown, H, I.kept (t' := tk) hk, ⟨u, rfl⟩, q⟩) hsz
end
/-- the law's own def, called by nobody -/
def LawRun (P : Program) (w : World) (K : PySem.W.Frag) (mg : Str → Option Value) (base : Heap) (f : Addr) (fd : FuncData) (x : Str) (sp : List V → Hp → VK → Prop) : Prop :=
  ∀ (s : Shared) (H : Hp) (args : Args) (u : Value) (v : V) (Q : VK), Env0 P w K mg base callerA [] s H → BindsTo s fd args [(x, u)] → RelV v u → sp [v] H Q → codeAny (model P w) callerA (.call (.ref f) args) (CR CX0 [] P w H s Q E0) s
section
variable {P : Program} {w : World} {K : PySem.W.Frag} {mg : Str → Option Value} {base : Heap}
theorem lawRun_of {st : Stmt} {f : Addr} {fd : FuncData} {N : List Str} {k : Nat} {x : Str} {sp : List V → Hp → VK → Prop} (F : Fun K "law" "law" st f fd) (S : FnScope N [x] (defScope st)) (hroom : Room (k + 1) callerA)
    (hbody : ∀ (cdv : Value) (s : Shared) (H : Hp) (v : V) (Q : VK), Room k (callerA.deeper (envOfC "law" (defScope st) s.heap.objs.size f cdv)) → sp [v] H Q →
      ∃ t, PSs (cxOf CX0 P w K mg base N "law" (defScope st) f cdv callerA [] s H E0).nox (defBody st) t ∧ t { nx := fun _ H' => Q .non H', rt := Q } (start N [v]) H) : LawRun P w K mg base f fd x sp := by
  obtain ⟨oc, od, kV, doc, pm, an, cdv, ct, osl, rfl, lk, hcd⟩ := F.ex
  intro s H args u v Q e0 hb rv hsp
  have inK : K.In s.heap := e0.mod.kin.keeps fun b o z => (e0.bs b o z).1
  have noL : s.heap.NoLimit := e0.mod.nolimit.keeps fun b o z => (e0.bs b o z).1
  have kinds : ∀ y ∈ ([x].zip [u] : List (Str × Value)), (defScope st).names.lookup y.1 = some .local ∨ ((defScope st).names.lookup y.1 = some .cell ∧ ((cellsFrom (s.heap.objs.size + 1) (defScope st).names []).lookup y.1).isSome = true) := by
    rintro ⟨n, z⟩ hy
    rcases S.par n (List.of_mem_zip hy).1 with q | q
    · exact Or.inl q
    · exact Or.inr ⟨q, PySem.W.cellsFrom_some _ _ _ (Or.inl q)⟩
  refine codeAny_call_function (Room.depth hroom) (inK _ _ lk) rfl S.co S.gen rfl (PySem.W.codeRec_of inK hcd) (hb _ _ _ _ ?_)
  refine wpAny_newFunctionEnv_cells S.kind kinds fun env he s1 xx => ?_
  subst he
  refine ⟨noL.keeps xx.toInCall.keep, codeAny_func ?_⟩
  obtain ⟨t, ht, hq⟩ := hbody cdv s H v Q (Room.deeper hroom _) hsp
  have J : Inv (cxOf CX0 P w K mg base N "law" (defScope st) f cdv callerA [] s H E0) [] (start N [v]) H s1 := inv_start S rfl e0 rfl (Paired.cons rv .nil) xx
  refine wpAny_mono ((PSs.nox ht).run [] s1 (start N [v]) H _ J hq) (fun fl s' hs => ?_) (fun e s' hs => hs)
  cases fl with
  | next =>
    obtain ⟨σ', H', J', q⟩ := hs
    exact ⟨V.non, H', J'.os, J'.bare, J'.base, J'.hok, rfl, q⟩
  | ret z =>
    obtain ⟨v', σ', H', J', rz, q⟩ := hs
    exact ⟨v', H', J'.os, J'.bare, J'.base, J'.hok, rz, q⟩
  | brk =>
    obtain ⟨_, _, _, q⟩ := hs
    exact q.elim
  | cont =>
    obtain ⟨_, _, _, q⟩ := hs
    exact q.elim
end
section
variable {P : Program} {w : World} {K : PySem.W.Frag} {mg mb : Str → Option Value} {fa a : Addr} {fd : FuncData} {x : Str} {sp : List V → Hp → VK → Prop} {s1 : Shared} {vs : List Value} {ns : List Int}
/-- what the law's call has to come to -/
abbrev LawEnd (s1 : Shared) (r : Result) (s' : Shared) : Prop := r = .ok (.ret (.bool true)) ∧ OldK s1.heap s'.heap ∧ s'.os = s1.os ∧ AllBare s'.gens
theorem law_core (inK : K.In s1.heap) (gl : s1.heap.Ns mainGlobals mg) (bi : s1.heap.Ns builtinsNs mb) (bb : ∀ y : Str, y ≠ "__name__" → mb y = bootBuiltins y) (nl : s1.heap.NoLimit) (ng : s1.gens = #[])
    (ob : s1.heap.get? a = some { cls := .type "list", data := .seq vs.toArray }) (run : ∀ base : Heap, K.In base → base.Ns mainGlobals mg → LawRun P w K mg base fa fd x sp)
    (bind : ∀ (s : Shared) (u : Value), BindsTo s fd ⟨[u], []⟩ [(x, u)]) (want : ∀ H : Hp, Only H → SqL K H a (ns.map V.int) → sp [.ref a] H (fun v _ => v = .bl true))
    (H : Hp) (hO : Only H) (hS : SqL K H a (ns.map V.int)) (ok : HOk P w H s1.heap) (alone : ∀ b, H b ≠ none → b = a) (off : H a ≠ none → K.lookup a = none) :
    codeAny (model P w) callerA (.call (.ref fa) ⟨[.ref a], []⟩) (LawEnd s1) s1 := by
  -- a thing that is tracked is the script
  have isA : ∀ {b : Addr} {u : HO}, H b = some u → b = a := fun {b u} q => alone b (by rw [q]; simp)
  have hid : ∀ {b : Addr} {o : Obj}, s1.heap.get? b = some o → H b = none → (hidT s1.heap H).get? b = some o := fun z n => hidT_get z n
  have dictFree : ∀ {b : Addr} {o : Obj} {es : Array DictEntry} {ep : Nat}, s1.heap.get? b = some o → o.data = .dict es ep → H b = none := by
    intro b o es ep z dd
    cases q : H b with
    | none => rfl
    | some u =>
      have e' := isA q
      subst e'
      rw [ob] at z
      cases z
      have dd' : Data.seq vs.toArray _ = Data.dict es ep := dd
      cases dd'
  have nsH : ∀ {b : Addr} {m : Str → Option Value}, s1.heap.Ns b m → (hidT s1.heap H).Ns b m := by
    rintro b m ⟨o, es, ep, z, dd, r⟩
    exact ⟨o, es, ep, hid z (dictFree z dd), dd, r⟩
  have inH : K.In (hidT s1.heap H) := by
    intro b o z
    refine hid (inK b o z) ?_
    cases q : H b with
    | none => rfl
    | some u =>
      have e' := isA q
      subst e'
      rw [off (by rw [q]; simp)] at z
      cases z
  have md : Mod K mg (hidT s1.heap H) := by
    obtain ⟨mc, z1, z2⟩ := nl
    exact ⟨inH, nsH gl, ⟨mb, nsH bi, bb⟩, ⟨mc, nsH z1, z2⟩⟩
  have e0 : Env0 P w K mg (hidT s1.heap H) callerA [] s1 H := by
    refine ⟨rfl, md, fun b o z => of_hidT z, Nat.le_of_eq (hidT_size _ _), trivial, ?_, ok, .of_eq ng⟩
    intro b hb
    exact nomatch (show b ∈ ([] : List Addr) from hb)
  refine codeAny_mono (run _ inH (nsH gl) s1 H ⟨[.ref a], []⟩ (.ref a) (.ref a) _ e0 (bind s1 (.ref a)) rfl (want H hO hS)) fun r s' h => ?_
  cases r with
  | error e => exact h.elim
  | ok fl =>
    cases fl with
    | next => exact h.elim
    | brk => exact h.elim
    | cont => exact h.elim
    | ret u =>
      obtain ⟨v, H', os, bare, un, ok', r', q⟩ := h
      obtain rfl : v = .bl true := q
      obtain rfl : u = Value.bool true := r'
      refine ⟨rfl, OldK.of_keep fun b o z => ?_, os, bare⟩
      cases q : H b with
      | none => exact un.keep b o z q (fun y => nomatch (show b ∈ ([] : List Addr) from y)) (fun y => nomatch y)
      | some u =>
        rcases hO b with y | ⟨o2, xs, y⟩
        · rw [q] at y
          cases y
        · obtain ⟨z1, _⟩ := ok b _ y
          obtain ⟨z2, _⟩ := ok' b _ (un.frzs b o2 _ y)
          rw [z] at z1
          cases z1
          exact z2
theorem law_callG (inK : K.In s1.heap) (gl : s1.heap.Ns mainGlobals mg) (bi : s1.heap.Ns builtinsNs mb) (bb : ∀ y : Str, y ≠ "__name__" → mb y = bootBuiltins y) (nl : s1.heap.NoLimit) (ng : s1.gens = #[])
    (ob : s1.heap.get? a = some { cls := .type "list", data := .seq vs.toArray }) (hi : IntsAre vs ns) (hl : ns.length ≤ sizeLine) (run : ∀ base : Heap, K.In base → base.Ns mainGlobals mg → LawRun P w K mg base fa fd x sp)
    (bind : ∀ (s : Shared) (u : Value), BindsTo s fd ⟨[u], []⟩ [(x, u)]) (want : ∀ H : Hp, Only H → SqL K H a (ns.map V.int) → sp [.ref a] H (fun v _ => v = .bl true)) :
    codeAny (model P w) callerA (.call (.ref fa) ⟨[.ref a], []⟩) (LawEnd s1) s1 := by
  have rv := vals_ints hi
  cases hk : K.lookup a with
  | some o =>
    have z := inK a o hk
    rw [ob] at z
    cases z
    have hS : SqL K (fun _ => none) a (ns.map V.int) := Or.inr ⟨_, vs.toArray, _, hk, rfl, rfl, rfl, by rw [List.size_toArray, hi.length]; exact hl, by simpa using rv⟩
    exact law_core inK gl bi bb nl ng ob run bind want (fun _ => none) (fun _ => .inl rfl) hS (fun _ _ z => nomatch (show (none : Option HO) = some _ from z)) (fun _ z => (z rfl).elim) (fun z => (z rfl).elim)
  | none =>
    let fz : HO := .frz { cls := .type "list", data := .seq vs.toArray } (.lst (ns.map V.int))
    have at1 : upd (fun _ => none) a fz a = some fz := upd_same
    refine law_core inK gl bi bb nl ng ob run bind want (upd (fun _ => none) a fz) (fun b => ?_) (.inl (.inr ⟨_, at1⟩)) (fun b u z => ?_) (fun b z => ?_) fun _ => hk
    · by_cases hb : b = a
      · rw [hb, at1]
        exact .inr ⟨_, _, rfl⟩
      · exact .inl (upd_ne hb)
    · by_cases hb : b = a
      · subst hb
        rw [at1] at z
        cases z
        exact ⟨ob, by rw [List.length_map]; exact hl, vs, _, rv, ob⟩
      · rw [upd_ne hb] at z
        cases z
    · by_cases hb : b = a
      · exact hb
      · exact (z (upd_ne hb)).elim
end
/-- the end of a law whose own def is run by LawRun -/
theorem walkG {l : PySem.W.OpenLaw} {n : Nat} {q : Program} {loose : List Str} {XP : (Str → Option Value) → Heap → Prop} {YP : World → Heap → Prop} {d : DefRec} {K : Params → PySem.W.Frag} {sp : PySem.W.Frag → List V → Hp → VK → Prop} {x : Str}
    (hn : l.most = some n) (hn2 : n ≤ sizeLine) (hdf : d.params.defaults = []) (hY : ∀ (w : World) (h : Heap), YP w h → (K w.params).In h)
    (F : ∀ (w : World) (mg : Str → Option Value) (fa : Addr) (h : Heap), (K w.params).In h → h.Ns mainGlobals mg → mg d.name = some (.ref fa) →
      ∃ fd : FuncData, (∀ (s : Shared) (u : Value), BindsTo s fd ⟨[u], []⟩ [(x, u)]) ∧ ∀ base : Heap, (K w.params).In base → base.Ns mainGlobals mg → LawRun l.prog w (K w.params) mg base fa fd x (sp (K w.params)))
    (want : ∀ (K : PySem.W.Frag) (H : Hp) (a : Addr) (ns : List Int), ns.length ≤ n → SqL K H a (ns.map V.int) → sp K [.ref a] H (fun v _ => v = .bl true)) : PySem.W.WalkO q loose XP YP l.row.toRowW d [] (fun f vs => PySem.call f vs) := by
  refine Att.attach_call hn hdf ?_
  intro w s0 s1 mg mb fa o pm cd doc a vs ns G Y ho hd hcd hmg hobj hints hlen hg
  obtain ⟨fd, hb, run⟩ := F w mg fa _ (hY w _ Y) G.T.g hmg
  exact law_callG (hY w _ Y) G.T.g G.T.b G.T.builtins G.T.nolimit hg hobj hints (Nat.le_trans hlen hn2) run hb (fun H _ hS => want _ H a ns hlen hS)
end L3

/-! list(zip(a, b)) over two lists or two tuples of one length -/
namespace L3
open PySem PySem.Spec PyProof.Rows L2
section
variable {prog : Program} {w : World} {A : Around} {E : Value → Shared → Prop} {s : Shared} {z TI TO T i1 i2 l1 l2 : Addr} {f : Bool} {oT : Obj} {xs ys : Array Value}
/-- a zip of tuples whose last pair is still out gives the next pair -/
theorem zt_item {k1 k2 : Nat} {x y : Value} {Q : Option Value → Shared → Prop} (D : ZipApart z TI TO i1 i2 l1 l2) (hz : IsZipHeld s.heap z TI TO T f) (hT : s.heap.get? T = some oT) (hTI : IsPair s.heap TI (.ref i1) (.ref i2))
    (a1 : s.heap.IsTupleIter i1 l1 k1) (a2 : s.heap.IsTupleIter i2 l2 k2) (t1 : s.heap.IsTuple l1 xs) (t2 : s.heap.IsTuple l2 ys) (ex : xs[k1]? = some x) (ey : ys[k2]? = some y)
    (q : ∀ h', IsZipHeld h' z TI TO T true → h'.IsTupleIter i1 l1 (k1 + 1) → h'.IsTupleIter i2 l2 (k2 + 1) → IsPair h' s.heap.objs.size x y → h'.objs.size = s.heap.objs.size + 1 →
      (∀ b o, b ≠ z → b ≠ i1 → b ≠ i2 → s.heap.get? b = some o → h'.get? b = some o) → Q (some (.ref s.heap.objs.size)) { s with heap := h' }) : wpAny (model prog w) A (pyNext (.ref z)) Q E s := by
  have isZip : s.TypeIs (.ref z) "zip" := ⟨_, hz, rfl⟩
  have body : ∀ (A' : Around) (E' : Value → Shared → Prop), wpAny (model prog w) A' (Builtin.«zip.__next__» ⟨[.ref z], []⟩) (fun fin s' => ∃ v, fin = .done (.ret v) ∧ Q (some v) s') E' s := by
    intro A' E'
    show wpAny _ _ (field (.ref z) 2 >>= _) _ _ s
    refine wpAny_bind (wpAny_field (i := 2) hz rfl rfl ?_)
    show wpAny _ _ (field (.ref z) 3 >>= _) _ _ s
    refine wpAny_bind (wpAny_field (i := 3) hz rfl rfl (wpAny_bind (wpAny_seqItems hTI rfl ?_)))
    refine wpAny_bind (wpAny_tupleHeld_zip hz hT fun ha hza hsa => ?_)
    rw [if_neg Bool.false_ne_true]
    refine wpAny_bind ?_
    rw [← Array.forIn_toList]
    simp only [List.forIn_nil, List.forIn_cons]
    refine wpAny_bind (wpAny_bind (wpAny_holding (wpAny_bind (RZ.nextOf_tuple_item (a1.extBut hsa.extBut D.i1z) (t1.extBut hsa.extBut D.l1z) ex fun hb b1 hsb => wpAny_pure (wpAny_pure ?_)))))
    refine wpAny_bind (wpAny_bind (wpAny_holding (wpAny_bind (RZ.nextOf_tuple_item ((a2.extBut hsa.extBut D.i2z).extBut hsb.extBut D.i12.symm) ((t2.extBut hsa.extBut D.l2z).extBut hsb.extBut D.l2i1) ey fun hc c2 hsc => wpAny_pure (wpAny_pure ?_)))))
    refine wpAny_pure ?_
    show wpAny _ _ (newTuple [x, y] >>= _) _ _ _
    refine wpAny_bind (wpAny_newTuple ?_)
    have size3 : hc.objs.size = s.heap.objs.size := (hsc.1.trans hsb.1).trans hsa.1
    have stays : ∀ b o, b ≠ z → b ≠ i1 → b ≠ i2 → s.heap.get? b = some o → hc.get? b = some o := fun b o n1 n2 n3 e => hsc.extBut b o n3 (hsb.extBut b o n2 (hsa.extBut b o n1 e))
    have pz : IsZipHeld hc z TI TO T true := hsc.extBut z _ D.i2z.symm (hsb.extBut z _ D.i1z.symm hza)
    refine wpAny_pure ⟨_, rfl, ?_⟩
    have fresh : IsPair (hc.push { cls := .type "tuple", data := .seq #[x, y] }) hc.objs.size x y := Heap.get?_push_size _ rfl
    have one : (hc.push { cls := .type "tuple", data := .seq #[x, y] }).objs.size = hc.objs.size + 1 := Heap.size_push ..
    show Q (some (.ref hc.objs.size)) _
    rw [size3] at fresh one ⊢
    exact q _ (Heap.get?_push_of_some _ pz) ((b1.extBut hsc.extBut D.i12).at fun o e => Heap.get?_push_of_some _ e) (c2.at fun o e => Heap.get?_push_of_some _ e) fresh one fun b o n1 n2 n3 e => Heap.get?_push_of_some _ (stays b o n1 n2 n3 e)
  unfold pyNext
  refine wpAny_bind (wpAny_attempt (wpAny_callSpecial?_slot (name := Str.ofString "__next__") isZip F.slot_zip_next (wpAny_call_entry F.slot_zip_next isZip F.entry_zip_next ?_ (F.args_zip_next_1 _))))
  exact wpAny_mono (body _ _) (fun fin s' ⟨v, e, h⟩ => ⟨v, e, wpAny_pure h⟩) fun _ _ h => h
theorem zt_end {k1 : Nat} {Q : Option Value → Shared → Prop} (hh : A.handled = none) (D : ZipApart z TI TO i1 i2 l1 l2) (hz : IsZipHeld s.heap z TI TO T f) (hT : s.heap.get? T = some oT) (hTI : IsPair s.heap TI (.ref i1) (.ref i2))
    (a1 : s.heap.IsTupleIter i1 l1 k1) (t1 : s.heap.IsTuple l1 xs) (ex : xs[k1]? = none)
    (q : ∀ h', (∀ b o, b ≠ z → b ≠ i1 → b ≠ i2 → s.heap.get? b = some o → h'.get? b = some o) → Q none { s with heap := h' }) : wpAny (model prog w) A (pyNext (.ref z)) Q E s := by
  have isZip : s.TypeIs (.ref z) "zip" := ⟨_, hz, rfl⟩
  unfold pyNext
  refine wpAny_bind (wpAny_attempt (wpAny_callSpecial?_slot (name := Str.ofString "__next__") isZip F.slot_zip_next (wpAny_call_entry F.slot_zip_next isZip F.entry_zip_next ?_ (F.args_zip_next_1 _))))
  show wpAny _ _ (field (.ref z) 2 >>= _) _ _ s
  refine wpAny_bind (wpAny_field (i := 2) hz rfl rfl ?_)
  show wpAny _ _ (field (.ref z) 3 >>= _) _ _ s
  refine wpAny_bind (wpAny_field (i := 3) hz rfl rfl (wpAny_bind (wpAny_seqItems hTI rfl ?_)))
  refine wpAny_bind (wpAny_tupleHeld_zip hz hT fun ha hza hsa => ?_)
  rw [if_neg Bool.false_ne_true]
  refine wpAny_bind ?_
  rw [← Array.forIn_toList]
  simp only [List.forIn_nil, List.forIn_cons]
  refine wpAny_bind (wpAny_bind (wpAny_holding (wpAny_bind (RZ.nextOf_tuple_end (s := { s with heap := ha }) hh (a1.extBut hsa.extBut D.i1z) (t1.extBut hsa.extBut D.l1z) ex fun hb e hsb he => ?_))))
  obtain ⟨o, ho, hc⟩ := he
  refine wpAny_bind (wpAny_isInstance (T := "StopIteration") (b := true) ⟨o, ho, hc⟩ isSubtype_stop ?_)
  exact wpAny_pure (q hb fun b o n1 n2 _ e => hsb b o n2 (hsa.extBut b o n1 e))
end
/-! ### a zip as a source of pairs for a list S that is being made -/
structure PSrc (prog : Program) (w : World) (z : Addr) (wr : List Addr) (n : Nat) (pr : Nat → Value × Value) (St : Nat → Addr → Heap → Prop) : Prop where
  type : ∀ i S (s : Shared), St i S s.heap → s.TypeIs (.ref z) "zip"
  self : ∀ (A : Around) (E : Value → Shared → Prop) i S (s : Shared) (Q : Value → Shared → Prop), St i S s.heap → Q (.ref z) s → wpAny (model prog w) A (pyIter (.ref z)) Q E s
  keep : ∀ i S h h', St i S h → (∀ b o, b ≠ S → h.get? b = some o → h'.get? b = some o) → St i S h'
  item : ∀ (A : Around) (E : Value → Shared → Prop) i S (s : Shared) (Q : Option Value → Shared → Prop), i < n → S < s.heap.objs.size → St i S s.heap →
    (∀ h', St (i + 1) S h' → h'.get? s.heap.objs.size = some { cls := .type "tuple", data := .seq #[(pr i).1, (pr i).2] } → h'.objs.size = s.heap.objs.size + 1 → (∀ b o, b ∉ wr → s.heap.get? b = some o → h'.get? b = some o) → Q (some (.ref s.heap.objs.size)) { s with heap := h' }) →
    wpAny (model prog w) A (pyNext (.ref z)) Q E s
  done : ∀ (A : Around) (E : Value → Shared → Prop) S (s : Shared) (Q : Option Value → Shared → Prop), A.handled = none → St n S s.heap → (∀ h', (∀ b o, b ∉ wr → s.heap.get? b = some o → h'.get? b = some o) → Q none { s with heap := h' }) →
    wpAny (model prog w) A (pyNext (.ref z)) Q E s
/-- the pairs that are out -/
structure Outs (pr : Nat → Value × Value) (lo : Addr) (h : Heap) (as : List Addr) : Prop where
  rise : as.Pairwise (· < ·)
  above : ∀ a ∈ as, lo ≤ a
  pairs : ∀ (j : Nat) (a : Addr), as[j]? = some a → h.get? a = some { cls := .type "tuple", data := .seq #[(pr j).1, (pr j).2] }
section
variable {prog : Program} {w : World} {A : Around} {E : Value → Shared → Prop} {s : Shared} {R : Result → Shared → Prop} {z : Addr} {wr : List Addr} {n : Nat} {pr : Nat → Value × Value} {St : Nat → Addr → Heap → Prop}
theorem Outs.lt {lo : Addr} {h : Heap} {as : List Addr} (g : Outs pr lo h as) {a : Addr} (ha : a ∈ as) : a < h.objs.size := by
  obtain ⟨j, hj⟩ := List.mem_iff_getElem?.mp ha
  exact Heap.lt_size (g.pairs j a hj)
theorem zip_loop (W : PSrc prog w z wr n pr St) {S lo : Addr} (hh : A.handled = none) (wlo : ∀ b ∈ wr, b < lo) (Slo : S < lo) (Sw : S ∉ wr) (hn : n ≤ sizeLine) (res : Value) {h0 : Heap}
    (fin : ∀ h' tk acc c as, (∀ b o, b ≠ S → b ∉ wr → h0.get? b = some o → h'.get? b = some o) → h'.get? S = some { cls := .type "list", dict := none, data := .seq acc c, slots := #[] } → as.length = n → Outs pr lo h' as → acc.toList = as.map Value.ref →
      R (.ok (.ret res)) { s with heap := h', toks := tk }) :
    ∀ (m i : Nat) (h : Heap) (tk c : Nat) (acc : Array Value) (as : List Addr), n - i = m → i ≤ n → St i S h → (∀ b o, b ≠ S → b ∉ wr → h0.get? b = some o → h.get? b = some o) → h.get? S = some { cls := .type "list", dict := none, data := .seq acc c, slots := #[] } →
      acc.toList = as.map Value.ref → as.length = i → Outs pr lo h as → lo ≤ h.objs.size → codeAny (model prog w) A (.builtin "list.extend.loop" ⟨[.ref S, .ref z, res], []⟩) R { s with heap := h, toks := tk } := by
  intro m
  induction m with
  | zero =>
    intro i h tk c acc as e1 e2 st kp hS ha hl g hlo
    have ein : i = n := by omega
    subst ein
    refine codeAny_builtin PySem.F.entry_extend_loop ?_
    rw [Around.under_plainId PySem.F.plain_extend_loop _]
    show wpAny _ A.in1 (pyNext (.ref z) >>= _) _ _ _
    refine wpAny_bind (W.done A.in1 _ S { s with heap := h, toks := tk } _ hh st fun h' k => wpAny_pure ?_)
    exact fin h' tk acc c as (fun b o n1 n2 e => k b o n2 (kp b o n1 n2 e)) (k S _ Sw hS) hl ⟨g.rise, g.above, fun j a hj => k a _ (fun q => absurd (wlo a q) (Nat.not_lt.mpr (g.above a (List.mem_of_getElem? hj)))) (g.pairs j a hj)⟩ ha
  | succ m ih =>
    intro i h tk c acc as e1 e2 st kp hS ha hl g hlo
    have lt : i < n := by omega
    have sz : acc.size = i := by rw [← Array.length_toList, ha, List.length_map, hl]
    refine codeAny_builtin PySem.F.entry_extend_loop ?_
    rw [Around.under_plainId PySem.F.plain_extend_loop _]
    show wpAny _ A.in1 (pyNext (.ref z) >>= _) _ _ _
    have Slt : S < h.objs.size := Heap.lt_size hS
    refine wpAny_bind (W.item A.in1 _ i S { s with heap := h, toks := tk } _ lt Slt st fun h' st' tup one k => ?_)
    have hS' : h'.get? S = some { cls := .type "list", dict := none, data := .seq acc c, slots := #[] } := k S _ Sw hS
    have tup' : h'.get? h.objs.size = some { cls := .type "tuple", data := .seq #[(pr i).1, (pr i).2] } := tup
    have one' : h'.objs.size = h.objs.size + 1 := one
    have nS : h.objs.size ≠ S := Nat.ne_of_gt Slt
    have off : ∀ b o, b ≠ S → h'.get? b = some o → (h'.update S (Obj.mapSeq (·.push (Value.ref h.objs.size)))).get? b = some o := fun b o nb e => (Heap.get?_update_other _ _ (Ne.symm nb)).trans e
    show wpAny _ A.in1 (updateSeq S (·.push (Value.ref h.objs.size)) >>= _) _ _ _
    refine wpAny_bind ?_
    refine wpAny_updateSeq hS' rfl (wpAny_pure ⟨plainId_quiet PySem.F.plain_extend_loop _, ?_⟩) (by rw [sz]; omega) (by show (acc.push (Value.ref h.objs.size)).size ≤ sizeLine + 1; rw [Array.size_push, sz]; omega)
    refine ih (i + 1) _ tk _ (acc.push (Value.ref h.objs.size)) (as ++ [h.objs.size]) (by omega) lt (W.keep _ _ _ _ st' off) (fun b o n1 n2 e => off b o n1 (k b o n2 (kp b o n1 n2 e))) (Heap.get?_update_self _ hS' rfl)
      (by rw [Array.toList_push, ha, List.map_append]; rfl) (by rw [List.length_append, hl]; rfl) ⟨?_, ?_, ?_⟩ ?_
    · refine List.pairwise_append.mpr ⟨g.rise, List.pairwise_singleton _ _, ?_⟩
      intro a q b q'
      obtain rfl := List.mem_singleton.mp q'
      exact g.lt q
    · intro a q
      rcases List.mem_append.mp q with q | q
      · exact g.above a q
      · obtain rfl := List.mem_singleton.mp q
        exact hlo
    · intro j b hj
      by_cases jl : j < as.length
      · rw [List.getElem?_append_left jl] at hj
        have ab := g.above b (List.mem_of_getElem? hj)
        exact off b _ (Nat.ne_of_gt (Nat.lt_of_lt_of_le Slo ab)) (k b _ (fun q => absurd (wlo b q) (Nat.not_lt.mpr ab)) (g.pairs j b hj))
      · rw [List.getElem?_append_right (by omega)] at hj
        have j0 : j - as.length = 0 := by
          cases q : j - as.length with
          | zero => rfl
          | succ r => rw [q] at hj; simp at hj
        have ej : j = i := by omega
        rw [j0] at hj
        obtain rfl : h.objs.size = b := Option.some.inj hj
        rw [ej]
        exact off _ _ nS tup'
    · have e : (h'.update S (Obj.mapSeq (·.push (Value.ref h.objs.size)))).get? h.objs.size = _ := off _ _ nS tup'
      exact Nat.le_trans hlo (Nat.le_of_lt (Heap.lt_size e))
theorem nolen_zip : typeLookup (.type "zip") "__len__" = pure none := by rw [typeLookup_type, builtinLookup_eq_fast]; kernel_rfl
theorem nohint_zip : typeLookup (.type "zip") "__length_hint__" = pure none := by rw [typeLookup_type, builtinLookup_eq_fast]; kernel_rfl
/-- the list's end behind the call -/
def ListOut (n : Nat) (pr : Nat → Value × Value) (wr : List Addr) (lo : Addr) (s : Shared) (Q : Value → Shared → Prop) : Prop :=
  ∀ h' tk acc c as, (∀ b o, b ∉ wr → s.heap.get? b = some o → h'.get? b = some o) → h'.get? s.heap.objs.size = some { cls := .type "list", dict := none, data := .seq acc c, slots := #[] } → as.length = n → Outs pr lo h' as → acc.toList = as.map Value.ref →
    Q (.ref s.heap.objs.size) { s with heap := h', toks := tk }
theorem call_list_zip {Q : Value → Shared → Prop} (W : PSrc prog w z wr n pr St) (hh : A.handled = none) (st : ∀ h', (∀ b o, s.heap.get? b = some o → h'.get? b = some o) → St 0 s.heap.objs.size h') (wlt : ∀ b ∈ wr, b < s.heap.objs.size) (zlt : z < s.heap.objs.size) (hn : n ≤ sizeLine)
    (q : ListOut n pr wr (s.heap.objs.size + 1) s Q) : wpAny (model prog w) A (call (.type "list") [.ref z]) Q E s := by
  refine callType_codes (Q₁ := fun obj s' => obj = .ref s.heap.objs.size ∧ s' = { s with heap := s.heap.push { cls := .type "list", data := .seq #[] } }) PySem.F.called_list (PySem.F.typeCall_list_1 _) PySem.F.entry_list_init (code_list_new _ ⟨rfl, rfl⟩) ?_
  rintro obj s' ⟨rfl, rfl⟩
  have at0 : (s.heap.push { cls := .type "list", data := .seq #[] }).get? s.heap.objs.size = some { cls := .type "list", data := .seq #[] } := Heap.get?_push_size _ rfl
  refine ⟨⟨_, at0, rfl⟩, PySem.F.args_list_init_2 _ _, ?_⟩
  show wpAny _ A.in1.in1 (do let old ← Builtin.List.listItems (.ref s.heap.objs.size); Builtin.List.listUpdate (.ref s.heap.objs.size) (fun _ => #[]); letGo old.toList.reverse; Builtin.List.listExtendWith (.ref s.heap.objs.size) (.ref z) .none) _ _ _
  refine wpAny_bind ?_
  unfold Builtin.List.listItems
  refine wpAny_bind (wpAny_seqItems at0 rfl (wpAny_pure ?_))
  show wpAny _ A.in1.in1 (updateSeq s.heap.objs.size (fun _ => #[]) >>= fun _ => letGo (#[] : Array Value).toList.reverse >>= fun _ => Builtin.List.listExtendWith (.ref s.heap.objs.size) (.ref z) .none) _ _ _
  refine wpAny_bind (wpAny_updateSeq at0 rfl (wpAny_bind (wpAny_letGo ?_)))
  have at1 := Heap.get?_update_self (Obj.mapSeq (fun _ => (#[] : Array Value))) at0 rfl
  have k1 : ∀ b o, s.heap.get? b = some o → ((s.heap.push { cls := .type "list", data := .seq #[] }).update s.heap.objs.size (Obj.mapSeq (fun _ => (#[] : Array Value)))).get? b = some o :=
    fun b o e => (Heap.get?_update_other _ _ (Nat.ne_of_gt (Heap.lt_size e))).trans (Heap.get?_push_of_some _ e)
  have st1 := st _ k1
  have zz : (Value.type "zip" == Value.type "list") = false := by decide
  have zt : (Value.type "zip" == Value.type "tuple") = false := by decide
  have nsame : Builtin.List.listSameRef (.ref s.heap.objs.size) (.ref z) = false := by simp [Builtin.List.listSameRef, Nat.ne_of_gt zlt]
  unfold Builtin.List.listExtendWith
  refine wpAny_bind (wpAny_typeOf (W.type 0 _ { s with heap := (s.heap.push { cls := .type "list", data := .seq #[] }).update s.heap.objs.size (Obj.mapSeq (fun _ => (#[] : Array Value))) } st1) ?_)
  simp only [nsame, zz, zt, Bool.or_false, Bool.false_eq_true, if_false]
  refine wpAny_bind (W.self _ _ 0 _ _ _ st1 (wpAny_bind (wpAny_holding ?_)))
  have isz := W.type 0 _ { s with heap := (s.heap.push { cls := .type "list", data := .seq #[] }).update s.heap.objs.size (Obj.mapSeq (fun _ => (#[] : Array Value))) } st1
  unfold Builtin.List.listLengthHint
  refine wpAny_bind (wpAny_specialOf isz nolen_zip ?_)
  show wpAny _ A.in1.in1 (specialOf (Value.ref z) (Str.ofString "__length_hint__") >>= _) _ _ _
  refine wpAny_bind (wpAny_specialOf isz nohint_zip (wpAny_pure ?_))
  show wpAny _ A.in1.in1 (rule "list.extend.makes-room" >>= fun _ => Builtin.List.listTouch (.ref s.heap.objs.size) >>= fun _ => again (.builtin "list.extend.loop" ⟨[.ref s.heap.objs.size, .ref z, .none], []⟩)) _ _ _
  refine wpAny_bind (wpAny_rule (wpAny_bind ?_))
  show wpAny _ A.in1.in1 (updateSeq s.heap.objs.size (·.push .none) >>= fun _ => updateSeq s.heap.objs.size (·.pop)) _ _ _
  refine wpAny_bind (wpAny_updateSeq at1 rfl ?_)
  have at2 := Heap.get?_update_self (Obj.mapSeq (·.push Value.none)) at1 rfl
  refine wpAny_updateSeq (hz := by seq_fits) at2 rfl ?_
  have at3 := Heap.get?_update_self (Obj.mapSeq (·.pop)) at2 rfl
  have k3 : ∀ b o, s.heap.get? b = some o → ((((s.heap.push { cls := .type "list", data := .seq #[] }).update s.heap.objs.size (Obj.mapSeq (fun _ => (#[] : Array Value)))).update s.heap.objs.size (Obj.mapSeq (·.push Value.none))).update s.heap.objs.size (Obj.mapSeq (·.pop))).get? b = some o := by
    intro b o e
    have nb := Nat.ne_of_gt (Heap.lt_size e)
    exact (Heap.get?_update_other _ _ nb).trans ((Heap.get?_update_other _ _ nb).trans (k1 b o e))
  have big : s.heap.objs.size + 1 ≤ ((((s.heap.push { cls := .type "list", data := .seq #[] }).update s.heap.objs.size (Obj.mapSeq (fun _ => (#[] : Array Value)))).update s.heap.objs.size (Obj.mapSeq (·.push Value.none))).update s.heap.objs.size (Obj.mapSeq (·.pop))).objs.size := Heap.lt_size at3
  refine wpAny_pure ⟨plainId_quiet F.plain_extend_loop _, ?_⟩
  refine zip_loop (s := s) (A := A.in1) W (S := s.heap.objs.size) (lo := s.heap.objs.size + 1) (h0 := s.heap) hh (fun b q => Nat.lt_succ_of_lt (wlt b q)) (Nat.lt_succ_self _) (fun q => absurd (wlt _ q) (Nat.lt_irrefl _)) hn .none ?_ n 0 _ s.toks _ #[] [] rfl (Nat.zero_le _) (st _ k3) (fun b o _ _ e => k3 b o e) at3 rfl rfl ⟨List.Pairwise.nil, fun _ q => (nomatch q), fun j a q => by simp at q⟩ big
  intro h' tk acc c as kp hS hl g ha
  exact ⟨rfl, q h' tk acc c as (fun b o n2 e => kp b o (Nat.ne_of_lt (Heap.lt_size e)) n2 e) hS hl g ha⟩
end

theorem psrc_lists {prog : Program} {w : World} {z TI TO i1 i2 l1 l2 : Addr} (D : ZipApart z TI TO i1 i2 l1 l2) (xs ys : Array Value) (hn : xs.size = ys.size) : PSrc prog w z [z, TO, i1, i2] xs.size (fun i => (xs.getD i .none, ys.getD i .none))
    (fun i S h => IsPair h TI (.ref i1) (.ref i2) ∧ h.IsListIter i1 l1 i ∧ h.IsListIter i2 l2 i ∧ h.IsList l1 xs ∧ h.IsList l2 ys ∧ (S ≠ z ∧ S ≠ TI ∧ S ≠ TO ∧ S ≠ i1 ∧ S ≠ i2 ∧ S ≠ l1 ∧ S ≠ l2) ∧
      ((IsZip h z TI TO .none ∧ ∃ a b, IsPair h TO a b) ∨ ∃ T f oT, IsZipHeld h z TI TO T f ∧ h.get? T = some oT ∧ T ≠ z ∧ T ≠ i1 ∧ T ≠ i2 ∧ T ≠ S)) where
  type := by
    rintro i S s ⟨_, _, _, _, _, _, ⟨hz, _⟩ | ⟨T, f, oT, hz, _⟩⟩
    · exact ⟨_, hz, rfl⟩
    · exact ⟨_, hz, rfl⟩
  self := by
    rintro A E i S s Q ⟨_, _, _, _, _, _, ⟨hz, _⟩ | ⟨T, f, oT, hz, _⟩⟩ q
    · exact wpAny_pyIter_zip hz q
    · have isz : s.TypeIs (.ref z) "zip" := ⟨_, hz, rfl⟩
      exact wpAny_pyIter_slot isz F.slot_zip_iter (wpAny_call_entry F.slot_zip_iter isz F.entry_zip_iter (wpAny_pure ⟨_, rfl, "zip", _, isz, F.slot_zip_next.lookup, q⟩) (F.args_zip_iter_1 _))
  keep := by
    rintro i S h h' ⟨p, a1, a2, t1, t2, ⟨n1, n2, n3, n4, n5, n6, n7⟩, hz⟩ k
    refine ⟨k _ _ n2.symm p, a1.at fun o e => k _ o n4.symm e, a2.at fun o e => k _ o n5.symm e, t1.at fun o e => k _ o n6.symm e, t2.at fun o e => k _ o n7.symm e, ⟨n1, n2, n3, n4, n5, n6, n7⟩, ?_⟩
    rcases hz with ⟨hz, a, b, ho⟩ | ⟨T, f, oT, hz, hT, r1, r2, r3, r4⟩
    · exact .inl ⟨k _ _ n1.symm hz, a, b, k _ _ n3.symm ho⟩
    · exact .inr ⟨T, f, oT, k _ _ n1.symm hz, k _ _ r4 hT, r1, r2, r3, r4⟩
  item := by
    rintro A E i S s Q lt Slt ⟨p, a1, a2, t1, t2, ns, hz⟩ q
    have ex : xs[i]? = some (xs.getD i .none) := by simp [Array.getD, lt]
    have ey : ys[i]? = some (ys.getD i .none) := by
      have : i < ys.size := by omega
      simp [Array.getD, this]
    have new : ∀ {b o}, s.heap.get? b = some o → s.heap.objs.size ≠ b := fun e => Nat.ne_of_gt (Heap.lt_size e)
    have ni1 : s.heap.objs.size ≠ i1 := let ⟨_, e, _⟩ := a1; new e
    have ni2 : s.heap.objs.size ≠ i2 := let ⟨_, e, _⟩ := a2; new e
    rcases hz with ⟨hz, a, b, ho⟩ | ⟨T, f, oT, hz, hT, r1, r2, r3, r4⟩
    · refine wpAny_pyNext_zip_item D hz p ho a1 a2 t1 t2 ex ey fun h' c1 c2 c3 c4 c5 c6 k => ?_
      refine q h' ⟨k _ _ D.TIz D.TITO D.TIi1 D.TIi2 p, c3, c4, t1.at fun o e => k _ o D.l1z D.l1TO D.l1i1 D.l1i2 e, t2.at fun o e => k _ o D.l2z D.l2TO D.l2i1 D.l2i2 e, ns, .inr ⟨s.heap.objs.size, false, _, c1, c5, new hz, ni1, ni2, Nat.ne_of_gt Slt⟩⟩ c5 c6 fun b o nb e => ?_
      simp only [List.mem_cons, List.not_mem_nil, or_false, not_or] at nb
      exact k b o nb.1 nb.2.1 nb.2.2.1 nb.2.2.2 e
    · refine wpAny_pyNext_zip_item_held D hz hT p a1 a2 t1 t2 ex ey fun h' c1 c3 c4 c5 c6 k => ?_
      refine q h' ⟨k _ _ D.TIz D.TIi1 D.TIi2 p, c3, c4, t1.at fun o e => k _ o D.l1z D.l1i1 D.l1i2 e, t2.at fun o e => k _ o D.l2z D.l2i1 D.l2i2 e, ns, .inr ⟨T, true, oT, c1, k _ _ r1 r2 r3 hT, r1, r2, r3, r4⟩⟩ c5 c6 fun b o nb e => ?_
      simp only [List.mem_cons, List.not_mem_nil, or_false, not_or] at nb
      exact k b o nb.1 nb.2.2.1 nb.2.2.2 e
  done := by
    rintro A E S s Q hh ⟨p, a1, a2, t1, t2, ns, hz⟩ q
    have ex : xs[xs.size]? = none := by simp
    rcases hz with ⟨hz, a, b, ho⟩ | ⟨T, f, oT, hz, hT, r1, r2, r3, r4⟩
    · refine wpAny_pyNext_zip_end hh D hz p ho a1 a2 t1 t2 (.inl ex) fun h' k => q h' fun b o nb e => ?_
      simp only [List.mem_cons, List.not_mem_nil, or_false, not_or] at nb
      exact k b o nb.1 nb.2.1 nb.2.2.1 nb.2.2.2 e
    · refine wpAny_pyNext_zip_end_held hh D hz hT p a1 a2 t1 t2 (.inl ex) fun h' k => q h' fun b o nb e => ?_
      simp only [List.mem_cons, List.not_mem_nil, or_false, not_or] at nb
      exact k b o nb.1 nb.2.2.1 nb.2.2.2 e

theorem psrc_tuples {prog : Program} {w : World} {z TI TO i1 i2 l1 l2 : Addr} (D : ZipApart z TI TO i1 i2 l1 l2) (xs ys : Array Value) (hn : xs.size = ys.size) : PSrc prog w z [z, TO, i1, i2] xs.size (fun i => (xs.getD i .none, ys.getD i .none))
    (fun i S h => IsPair h TI (.ref i1) (.ref i2) ∧ h.IsTupleIter i1 l1 i ∧ h.IsTupleIter i2 l2 i ∧ h.IsTuple l1 xs ∧ h.IsTuple l2 ys ∧ (S ≠ z ∧ S ≠ TI ∧ S ≠ TO ∧ S ≠ i1 ∧ S ≠ i2 ∧ S ≠ l1 ∧ S ≠ l2) ∧
      ((IsZip h z TI TO .none ∧ ∃ a b, IsPair h TO a b) ∨ ∃ T f oT, IsZipHeld h z TI TO T f ∧ h.get? T = some oT ∧ T ≠ z ∧ T ≠ i1 ∧ T ≠ i2 ∧ T ≠ S)) where
  type := by
    rintro i S s ⟨_, _, _, _, _, _, ⟨hz, _⟩ | ⟨T, f, oT, hz, _⟩⟩
    · exact ⟨_, hz, rfl⟩
    · exact ⟨_, hz, rfl⟩
  self := by
    rintro A E i S s Q ⟨_, _, _, _, _, _, ⟨hz, _⟩ | ⟨T, f, oT, hz, _⟩⟩ q
    · exact wpAny_pyIter_zip hz q
    · have isz : s.TypeIs (.ref z) "zip" := ⟨_, hz, rfl⟩
      exact wpAny_pyIter_slot isz F.slot_zip_iter (wpAny_call_entry F.slot_zip_iter isz F.entry_zip_iter (wpAny_pure ⟨_, rfl, "zip", _, isz, F.slot_zip_next.lookup, q⟩) (F.args_zip_iter_1 _))
  keep := by
    rintro i S h h' ⟨p, a1, a2, t1, t2, ⟨n1, n2, n3, n4, n5, n6, n7⟩, hz⟩ k
    refine ⟨k _ _ n2.symm p, a1.at fun o e => k _ o n4.symm e, a2.at fun o e => k _ o n5.symm e, t1.at fun o e => k _ o n6.symm e, t2.at fun o e => k _ o n7.symm e, ⟨n1, n2, n3, n4, n5, n6, n7⟩, ?_⟩
    rcases hz with ⟨hz, a, b, ho⟩ | ⟨T, f, oT, hz, hT, r1, r2, r3, r4⟩
    · exact .inl ⟨k _ _ n1.symm hz, a, b, k _ _ n3.symm ho⟩
    · exact .inr ⟨T, f, oT, k _ _ n1.symm hz, k _ _ r4 hT, r1, r2, r3, r4⟩
  item := by
    rintro A E i S s Q lt Slt ⟨p, a1, a2, t1, t2, ns, hz⟩ q
    have ex : xs[i]? = some (xs.getD i .none) := by simp [Array.getD, lt]
    have ey : ys[i]? = some (ys.getD i .none) := by
      have : i < ys.size := by omega
      simp [Array.getD, this]
    have new : ∀ {b o}, s.heap.get? b = some o → s.heap.objs.size ≠ b := fun e => Nat.ne_of_gt (Heap.lt_size e)
    have ni1 : s.heap.objs.size ≠ i1 := let ⟨_, e, _⟩ := a1; new e
    have ni2 : s.heap.objs.size ≠ i2 := let ⟨_, e, _⟩ := a2; new e
    rcases hz with ⟨hz, a, b, ho⟩ | ⟨T, f, oT, hz, hT, r1, r2, r3, r4⟩
    · refine RZ.pyNext_zipT_item D hz p ho a1 a2 t1 t2 ex ey fun h' c1 c2 c3 c4 c5 c6 k => ?_
      refine q h' ⟨k _ _ D.TIz D.TITO D.TIi1 D.TIi2 p, c3, c4, t1.at fun o e => k _ o D.l1z D.l1TO D.l1i1 D.l1i2 e, t2.at fun o e => k _ o D.l2z D.l2TO D.l2i1 D.l2i2 e, ns, .inr ⟨s.heap.objs.size, false, _, c1, c5, new hz, ni1, ni2, Nat.ne_of_gt Slt⟩⟩ c5 c6 fun b o nb e => ?_
      simp only [List.mem_cons, List.not_mem_nil, or_false, not_or] at nb
      exact k b o nb.1 nb.2.1 nb.2.2.1 nb.2.2.2 e
    · refine zt_item D hz hT p a1 a2 t1 t2 ex ey fun h' c1 c3 c4 c5 c6 k => ?_
      refine q h' ⟨k _ _ D.TIz D.TIi1 D.TIi2 p, c3, c4, t1.at fun o e => k _ o D.l1z D.l1i1 D.l1i2 e, t2.at fun o e => k _ o D.l2z D.l2i1 D.l2i2 e, ns, .inr ⟨T, true, oT, c1, k _ _ r1 r2 r3 hT, r1, r2, r3, r4⟩⟩ c5 c6 fun b o nb e => ?_
      simp only [List.mem_cons, List.not_mem_nil, or_false, not_or] at nb
      exact k b o nb.1 nb.2.2.1 nb.2.2.2 e
  done := by
    rintro A E S s Q hh ⟨p, a1, a2, t1, t2, ns, hz⟩ q
    have ex : xs[xs.size]? = none := by simp
    rcases hz with ⟨hz, a, b, ho⟩ | ⟨T, f, oT, hz, hT, r1, r2, r3, r4⟩
    · refine RZ.pyNext_zipT_end hh D hz p ho a1 a2 t1 t2 (.inl ex) fun h' k => q h' fun b o nb e => ?_
      simp only [List.mem_cons, List.not_mem_nil, or_false, not_or] at nb
      exact k b o nb.1 nb.2.1 nb.2.2.1 nb.2.2.2 e
    · refine zt_end hh D hz hT p a1 t1 ex fun h' k => q h' fun b o nb e => ?_
      simp only [List.mem_cons, List.not_mem_nil, or_false, not_or] at nb
      exact k b o nb.1 nb.2.2.1 nb.2.2.2 e

/-! ### the rule -/
def putP : Hp → List Addr → List (V × V) → Hp
  | H, a :: as, p :: ps => putP (upd H a (.tup [p.1, p.2])) as ps
  | H, _, _ => H
theorem putP_off {b : Addr} : ∀ (as : List Addr) (ps : List (V × V)) (H : Hp), b ∉ as → putP H as ps b = H b
  | [], _, _, _ => rfl
  | _ :: _, [], _, _ => rfl
  | a :: as, p :: ps, H, h => by
    have h1 : b ∉ as := fun q => h (List.mem_cons_of_mem _ q)
    have h2 : b ≠ a := fun q => h (by rw [q]; exact List.mem_cons_self)
    show putP (upd H a (.tup [p.1, p.2])) as ps b = H b
    rw [putP_off as ps _ h1, upd_ne h2]
theorem putP_at : ∀ (as : List Addr) (ps : List (V × V)) (H : Hp), as.length = ps.length → as.Nodup → Paired (fun (t : Addr) (p : V × V) => putP H as ps t = some (.tup [p.1, p.2])) as ps
  | [], [], _, _, _ => .nil
  | [], _ :: _, _, h, _ => by cases h
  | _ :: _, [], _, h, _ => by cases h
  | a :: as, p :: ps, H, h, hn => by
    obtain ⟨n1, n2⟩ := List.nodup_cons.mp hn
    refine .cons ?_ (putP_at as ps (upd H a (.tup [p.1, p.2])) (Nat.succ.inj h) n2)
    show putP (upd H a (.tup [p.1, p.2])) as ps a = some (.tup [p.1, p.2])
    rw [putP_off as ps _ n1, upd_same]
/-- behind list(zip(..)): a new list of new pairs -/
def ZipEnd (H : Hp) (Q : VK) (xs ys : List V) : Prop := ∀ (H' : Hp) (l : Addr) (ts : List Addr), Same H H' → H l = none → H' l = some (.lst (ts.map V.ref)) → Paired (fun (t : Addr) (p : V × V) => H' t = some (.tup [p.1, p.2])) ts (xs.zip ys) → Q (.ref l) H'
section
variable {X : Cx} {pins : List (Addr × Obj)} {σ : L2.St} {H : Hp} {s : Shared} {xs ys : List V} {us vs : List Value}
theorem na_not {L : Nat} (h : L + 1 ≤ L) : False := by omega
theorem na_le {n L t : Nat} (h : n ≤ L) (g : L + 1 ≤ t) : n ≤ t := by omega
theorem na_ne {b n L : Nat} (h : b < n) (g : n ≤ L) : b ≠ L := by omega
theorem na_out {b n L : Nat} (h : b < n) (g : n ≤ L) (q : L + 1 ≤ b) : False := by omega
theorem na_ns {n a b : Nat} (la : a < n) (lb : b < n) : n + 5 ≠ n + 4 ∧ n + 5 ≠ n + 2 ∧ n + 5 ≠ n + 3 ∧ n + 5 ≠ n ∧ n + 5 ≠ n + 1 ∧ n + 5 ≠ a ∧ n + 5 ≠ b := by omega
theorem na_wr {n b : Nat} (h : b = n + 4 ∨ b = n + 3 ∨ b = n ∨ b = n + 1) : b < n + 5 := by omega
theorem na_old {n b : Nat} (h : b < n) (q : b = n + 4 ∨ b = n + 3 ∨ b = n ∨ b = n + 1) : False := by omega
theorem getD_of {us : List Value} {j : Nat} {u : Value} (h : us[j]? = some u) : us.toArray.getD j .none = u := by
  obtain ⟨h1, h2⟩ := List.getElem?_eq_some_iff.mp h
  simp [Array.getD, h1, h2]
theorem zip_laid (I : Inv X pins σ H s) (rx : Vals xs us) (ry : Vals ys vs) {h2 : Heap} {tk c L : Nat} {acc : Array Value} {as : List Addr} (k : ∀ b o, s.heap.get? b = some o → h2.get? b = some o) (hL : s.heap.objs.size ≤ L)
    (hS : h2.get? L = some { cls := .type "list", dict := none, data := .seq acc c, slots := #[] }) (hn : as.length = (xs.zip ys).length) (hz : as.length ≤ sizeLine) (g : Outs (fun i => (us.toArray.getD i .none, vs.toArray.getD i .none)) (L + 1) h2 as) (ha : acc.toList = as.map Value.ref) :
    ∃ H' : Hp, Same H H' ∧ H L = none ∧ H' L = some (.lst (as.map V.ref)) ∧ Paired (fun (t : Addr) (p : V × V) => H' t = some (.tup [p.1, p.2])) as (xs.zip ys) ∧ Inv X pins σ H' { s with heap := h2, toks := tk } := by
  have nL : L ∉ as := fun q => na_not (g.above L q)
  have nd : as.Nodup := List.Pairwise.imp (fun {a b} (h : a < b) => Nat.ne_of_lt h) g.rise
  have newT : ∀ t ∈ as, H t = none := fun t q => I.hok.fresh (na_le hL (g.above t q))
  have newL : H L = none := I.hok.fresh hL
  have tups := putP_at as (xs.zip ys) (upd H L (.lst (as.map V.ref))) hn nd
  have off : ∀ b, b ∉ as → b ≠ L → putP (upd H L (.lst (as.map V.ref))) as (xs.zip ys) b = H b := fun b q1 q2 => by rw [putP_off as _ _ q1, upd_ne q2]
  have low : ∀ b o, s.heap.get? b = some o → b ∉ as ∧ b ≠ L := fun b o e => by
    have lt := Heap.lt_size e
    exact ⟨fun q => na_out lt hL (g.above b q), na_ne lt hL⟩
  have kp : Same H (putP (upd H L (.lst (as.map V.ref))) as (xs.zip ys)) := fun b u e => by
    rw [off b (fun q => by rw [newT b q] at e; cases e) (fun q => by rw [q, newL] at e; cases e)]
    exact e
  have atL : putP (upd H L (.lst (as.map V.ref))) as (xs.zip ys) L = some (.lst (as.map V.ref)) := by rw [putP_off as _ _ nL, upd_same]
  refine ⟨_, kp, newL, atL, tups, ?_⟩
  have un : Un (frs X.stack) [] H (putP (upd H L (.lst (as.map V.ref))) as (xs.zip ys)) s.heap h2 := by
    refine ⟨fun b o e _ _ _ => k b o e, fun b o e _ _ _ => ⟨o.slots, k b o e⟩, fun b o e n _ => ?_, fun b o e _ => ⟨o, k b o e⟩, fun b zs e => kp b _ e, fun b o u e => kp b _ e, fun b ps e => ⟨#[], ?_⟩⟩
    · obtain ⟨q1, q2⟩ := low b o e
      rw [off b q1 q2]
      exact n
    · rw [kp b _ e]
      simp
  refine I.call' (ch := []) rfl un (fun b u e => ?_) I.bare fun b q => nomatch q
  by_cases hb : b ∈ as
  · obtain ⟨j, p, e1, e2, e3⟩ := LiI.paired_ix tups hb
    rw [e3] at e
    cases e
    obtain ⟨x1, y1⟩ := List.getElem?_zip_eq_some.mp e2
    obtain ⟨u, eu, ru⟩ := Vals.get rx x1
    obtain ⟨v, ev, rv⟩ := Vals.get ry y1
    have t := g.pairs j b e1
    rw [getD_of eu, getD_of ev] at t
    exact ⟨by show 2 ≤ sizeLine; decide, [u, v], .cons ru (.cons rv .nil), ⟨_, t, rfl, _, rfl⟩⟩
  · by_cases hb2 : b = L
    · rw [hb2] at e ⊢
      rw [atL] at e
      cases e
      refine ⟨by rw [List.length_map]; exact hz, acc.toList, c, by rw [ha]; exact LiI.vals_refs as, ?_⟩
      rw [Array.toArray_toList]
      exact hS
    · rw [off b hb hb2] at e
      exact (I.hok b u e).stay (fun d w _ q => k d w q) (fun d q => kp d _ q) fun d zs q => kp d _ q
def tListZip (K : PySem.W.Frag) (ta : TA) : TE := fun σ H Q => ta σ H fun vs H1 => ∃ (a b : Addr) (xs ys : List V), vs = [.ref a, .ref b] ∧ ((SqL K H1 a xs ∧ SqL K H1 b ys) ∨ (SqT K H1 a xs ∧ SqT K H1 b ys)) ∧ xs.length = ys.length ∧ ZipEnd H1 Q xs ys
theorem pe_listZip {e e2 : Expr} {ta : TA} {p p2 pos pos2 : Pos} (hg : Gl X "list") (hm : X.mg "list" = none) (hgz : Gl X "zip") (hmz : X.mg "zip" = none) (hc : X.calm = true) (hp : PA X [e, e2] ta)
    (hs : starEach [.Call (.Name "zip" p2) [e, e2] [] pos2] X.env = (false, eval (.Call (.Name "zip" p2) [e, e2] [] pos2) X.env) :: starEach [] X.env := by rfl) (hpl : (backTo pos (starEach [] X.env)).any (·.1) = false := by rfl)
    (hs2 : starEach [e, e2] X.env = (false, eval e X.env) :: starEach [e2] X.env := by rfl) (hpl2 : (backTo pos2 (starEach [e2] X.env)).any (·.1) = false := by rfl) :
    PE X (.Call (.Name "list" p) [.Call (.Name "zip" p2) [e, e2] [] pos2] [] pos) (tListZip X.K ta) := by
  refine ⟨fun pins s σ H Q I h => ?_⟩
  refine Call_ (ld_blt I hg hm (show bootBuiltins "list" = some (Value.type "list") by decide +kernel) (PyProof.Rows.callWith_type1 ?_ hs hpl))
  rw [hs]
  show wpAny _ _ (spliced ((false, eval (.Call (.Name "zip" p2) [e, e2] [] pos2) X.env) :: backTo pos (starEach [] X.env))) _ _ s
  refine Calls.spliced_cons ?_
  refine Call_ (ld_blt I hgz hmz PyProof.Rows.boot_zip (PyProof.Rows.callWith_type1 (thn (hp.run pos2 pins s σ H _ I h) fun us s1 ⟨vs, H1, I1, r1, q1⟩ => ?_) hs2 hpl2))
  obtain ⟨a, b, xs, ys, ex, hq, hl, q⟩ := q1
  subst ex
  cases r1 with
  | cons r rr =>
    cases rr with
    | cons r' rr =>
      cases rr
      cases r
      cases r'
      rcases hq with ⟨hx, hy⟩ | ⟨hx, hy⟩
      · obtain ⟨ia, rv, p1, z1⟩ := I1.list hx
        obtain ⟨ib, rw', p3, _⟩ := I1.list hy
        have eq : ia.toArray.size = ib.toArray.size := by simp only [List.size_toArray]; rw [← rv.length, ← rw'.length]; exact hl
        refine call_zip_2 p1.isList p3.isList fun h' hz hTI hTO h1 h2 hsz hk => Calls.spliced_nil ?_
        refine call_list_zip (s := { s1 with heap := h' }) (psrc_lists (PySem.W.ktu_apart s1.heap.objs.size a b p1.lt p3.lt) ia.toArray ib.toArray eq) (I1.ok.hd hc) ?_ ?_ ?_ ?_ ?_
        · intro h2' k
          have la := p1.lt
          have lb := p3.lt
          refine ⟨k _ _ hTI, h1.at fun o e => k _ o e, h2.at fun o e => k _ o e, p1.isList.at fun o e => k _ o (hk _ o e), p3.isList.at fun o e => k _ o (hk _ o e), ?_, .inl ⟨k _ _ hz, _, _, k _ _ hTO⟩⟩
          show h'.objs.size ≠ _ ∧ h'.objs.size ≠ _ ∧ h'.objs.size ≠ _ ∧ h'.objs.size ≠ _ ∧ h'.objs.size ≠ _ ∧ h'.objs.size ≠ _ ∧ h'.objs.size ≠ _
          rw [hsz]
          exact na_ns la lb
        · intro b' hb'
          show b' < h'.objs.size
          rw [hsz]
          simp only [List.mem_cons, List.not_mem_nil, or_false] at hb'
          exact na_wr hb'
        · show s1.heap.objs.size + 4 < h'.objs.size
          rw [hsz]
          exact Nat.lt_succ_self _
        · rw [List.size_toArray, ← rv.length]
          exact z1
        · intro h3 tk acc c as kp hS hlen g ha
          have kk : ∀ b' o, s1.heap.get? b' = some o → h3.get? b' = some o := fun b' o e => kp b' o (fun z => by
            have := Heap.lt_size e
            simp only [List.mem_cons, List.not_mem_nil, or_false] at z
            exact na_old this z) (hk b' o e)
          have lz : (xs.zip ys).length = xs.length := by rw [List.length_zip]; omega
          have la : as.length = xs.length := by rw [hlen, List.size_toArray, ← rv.length]
          obtain ⟨H', c1, c2, c3, c4, J⟩ := zip_laid (tk := tk) I1 rv rw' kk (show s1.heap.objs.size ≤ h'.objs.size by rw [hsz]; exact Nat.le_add_right _ _) hS (by omega) (by omega) g ha
          exact ⟨.ref h'.objs.size, H', J, rfl, q H' _ as c1 c2 c3 c4⟩
      · obtain ⟨ia, rv, p1, z1⟩ := I1.tuple hx
        obtain ⟨ib, rw', p3, _⟩ := I1.tuple hy
        have eq : ia.toArray.size = ib.toArray.size := by simp only [List.size_toArray]; rw [← rv.length, ← rw'.length]; exact hl
        refine RZ.call_zipT p1 p3 fun h' hz hTI hTO h1 h2 hsz hk => Calls.spliced_nil ?_
        refine call_list_zip (s := { s1 with heap := h' }) (psrc_tuples (PySem.W.ktu_apart s1.heap.objs.size a b p1.lt p3.lt) ia.toArray ib.toArray eq) (I1.ok.hd hc) ?_ ?_ ?_ ?_ ?_
        · intro h2' k
          have la := p1.lt
          have lb := p3.lt
          refine ⟨k _ _ hTI, h1.at fun o e => k _ o e, h2.at fun o e => k _ o e, Heap.IsTuple.at p1 fun o e => k _ o (hk _ o e), Heap.IsTuple.at p3 fun o e => k _ o (hk _ o e), ?_, .inl ⟨k _ _ hz, _, _, k _ _ hTO⟩⟩
          show h'.objs.size ≠ _ ∧ h'.objs.size ≠ _ ∧ h'.objs.size ≠ _ ∧ h'.objs.size ≠ _ ∧ h'.objs.size ≠ _ ∧ h'.objs.size ≠ _ ∧ h'.objs.size ≠ _
          rw [hsz]
          exact na_ns la lb
        · intro b' hb'
          show b' < h'.objs.size
          rw [hsz]
          simp only [List.mem_cons, List.not_mem_nil, or_false] at hb'
          exact na_wr hb'
        · show s1.heap.objs.size + 4 < h'.objs.size
          rw [hsz]
          exact Nat.lt_succ_self _
        · rw [List.size_toArray, ← rv.length]
          exact z1
        · intro h3 tk acc c as kp hS hlen g ha
          have kk : ∀ b' o, s1.heap.get? b' = some o → h3.get? b' = some o := fun b' o e => kp b' o (fun z => by
            have := Heap.lt_size e
            simp only [List.mem_cons, List.not_mem_nil, or_false] at z
            exact na_old this z) (hk b' o e)
          have lz : (xs.zip ys).length = xs.length := by rw [List.length_zip]; omega
          have la : as.length = xs.length := by rw [hlen, List.size_toArray, ← rv.length]
          obtain ⟨H', c1, c2, c3, c4, J⟩ := zip_laid (tk := tk) I1 rv rw' kk (show s1.heap.objs.size ≤ h'.objs.size by rw [hsz]; exact Nat.le_add_right _ _) hS (by omega) (by omega) g ha
          exact ⟨.ref h'.objs.size, H', J, rfl, q H' _ as c1 c2 c3 c4⟩
end
end L3

/-! dicts of kinds that are equal -/
namespace L3
open PySem PySem.Spec PyProof.Rows L2
section
variable {X : Cx} {pins : List (Addr × Obj)} {σ : L2.St} {H : Hp} {s : Shared}
theorem opR_or {f : Value → Value → Sem Value} {r r' : R2} (h : OpR X f r) (h' : OpR X f r') : OpR X f (fun x y H Q => r x y H Q ∨ r' x y H Q) := by
  intro pins s σ H x y v u Q I rx ry q
  rcases q with q | q
  · exact h pins s σ H x y v u Q I rx ry q
  · exact h' pins s σ H x y v u Q I rx ry q
theorem kv_hits (I : Inv X pins σ H s) {A : Around} (hu : A.units + 64 < cLine) {ls : List (Key × V)} {b2 : By} {vb : List (Key × Value)} (rb : KV ls vb) (k2 : ByAt H ls b2) (f2 : ∀ q ∈ b2, q.2.fit 60) :
    ∀ {ks : List (Key × V)} {b1 : By} {va : List (Key × Value)}, KV ks va → ByAt H ks b1 → (∀ q ∈ b1, q.2.fit 60 ∧ lk b2 q.1 = some q.2) → PySem.W.KeqHits A s vb va true
  | _, _, _, .nil, .nil, _ => .nil
  | (key, v) :: ks, (x, k) :: b1, (key', u) :: va, .cons ⟨e1, r1⟩ t1, .cons ⟨e2, g⟩ t2, h => by
    obtain ⟨fk, el⟩ := h _ List.mem_cons_self
    have e1' : key = key' := e1
    have e2' : key = .inr x := e2
    subst e1' e2'
    rcases k2.get x with ⟨_, z⟩ | ⟨v2, k', e3, e4, g'⟩
    · rw [z] at el
      cases el
    · rw [e4] at el
      cases el
      have rr : RelO (some v2) (valueAt vb (.inr x)) := by
        rw [← e3]
        exact rb.val (.inr x)
      obtain ⟨y, hy, ry⟩ := rr.some_of
      obtain ⟨as, ra⟩ := Dp.reads I _ v u g.dp r1
      obtain ⟨bs, rb'⟩ := Dp.reads I _ v2 y g'.dp ry
      obtain ⟨l1, l2⟩ := Kd.lay fk
      have eq := SeqAt.eqAt_reads _ _ A s u y as bs ra rb' l1 l1 (by have : min k.dat.depth k.dat.depth = k.dat.depth := Nat.min_self _; omega)
      rw [Kd.eqv, decide_eq_true rfl] at eq
      exact PySem.W.KeqHits.hit hy eq (kv_hits I hu rb k2 f2 t1 t2 fun q hq => h q (List.mem_cons_of_mem _ hq))
def rBy (r : Bool) : R2 := fun x y H Q => ∃ (a b : Addr) (ks ls : List (Key × V)) (b1 b2 : By), x = .ref a ∧ y = .ref b ∧ H a = some (.dK ks) ∧ H b = some (.dK ls) ∧ ByAt H ks b1 ∧ ByAt H ls b2 ∧ b1.length = b2.length ∧ (∀ q ∈ b1, q.2.fit 60 ∧ lk b2 q.1 = some q.2) ∧ (∀ q ∈ b2, q.2.fit 60) ∧ Q (.bl r) H
theorem op_eqBy (hu : X.A.units + 65 < cLine) : OpR X (compareOp .Eq) (rBy true) := by
  intro pins s σ H x y v u Q I rx ry ⟨a, b, ks, ls, b1, b2, ex, ey, ea, eb, k1, k2, hl, h1, h2, q⟩
  subst ex ey
  obtain rfl : v = Value.ref a := rx
  obtain rfl : u = Value.ref b := ry
  obtain ⟨_, ya, va, ra, da⟩ := (show ObjOk X.prog X.w H s.heap a (.dK ks) from I.hok a _ ea)
  obtain ⟨_, yb, vb, rb, db⟩ := (show ObjOk X.prog X.w H s.heap b (.dK ls) from I.hok b _ eb)
  have lv : va.length = vb.length := by rw [← ra.length, ← rb.length, Paired.length k1, Paired.length k2]; exact hl
  refine PySem.W.keq_eq (knd := mixKind X.prog X.w) (r := true) ya yb da db (by omega) (fun _ => kv_hits I (A := X.A.in1) (by show X.A.units + 1 + 64 < cLine; omega) rb k2 h2 ra k1 h1) ?_
  have e : (va.length == vb.length && true) = true := by simp [lv]
  rw [e]
  exact ⟨.bl true, H, I, rfl, q⟩
theorem op_neBy (hu : X.A.units + 65 < cLine) : OpR X (compareOp .NotEq) (rBy false) := by
  intro pins s σ H x y v u Q I rx ry ⟨a, b, ks, ls, b1, b2, ex, ey, ea, eb, k1, k2, hl, h1, h2, q⟩
  subst ex ey
  obtain rfl : v = Value.ref a := rx
  obtain rfl : u = Value.ref b := ry
  obtain ⟨_, ya, va, ra, da⟩ := (show ObjOk X.prog X.w H s.heap a (.dK ks) from I.hok a _ ea)
  obtain ⟨_, yb, vb, rb, db⟩ := (show ObjOk X.prog X.w H s.heap b (.dK ls) from I.hok b _ eb)
  have lv : va.length = vb.length := by rw [← ra.length, ← rb.length, Paired.length k1, Paired.length k2]; exact hl
  refine PySem.W.keq_ne (knd := mixKind X.prog X.w) (r := true) ya yb da db (by omega) (fun _ => kv_hits I (A := X.A.in1) (by show X.A.units + 1 + 64 < cLine; omega) rb k2 h2 ra k1 h1) ?_
  have e : (!(va.length == vb.length && true)) = false := by simp [lv]
  rw [e]
  exact ⟨.bl false, H, I, rfl, q⟩
end
/-- what is in order names each key once -/
theorem addV_nodup {fs : List Str} (x : Str) (h : fs.Nodup) : (addV fs x).Nodup := by
  unfold addV
  by_cases e : x ∈ fs
  · rw [if_pos e]
    exact h
  · rw [if_neg e]
    exact List.nodup_append.mpr ⟨h, by simp, fun a ha b hb => by rw [List.mem_singleton.mp hb]; intro z; rw [z] at ha; exact e ha⟩
theorem Kd.vs_nodup : ∀ (k : Kd) {fs : List Str}, fs.Nodup → (k.vs fs).Nodup
  | .var x, _, h => addV_nodup x h
  | .con _, _, h => h
  | .app a b, _, h => Kd.vs_nodup b (Kd.vs_nodup a h)
theorem vsL_nodup : ∀ (ks : List Kd) {fs : List Str}, fs.Nodup → (vsL ks fs).Nodup
  | [], _, h => h
  | k :: r, _, h => vsL_nodup r (k.vs_nodup h)
theorem lk_self : ∀ (b : By), (names b).Nodup → ∀ q ∈ b, lk b q.1 = some q.2
  | [], _, q, h => nomatch h
  | p :: r, hn, q, h => by
    obtain ⟨n1, n2⟩ := List.nodup_cons.mp (show (p.1 :: names r).Nodup from hn)
    rcases List.mem_cons.mp h with e | h
    · rw [e]
      exact lk_pos rfl
    · have ne : ¬ p.1 = q.1 := fun z => n1 (by rw [z]; exact List.mem_map.mpr ⟨q, h, rfl⟩)
      rw [lk_neg ne]
      exact lk_self r n2 q h
end L3

/-! how kinds are shown: no dict, not too long -/
namespace L3
open PySem L2
theorem shown_word {x : Str} (w : Wok x) : (PyData.str x).shown.length ≤ 82 := by
  have h := StrLaws.reprText_len x (fun c hc => by have := w.2.2 c hc; omega)
  have e : (PyData.str x).shown = reprText x := by simp only [PyData.shown]
  rw [e]
  have := w.2.1
  omega
theorem shown_var : (PyData.str "var").shown.length ≤ 82 := by decide +kernel
theorem shown_con : (PyData.str "con").shown.length ≤ 82 := by decide +kernel
theorem shown_apply : (PyData.str "apply").shown.length ≤ 82 := by decide +kernel
theorem shown_two (a b : PyData) : (PyData.tuple [a, b]).shown.length ≤ a.shown.length + b.shown.length + 7 := by
  have h := tupleText_len_le [a.shown, b.shown]
  simp only [PyData.shown, PyData.shownAll]
  simp only [List.map_cons, List.map_nil, List.sum_cons, List.sum_nil, List.length_cons, List.length_nil] at h
  omega
theorem shown_three (a b c : PyData) : (PyData.tuple [a, b, c]).shown.length ≤ a.shown.length + b.shown.length + c.shown.length + 9 := by
  have h := tupleText_len_le [a.shown, b.shown, c.shown]
  simp only [PyData.shown, PyData.shownAll]
  simp only [List.map_cons, List.map_nil, List.sum_cons, List.sum_nil, List.length_cons, List.length_nil] at h
  omega
theorem Kd.shown_len : ∀ {k : Kd} {n : Nat}, k.fit n → k.dat.shown.length + 100 ≤ 300 * 2 ^ n
  | .var x, n, h => by
    have h1 := shown_two (.str "var") (.str x)
    have h2 := shown_word (wok_of_var h)
    have h3 := shown_var
    have h4 : 1 ≤ 2 ^ n := Nat.one_le_two_pow
    show (PyData.tuple [.str "var", .str x]).shown.length + 100 ≤ _
    omega
  | .con x, n, h => by
    have h1 := shown_two (.str "con") (.str x)
    have h2 := shown_word (wok_of_con h)
    have h3 := shown_con
    have h4 : 1 ≤ 2 ^ n := Nat.one_le_two_pow
    show (PyData.tuple [.str "con", .str x]).shown.length + 100 ≤ _
    omega
  | .app a b, n, h => by
    obtain ⟨m, rfl, ha, hb⟩ := Kd.fit_app h
    have h1 := shown_three (.str "apply") a.dat b.dat
    have h2 := Kd.shown_len ha
    have h3 := Kd.shown_len hb
    have h4 := shown_apply
    have h5 : 2 ^ (m + 1) = 2 ^ m * 2 := Nat.pow_succ ..
    show (PyData.tuple [.str "apply", a.dat, b.dat]).shown.length + 100 ≤ _
    omega
theorem Kd.show_ok : ∀ k : Kd, k.dat.showable = true ∧ k.dat.hasDict = false
  | .var x => by simp [Kd.dat, PyData.showable, PyData.showableAll, PyData.hasDict, PyData.hasDictAll]
  | .con x => by simp [Kd.dat, PyData.showable, PyData.showableAll, PyData.hasDict, PyData.hasDictAll]
  | .app a b => by
    obtain ⟨h1, h2⟩ := Kd.show_ok a
    obtain ⟨h3, h4⟩ := Kd.show_ok b
    simp [Kd.dat, PyData.showable, PyData.showableAll, PyData.hasDict, PyData.hasDictAll, h1, h2, h3, h4]
theorem kds_show : ∀ {ks : List Kd} {n : Nat}, (∀ k ∈ ks, k.fit n) → PyData.showableAll (ks.map Kd.dat) = true ∧ PyData.hasDictAll (ks.map Kd.dat) = false ∧ PyData.depthAll (ks.map Kd.dat) ≤ n + 1 ∧ ((PyData.shownAll (ks.map Kd.dat)).map (·.length)).sum ≤ ks.length * (300 * 2 ^ n) ∧ (PyData.shownAll (ks.map Kd.dat)).length = ks.length
  | [], n, _ => by simp [PyData.showableAll, PyData.hasDictAll, PyData.depthAll, PyData.shownAll]
  | k :: r, n, h => by
    obtain ⟨h1, h2, h3, h4, h5⟩ := kds_show (ks := r) (n := n) fun y hy => h y (List.mem_cons_of_mem _ hy)
    have hk := h k List.mem_cons_self
    obtain ⟨g1, g2⟩ := Kd.show_ok k
    obtain ⟨g3, g4⟩ := Kd.lay hk
    have g5 := Kd.shown_len hk
    refine ⟨?_, ?_, ?_, ?_, ?_⟩
    · simp [PyData.showableAll, g1, h1]
    · simp [PyData.hasDictAll, g2, h2]
    · simp only [List.map_cons, PyData.depthAll]
      omega
    · have e : (r.length + 1) * (300 * 2 ^ n) = r.length * (300 * 2 ^ n) + 300 * 2 ^ n := Nat.succ_mul ..
      simp only [List.map_cons, PyData.shownAll, List.sum_cons, List.length_cons]
      rw [e]
      generalize r.length * (300 * 2 ^ n) = z at h4 ⊢
      omega
    · simp [PyData.shownAll, h5]
/-- [patterns, kinds] -/
def twoD (ps ks : List Kd) : PyData := .list [.list (ps.map Kd.dat), .list (ks.map Kd.dat)]
theorem twoD_show {ps ks : List Kd} (hp : ∀ k ∈ ps, k.fit 12) (hk : ∀ k ∈ ks, k.fit 12) (lp : ps.length ≤ 4) (lk : ks.length ≤ 4) :
    (twoD ps ks).showable = true ∧ (twoD ps ks).hasDict = false ∧ (twoD ps ks).depth ≤ 60 ∧ (twoD ps ks).shown.length ≤ sizeLine := by
  obtain ⟨a1, a2, a3, a4, a5⟩ := kds_show hp
  obtain ⟨b1, b2, b3, b4, b5⟩ := kds_show hk
  refine ⟨?_, ?_, ?_, ?_⟩
  · simp [twoD, PyData.showable, PyData.showableAll, a1, b1]
  · simp [twoD, PyData.hasDict, PyData.hasDictAll, a2, b2]
  · simp only [twoD, PyData.depth, PyData.depthAll]
    omega
  · have h := listText_len_le [listText (PyData.shownAll (ps.map Kd.dat)), listText (PyData.shownAll (ks.map Kd.dat))]
    have h1 := listText_len_le (PyData.shownAll (ps.map Kd.dat))
    have h2 := listText_len_le (PyData.shownAll (ks.map Kd.dat))
    have c1 : ps.length * (300 * 2 ^ 12) ≤ 4 * (300 * 2 ^ 12) := Nat.mul_le_mul_right _ lp
    have c2 : ks.length * (300 * 2 ^ 12) ≤ 4 * (300 * 2 ^ 12) := Nat.mul_le_mul_right _ lk
    simp only [List.map_cons, List.map_nil, List.sum_cons, List.sum_nil, List.length_cons, List.length_nil] at h
    simp only [twoD, PyData.shown, PyData.shownAll]
    have e := sizeLine_eq
    rw [e]
    omega
end L3

set_option maxHeartbeats 4000000
/-! values of any kind: none, bools, ints, texts, lists, tuples, dicts; literals; repr -/
namespace L3
open PySem PySem.Spec PyProof.Rows L2
mutual
/-- v is d; t is where the tape stands -/
inductive Da (t : Addr) (H : Hp) : V → PyData → Prop
  | non : Da t H .non .none
  | bl (b : Bool) : Da t H (.bl b) (.bool b)
  | int (i : Int) : Da t H (.int i) (.int i)
  | str (x : Str) : Da t H (.str x) (.str x)
  | lst {a : Addr} {xs : List V} {ds : List PyData} : H a = some (.lst xs) → a ≠ sysModules → DaAll t H xs ds → Da t H (.ref a) (.list ds)
  | tup {a : Addr} {xs : List V} {ds : List PyData} : H a = some (.tup xs) → DaAll t H xs ds → Da t H (.ref a) (.tuple ds)
  | dct {a : Addr} {kvs : List (Key × V)} {ds : List (PyData × PyData)} : H a = some (.dK kvs) → a ≠ t → DaKv t H kvs ds → Da t H (.ref a) (.dict ds)
inductive DaAll (t : Addr) (H : Hp) : List V → List PyData → Prop
  | nil : DaAll t H [] []
  | cons {v : V} {vs : List V} {d : PyData} {ds : List PyData} : Da t H v d → DaAll t H vs ds → DaAll t H (v :: vs) (d :: ds)
inductive DaKv (t : Addr) (H : Hp) : List (Key × V) → List (PyData × PyData) → Prop
  | nil : DaKv t H [] []
  | cons {x : Str} {v : V} {vs : List (Key × V)} {d : PyData} {ds : List (PyData × PyData)} : Da t H v d → DaKv t H vs ds → DaKv t H ((.inr x, v) :: vs) ((.str x, d) :: ds)
end
/-- what a change of the heap has to keep -/
structure Kp (t : Addr) (H H' : Hp) : Prop where
  l : ∀ a xs, H a = some (.lst xs) → H' a = some (.lst xs)
  u : ∀ a xs, H a = some (.tup xs) → H' a = some (.tup xs)
  d : ∀ a kvs, a ≠ t → H a = some (.dK kvs) → H' a = some (.dK kvs)
mutual
theorem Da.kp {t : Addr} {H H' : Hp} (e : Kp t H H') : ∀ {d : PyData} {v : V}, Da t H v d → Da t H' v d
  | .none, _, h => by cases h; exact .non
  | .bool b, _, h => by cases h; exact .bl b
  | .int i, _, h => by cases h; exact .int i
  | .str x, _, h => by cases h; exact .str x
  | .list ds, _, h => by
    cases h with
    | lst h1 h2 h3 => exact .lst (e.l _ _ h1) h2 (DaAll.kp e h3)
  | .tuple ds, _, h => by
    cases h with
    | tup h1 h3 => exact .tup (e.u _ _ h1) (DaAll.kp e h3)
  | .dict ds, _, h => by
    cases h with
    | dct h1 h2 h3 => exact .dct (e.d _ _ h2 h1) h2 (DaKv.kp e h3)
theorem DaAll.kp {t : Addr} {H H' : Hp} (e : Kp t H H') : ∀ {ds : List PyData} {vs : List V}, DaAll t H vs ds → DaAll t H' vs ds
  | [], _, h => by cases h; exact .nil
  | d :: ds, _, h => by
    cases h with
    | cons h1 h2 => exact .cons (Da.kp e h1) (DaAll.kp e h2)
theorem DaKv.kp {t : Addr} {H H' : Hp} (e : Kp t H H') : ∀ {ds : List (PyData × PyData)} {vs : List (Key × V)}, DaKv t H vs ds → DaKv t H' vs ds
  | [], _, h => by cases h; exact .nil
  | d :: ds, _, h => by
    cases h with
    | cons h1 h2 => exact .cons (Da.kp e h1) (DaKv.kp e h2)
end
theorem kp_same {t : Addr} {H H' : Hp} (e : Same H H') : Kp t H H' := ⟨fun _ _ h => e _ _ h, fun _ _ h => e _ _ h, fun _ _ _ h => e _ _ h⟩
theorem DaAll.len {t : Addr} {H : Hp} : ∀ {vs : List V} {ds : List PyData}, DaAll t H vs ds → vs.length = ds.length
  | _, [], h => by cases h; rfl
  | _, d :: ds, h => by
    cases h with
    | cons _ h => rw [List.length_cons, List.length_cons, DaAll.len h]
theorem DaAll.app {t : Addr} {H : Hp} : ∀ {vs ws : List V} {ds es : List PyData}, DaAll t H vs ds → DaAll t H ws es → DaAll t H (vs ++ ws) (ds ++ es)
  | _, _, [], _, h, g => by cases h; exact g
  | _, _, d :: ds, _, h, g => by
    cases h with
    | cons h1 h2 => exact .cons h1 (DaAll.app h2 g)
theorem DaAll.mem {t : Addr} {H : Hp} {v : V} : ∀ {vs : List V} {ds : List PyData}, DaAll t H vs ds → v ∈ vs → ∃ d ∈ ds, Da t H v d
  | _, [], h, hv => by cases h; cases hv
  | _, d :: ds, h, hv => by
    cases h with
    | cons h1 h2 =>
      rcases List.mem_cons.mp hv with e | hv
      · exact ⟨d, List.mem_cons_self, by rw [e]; exact h1⟩
      · obtain ⟨d', m, q⟩ := DaAll.mem h2 hv
        exact ⟨d', List.mem_cons_of_mem _ m, q⟩
/-! ### read by the library -/
section
variable {X : Cx} {pins : List (Addr × Obj)} {σ : L2.St} {H : Hp} {s : Shared} {t : Addr}
theorem kv_keys {knd : KeyKind X.prog X.w Key} (hk : knd.is = keyIs) : ∀ {kvs : List (Key × V)} {ds : List (PyData × PyData)} {es : List DictEntry} {vs : List (Key × Value)}, DaKv t H kvs ds → KV kvs vs → Pairs knd es vs → ReadsAll s.heap (es.map (·.key)) (ds.map (·.1)) []
  | _, [], _, _, h, h2, h3 => by
    cases h
    cases h2
    cases h3
    exact ReadsAll.nil
  | _, (q, d) :: ds, [], _, h, h2, h3 => by
    cases h3
    cases h2
    cases h
  | _, (q, d) :: ds, e :: es, _, h, h2, h3 => by
    cases h with
    | @cons x v vs d' ds' g1 g2 =>
      cases h2 with
      | cons e2 t2 =>
        cases h3 with
        | cons p1 p2 t3 =>
          obtain ⟨e2, _⟩ := e2
          rw [hk] at p1
          have h1' : keyIs _ e.key = true := p1
          rw [← e2] at h1'
          obtain ⟨tk, ht⟩ := Value.isStrOf_shape (x := x) (v := e.key) h1'
          have ih := kv_keys hk g2 t2 t3
          show ReadsAll s.heap (e.key :: es.map (·.key)) (PyData.str x :: _) []
          rw [ht]
          exact ReadsAll.cons (as := []) (bs := []) (Reads.str _ _) ih
mutual
theorem Da.reads (I : Inv X pins σ H s) : ∀ (d : PyData) (v : V) (u : Value), Da t H v d → RelV v u → ∃ as, Reads s.heap u d as ∧ sysModules ∉ as
  | .none, _, _, h, r => by
    cases h
    cases r
    exact ⟨_, Reads.none, List.not_mem_nil⟩
  | .bool b, _, _, h, r => by
    cases h
    cases r
    exact ⟨_, Reads.bool b, List.not_mem_nil⟩
  | .int i, _, _, h, r => by
    cases h
    obtain ⟨k, rfl⟩ := r
    exact ⟨_, Reads.int i k, List.not_mem_nil⟩
  | .str x, _, _, h, r => by
    cases h
    obtain ⟨k, rfl⟩ := r
    exact ⟨_, Reads.str x k, List.not_mem_nil⟩
  | .list ds, _, u, h, r => by
    cases h with
    | @lst a xs _ hs ns ha =>
      obtain rfl : u = Value.ref a := r
      obtain ⟨its, rv, ⟨o, n, ho, hc, _, hd⟩, _⟩ := I.list (SqL.of hs)
      obtain ⟨as, hr, q⟩ := Da.readsAll I ds _ its ha rv
      exact ⟨_, Reads.list ho hc hd hr, fun z => (List.mem_cons.mp z).elim (fun e => ns e.symm) q⟩
  | .tuple ds, _, u, h, r => by
    cases h with
    | @tup a xs _ hs ha =>
      obtain rfl : u = Value.ref a := r
      obtain ⟨its, rv, ⟨o, ho, hc, n, hd⟩, _⟩ := I.tuple (SqT.of hs)
      obtain ⟨as, hr, q⟩ := Da.readsAll I ds _ its ha rv
      exact ⟨_, Reads.tuple ho hc hd hr, q⟩
  | .dict ds, _, u, h, r => by
    cases h with
    | @dct a kvs _ hs na ha =>
      obtain rfl : u = Value.ref a := r
      obtain ⟨_, lo, vs, ra, da⟩ := (show ObjOk X.prog X.w H s.heap a (.dK kvs) from I.hok a _ hs)
      obtain ⟨ep, o, es, ho, hx, hdat, _, pr, _⟩ := da.dictAt
      obtain ⟨bs, hr, q⟩ := Da.readsKv I ds kvs _ vs ha ra pr
      refine ⟨_, Reads.dict (as := []) ho hx.1 hdat (kv_keys rfl ha ra pr) hr, fun z => ?_⟩
      rcases List.mem_append.mp z with e | e
      · have e := List.mem_singleton.mp e
        rw [← e] at lo
        simp at lo
      · exact q e
theorem Da.readsAll (I : Inv X pins σ H s) : ∀ (ds : List PyData) (vs : List V) (us : List Value), DaAll t H vs ds → Vals vs us → ∃ as, ReadsAll s.heap us ds as ∧ sysModules ∉ as
  | [], _, _, h, r => by
    cases h
    cases r
    exact ⟨_, ReadsAll.nil, List.not_mem_nil⟩
  | d :: ds, _, _, h, r => by
    cases h with
    | cons h1 h2 =>
      cases r with
      | cons r1 r2 =>
        obtain ⟨as, q1, n1⟩ := Da.reads I d _ _ h1 r1
        obtain ⟨bs, q2, n2⟩ := Da.readsAll I ds _ _ h2 r2
        exact ⟨_, ReadsAll.cons q1 q2, fun z => (List.mem_append.mp z).elim n1 n2⟩
theorem Da.readsKv (I : Inv X pins σ H s) {knd : KeyKind X.prog X.w Key} : ∀ (ds : List (PyData × PyData)) (kvs : List (Key × V)) (es : List DictEntry) (vs : List (Key × Value)), DaKv t H kvs ds → KV kvs vs → Pairs knd es vs → ∃ as, ReadsAll s.heap (es.map (·.val)) (ds.map (·.2)) as ∧ sysModules ∉ as
  | [], _, _, _, h, h2, h3 => by
    cases h
    cases h2
    cases h3
    exact ⟨_, ReadsAll.nil, List.not_mem_nil⟩
  | (q, d) :: ds, _, [], _, h, h2, h3 => by
    cases h3
    cases h2
    cases h
  | (q, d) :: ds, _, e :: es', _, h, h2, h3 => by
    cases h with
    | @cons x v vs d' ds' g1 g2 =>
      cases h2 with
      | cons e2 t2 =>
        cases h3 with
        | cons p1 p2 t3 =>
          obtain ⟨_, r⟩ := e2
          obtain ⟨as, q1, n1⟩ := Da.reads I d _ _ g1 r
          obtain ⟨bs, q2, n2⟩ := Da.readsKv I ds _ es' _ g2 t2 t3
          have h2' : e.val = _ := p2
          refine ⟨_, ?_, fun z => (List.mem_append.mp z).elim n1 n2⟩
          show ReadsAll s.heap (e.val :: es'.map (·.val)) (d :: _) _
          rw [h2']
          exact ReadsAll.cons q1 q2
end
/-- repr of a list, a tuple or a dict of such values -/
def rReprA (t : Addr) : List V → Hp → VK → Prop := fun xs H Q => ∃ (a : Addr) (d : PyData), xs = [.ref a] ∧ Da t H (.ref a) d ∧ d.showable = true ∧ d.depth ≤ 60 ∧ d.shown.length ≤ sizeLine ∧ Q (.str d.shown) H
theorem call_reprA (t : Addr) (hg : X.A.guards = some []) (hu : X.A.units + 64 < cLine) : CallR X (.builtin "repr") (rReprA t) := by
  intro pins s σ H xs us Q I r h
  obtain ⟨a, d, rfl, hd, hs, hdep, hsz, q⟩ := h
  obtain ⟨u, rfl, rx⟩ := vals1 r
  obtain rfl : u = Value.ref a := rx
  obtain ⟨as, hr, n⟩ := Da.reads I d _ _ hd (show RelV (.ref a) (.ref a) from rfl)
  exact repr_of_reads' hr hs (fun _ => n) hg (by omega) (fun _ _ e => e) (fun h' u tk hk => ⟨.str d.shown, H, I.kept (t' := tk) hk, ⟨u, rfl⟩, q⟩) hsz
end
/-! ### literals -/
section
variable {X : Cx} {e : Expr} {es : List Expr} {pos : Pos} {t : Addr}
theorem _root_.L2.PE.weak {te te' : TE} (h : PE X e te) (m : ∀ σ H Q, te' σ H Q → te σ H Q) : PE X e te' := ⟨fun pins s σ H Q I q => h.run pins s σ H Q I (m σ H Q q)⟩
theorem _root_.L2.PA.weak {te te' : TA} (h : PA X es te) (m : ∀ σ H Q, te' σ H Q → te σ H Q) : PA X es te' := ⟨fun pos pins s σ H Q I q => h.run pos pins s σ H Q I (m σ H Q q)⟩
/-- a value that is d, all else is kept -/
def tLit (t : Addr) (d : PyData) : TE := fun _ H Q => (∃ o, H t = some o) ∧ ∀ H' v, Same H H' → Da t H' v d → Q v H'
def tLits (t : Addr) (ds : List PyData) : TA := fun _ H Q => (∃ o, H t = some o) ∧ ∀ H' vs, Same H H' → DaAll t H' vs ds → Q vs H'
/-- a new list of such values -/
def tLitL (t : Addr) (ds : List PyData) : TE := fun _ H Q => (∃ o, H t = some o) ∧ ∀ H' l vs, Same H H' → l ≠ sysModules → H' l = some (.lst vs) → DaAll t H' vs ds → Q (.ref l) H'
theorem pl_nil : PA X [] (tLits t []) := pa_nil.weak fun σ H Q h => h.2 H [] (Same.refl H) .nil
theorem pl_cons {d : PyData} {ds : List PyData} (ha : PE X e (tLit t d)) (hr : PA X es (tLits t ds)) (hs : starEach (e :: es) X.env = (false, eval e X.env) :: starEach es X.env := by rfl) : PA X (e :: es) (tLits t (d :: ds)) :=
  (pa_cons ha hr hs).weak fun σ H Q ⟨⟨o, ho⟩, h⟩ => ⟨⟨o, ho⟩, fun H1 v s1 d1 => ⟨⟨o, s1 _ _ ho⟩, fun H2 vs s2 d2 => h H2 (v :: vs) (s1.trans s2) (.cons (d1.kp (kp_same s2)) d2)⟩⟩
theorem pl_tup {x1} {ds : List PyData} (h : PA X es (tLits t ds)) (hz : ds.length ≤ 1000 := by decide) : PE X (.Tuple es x1 pos) (tLit t (.tuple ds)) :=
  (pe_tup h).weak fun σ H Q ⟨⟨o, ho⟩, h⟩ => ⟨⟨o, ho⟩, fun H1 vs s1 d1 => ⟨by rw [d1.len, sizeLine_eq]; omega, fun p hp => h _ _ (s1.trans (same_new hp)) (.tup upd_same (d1.kp (kp_same (same_new hp))))⟩⟩
theorem pl_lstL {ds : List PyData} (h : PA X es (tLits t ds)) (hz : ds.length ≤ 1000 := by decide) : PE X (.List es pos) (tLitL t ds) := by
  refine ⟨fun pins s σ H Q I hq => ?_⟩
  obtain ⟨ho, hq⟩ := hq
  refine wpAny_List_spliced (thn (h.run pos pins s σ H (fun vs H1 => Same H H1 ∧ DaAll t H1 vs ds) I ⟨ho, fun H1 vs s1 d1 => ⟨s1, d1⟩⟩) fun us s1 ⟨xs, H1, I1, r, sm, dd⟩ => ⟨by rw [← r.length, dd.len, sizeLine_eq]; omega, ?_⟩)
  have hf : H1 s1.heap.objs.size = none := I1.hok.fresh (Nat.le_refl _)
  refine ⟨.ref s1.heap.objs.size, upd H1 s1.heap.objs.size (.lst xs), I1.laid (t' := s1.toks) (fun b u e => Heap.get?_push_of_some _ e) (Nat.le_refl _) ?_, rfl, hq _ _ xs (sm.trans (same_new hf)) (Nat.ne_of_gt I1.big) upd_same (dd.kp (kp_same (same_new hf)))⟩
  exact ⟨by rw [dd.len, sizeLine_eq]; omega, us, 0, r, Heap.get?_push_size _ rfl⟩
theorem pl_lst {ds : List PyData} (h : PA X es (tLits t ds)) (hz : ds.length ≤ 1000 := by decide) : PE X (.List es pos) (tLit t (.list ds)) :=
  (pl_lstL h hz).weak fun σ H Q ⟨ho, h⟩ => ⟨ho, fun H1 l vs s1 n1 g1 d1 => h _ _ s1 (.lst g1 n1 d1)⟩
theorem pl_c {x : V} {d : PyData} (h : PE X e (tC x)) (m : ∀ H, Da t H x d) : PE X e (tLit t d) := h.weak fun σ H Q ⟨_, h⟩ => h H x (Same.refl H) (m H)
theorem pl_d0 : PE X (.Dict [] [] pos) (tLit t (.dict [])) :=
  pe_dnewK.weak fun σ H Q ⟨⟨o, ho⟩, h⟩ p hp => h _ _ (same_new hp) (.dct upd_same (fun e => by rw [e, ho] at hp; cases hp) .nil)
theorem pl_neg {i : Int} (h : PE X e (tC (.int i))) : PE X (.UnaryOp .USub e pos) (tLit t (.int (-i))) :=
  (pe_un un_neg h).weak fun σ H Q ⟨_, q⟩ => ⟨_, rfl, q H _ (Same.refl H) (.int _)⟩
theorem pl_pow {e2 : Expr} {i j : Int} (h : PE X e (tC (.int i))) (h2 : PE X e2 (tC (.int j))) (hc : CPow i j := by decide) : PE X (.BinOp e .Pow e2 pos) (tLit t (.int (i ^ j.toNat))) :=
  (pe_op op_pow h h2).weak fun σ H Q ⟨_, q⟩ => ⟨_, _, rfl, rfl, hc, q H _ (Same.refl H) (.int _)⟩
theorem pl_d1 {x : Str} {i : Int} {p1 p2 : Pos} {k1 k2} : PE X (.Dict [some (.Constant (.str x) k1 p1)] [.Constant (.int i) k2 p2] pos) (tLit t (.dict [(.str x, .int i)])) :=
  (pe_disp (pps_cons pe_str pe_int pps_nil) (by rfl) (by rfl) (fun z => by cases z) (by show 1 ≤ 15; decide)).weak fun σ H Q ⟨⟨o, ho⟩, h⟩ p hp => ⟨upd_same, [(.inr x, .int i)], rfl, by show 1 ≤ 15; decide, h _ _ (fun b o' e => by
    rw [upd_ne (ne_of_none e hp), upd_ne (ne_of_none e hp)]
    exact e) (.dct upd_same (fun e => by rw [e, ho] at hp; cases hp) (.cons (.int i) .nil))⟩
end
end L3

namespace L3
open PySem L2
section
variable {P : Program} {w : World} {K : PySem.W.Frag} {mg : Str → Option Value} {base : Heap}
abbrev s__law_odd : Stmt := topS 43
abbrev N__law_odd : List Str := ["_law_tape", "_law_some"]
theorem sc__law_odd : FnScope N__law_odd ["_law_tape"] (defScope s__law_odd) := ⟨rfl, rfl, rfl, by decide +kernel, rfl, by decide +kernel, by decide +kernel⟩
def oddA : List PyData := [.none, .bool true, .bool false, .int 0, .int 1, .int (-1), .int 7, .int (10 ^ 40), .str "", .str "a", .str "self", .str "data", .str "A", .str "a b", .str "whole", .tuple [], .list [], .dict [], .tuple [.str "a"]]
def oddB : List PyData := [.list [.str "a"], .tuple [.int 0], .tuple [.int 1, .int 2], .list [.int 0], .tuple [.tuple [.str "a"]], .dict [(.str "a", .int 1)], .tuple [.str "var", .str "a"], .tuple [.str "con", .str "whole"], .tuple [.str "name", .str "a"], .tuple [.none]]
def oddC : List PyData := [.tuple [.str "apply", .tuple [.str "con", .str "to"]], .tuple [.str "var", .int 1], .str "abcdefghi", .tuple [.int 1, .int 1], .tuple [.str "whole", .bool true], .list [.tuple []], .int 3, .tuple [.str "same", .tuple []]]
def oddD : List PyData := [.tuple [.str "given", .int 0, .tuple []], .tuple [.str "case", .str "a", .tuple []], .tuple [.str "whole", .int 1], .tuple [.str "hole"], .tuple [.str "definition", .str "a"], .dict []]
def odds : List PyData := oddA ++ oddB ++ oddC ++ oddD
theorem kp_ext {K : PySem.W.Frag} {t c : Addr} {b : Nat} {H H' : Hp} (e : Ext t H H') (T : Tape K H t c b) : Kp t H H' := by
  obtain ⟨_, _, _, h, _⟩ := T
  exact ⟨fun a xs g => e a _ (fun z => by rw [z, h] at g; cases g) g, fun a xs g => e a _ (fun z => by rw [z, h] at g; cases g) g, fun a kvs n g => e a _ n g⟩
def spOdd (K : PySem.W.Frag) : Sp := fun vs H Q _ => ∃ (t c : Addr) (b : Nat), vs = [.ref t] ∧ Tape K H t c (b + 1) ∧ ∀ (H' : Hp) (v : V) (d : PyData), Ext t H H' → Tape K H' t c b → Da t H' v d → d ∈ odds → Q v H'
theorem ok_odd {f : Addr} {fd : FuncData} (F : Fun K "_law_odd" "_law_odd" s__law_odd f fd) (D__law_pick : Kn P w K mg base 2 "_law_pick" ["_law_tape", "_law_items"] (spPick K)) : FnOk P w K mg base CX0 3 f fd ["_law_tape"] (spOdd K) := by
  refine F.ok sc__law_odd (fun vs H Q E h => ?_) (fun cdv A outer s H vs Q E hr h => ?_)
  · obtain ⟨t, c, b, rfl, _⟩ := h
    rfl
  · obtain ⟨t, c, b, rfl, T, k⟩ := h
    have hr__law_pick : Room 2 _ := hr
    refine ⟨_, (pss_cons (ps_set (i := 1) sc__law_odd.nd rfl (Or.inl rfl) (pl_lstL (t := t) (pl_cons (pl_c pe_non fun _ => .non) (pl_cons (pl_c pe_bl fun _ => .bl _) (pl_cons (pl_c pe_bl fun _ => .bl _) (pl_cons (pl_c pe_int fun _ => .int _) (pl_cons (pl_c pe_int fun _ => .int _) (pl_cons (pl_neg pe_int) (pl_cons (pl_c pe_int fun _ => .int _) (pl_cons (pl_pow pe_int pe_int ⟨by decide, by decide, by decide⟩) (pl_cons (pl_c pe_str fun _ => .str _) (pl_cons (pl_c pe_str fun _ => .str _) (pl_cons (pl_c pe_str fun _ => .str _) (pl_cons (pl_c pe_str fun _ => .str _) (pl_cons (pl_c pe_str fun _ => .str _) (pl_cons (pl_c pe_str fun _ => .str _) (pl_cons (pl_c pe_str fun _ => .str _) (pl_cons (pl_tup pl_nil) (pl_cons (pl_lst pl_nil) (pl_cons pl_d0 (pl_cons (pl_tup (pl_cons (pl_c pe_str fun _ => .str _) pl_nil)) pl_nil)))))))))))))))))))))
  (pss_cons (ps_set (i := 1) sc__law_odd.nd rfl (Or.inl rfl) (pe_op op_cat (pv 1) (pl_lstL (t := t) (pl_cons (pl_lst (pl_cons (pl_c pe_str fun _ => .str _) pl_nil)) (pl_cons (pl_tup (pl_cons (pl_c pe_int fun _ => .int _) pl_nil)) (pl_cons (pl_tup (pl_cons (pl_c pe_int fun _ => .int _) (pl_cons (pl_c pe_int fun _ => .int _) pl_nil))) (pl_cons (pl_lst (pl_cons (pl_c pe_int fun _ => .int _) pl_nil)) (pl_cons (pl_tup (pl_cons (pl_tup (pl_cons (pl_c pe_str fun _ => .str _) pl_nil)) pl_nil)) (pl_cons pl_d1 (pl_cons (pl_tup (pl_cons (pl_c pe_str fun _ => .str _) (pl_cons (pl_c pe_str fun _ => .str _) pl_nil))) (pl_cons (pl_tup (pl_cons (pl_c pe_str fun _ => .str _) (pl_cons (pl_c pe_str fun _ => .str _) pl_nil))) (pl_cons (pl_tup (pl_cons (pl_c pe_str fun _ => .str _) (pl_cons (pl_c pe_str fun _ => .str _) pl_nil))) (pl_cons (pl_tup (pl_cons (pl_c pe_non fun _ => .non) pl_nil)) pl_nil)))))))))))))
  (pss_cons (ps_set (i := 1) sc__law_odd.nd rfl (Or.inl rfl) (pe_op op_cat (pv 1) (pl_lstL (t := t) (pl_cons (pl_tup (pl_cons (pl_c pe_str fun _ => .str _) (pl_cons (pl_tup (pl_cons (pl_c pe_str fun _ => .str _) (pl_cons (pl_c pe_str fun _ => .str _) pl_nil))) pl_nil))) (pl_cons (pl_tup (pl_cons (pl_c pe_str fun _ => .str _) (pl_cons (pl_c pe_int fun _ => .int _) pl_nil))) (pl_cons (pl_c pe_str fun _ => .str _) (pl_cons (pl_tup (pl_cons (pl_c pe_int fun _ => .int _) (pl_cons (pl_c pe_int fun _ => .int _) pl_nil))) (pl_cons (pl_tup (pl_cons (pl_c pe_str fun _ => .str _) (pl_cons (pl_c pe_bl fun _ => .bl _) pl_nil))) (pl_cons (pl_lst (pl_cons (pl_tup pl_nil) pl_nil)) (pl_cons (pl_c pe_int fun _ => .int _) (pl_cons (pl_tup (pl_cons (pl_c pe_str fun _ => .str _) (pl_cons (pl_tup pl_nil) pl_nil))) pl_nil)))))))))))
  (pss_one (ps_ret (pe_kn D__law_pick hr__law_pick (pa_cons (pv 0) (pa_cons (pe_op op_cat (pv 1) (pl_lstL (t := t) (pl_cons (pl_tup (pl_cons (pl_c pe_str fun _ => .str _) (pl_cons (pl_c pe_int fun _ => .int _) (pl_cons (pl_tup pl_nil) pl_nil)))) (pl_cons (pl_tup (pl_cons (pl_c pe_str fun _ => .str _) (pl_cons (pl_c pe_str fun _ => .str _) (pl_cons (pl_tup pl_nil) pl_nil)))) (pl_cons (pl_tup (pl_cons (pl_c pe_str fun _ => .str _) (pl_cons (pl_c pe_int fun _ => .int _) pl_nil))) (pl_cons (pl_tup (pl_cons (pl_c pe_str fun _ => .str _) pl_nil)) (pl_cons (pl_tup (pl_cons (pl_c pe_str fun _ => .str _) (pl_cons (pl_c pe_str fun _ => .str _) pl_nil))) (pl_cons pl_d0 pl_nil)))))))) pa_nil)))))))), ?_⟩
    have hT : ∀ {H' : Hp}, Tape K H' t c (b + 1) → ∃ o, H' t = some o := fun T => by
      obtain ⟨_, _, _, h, _⟩ := T
      exact ⟨_, h⟩
    refine ⟨hT T, fun H1 l1 vs1 s1 n1 g1 d1 => ?_⟩
    have T1 := T.same s1
    refine ⟨_, rfl, hT T1, fun H2 l2 vs2 s2 n2 g2 d2 => ?_⟩
    refine ⟨l1, l2, vs1, vs2, rfl, rfl, s2 _ _ g1, g2, by rw [d1.len, d2.len, sizeLine_eq]; decide, fun p hp => ?_⟩
    have s3 := same_new (o := .lst (vs1 ++ vs2)) hp
    have d12 : DaAll t (upd H2 p (.lst (vs1 ++ vs2))) (vs1 ++ vs2) (oddA ++ oddB) := (DaAll.app (d1.kp (kp_same s2)) d2).kp (kp_same s3)
    have g3 : (upd H2 p (.lst (vs1 ++ vs2))) p = some (.lst (vs1 ++ vs2)) := upd_same
    have S3 := s1.trans (s2.trans s3)
    have T3 := T.same S3
    generalize upd H2 p (.lst (vs1 ++ vs2)) = H3 at d12 g3 S3 T3 ⊢
    refine ⟨_, rfl, hT T3, fun H4 l4 vs4 s4 n4 g4 d4 => ?_⟩
    refine ⟨p, l4, _, vs4, rfl, rfl, s4 _ _ g3, g4, by rw [d12.len, d4.len, sizeLine_eq]; decide, fun p5 hp5 => ?_⟩
    have s5 := same_new (o := .lst (vs1 ++ vs2 ++ vs4)) hp5
    have d5 : DaAll t (upd H4 p5 (.lst (vs1 ++ vs2 ++ vs4))) (vs1 ++ vs2 ++ vs4) (oddA ++ oddB ++ oddC) := (DaAll.app (d12.kp (kp_same s4)) d4).kp (kp_same s5)
    have g5 : (upd H4 p5 (.lst (vs1 ++ vs2 ++ vs4))) p5 = some (.lst (vs1 ++ vs2 ++ vs4)) := upd_same
    have S5 := S3.trans (s4.trans s5)
    have T5 := T.same S5
    generalize upd H4 p5 (.lst (vs1 ++ vs2 ++ vs4)) = H5 at d5 g5 S5 T5 ⊢
    refine ⟨_, rfl, _, rfl, hT T5, fun H6 l6 vs6 s6 n6 g6 d6 => ?_⟩
    refine ⟨p5, l6, _, vs6, rfl, rfl, s6 _ _ g5, g6, by rw [d5.len, d6.len, sizeLine_eq]; decide, fun p7 hp7 => ?_⟩
    have s7 := same_new (o := .lst (vs1 ++ vs2 ++ vs4 ++ vs6)) hp7
    have d7 : DaAll t (upd H6 p7 (.lst (vs1 ++ vs2 ++ vs4 ++ vs6))) (vs1 ++ vs2 ++ vs4 ++ vs6) odds := (DaAll.app (d5.kp (kp_same s6)) d6).kp (kp_same s7)
    have g7 : (upd H6 p7 (.lst (vs1 ++ vs2 ++ vs4 ++ vs6))) p7 = some (.lst (vs1 ++ vs2 ++ vs4 ++ vs6)) := upd_same
    have S7 := S5.trans (s6.trans s7)
    have T7 := T.same S7
    generalize upd H6 p7 (.lst (vs1 ++ vs2 ++ vs4 ++ vs6)) = H7 at d7 g7 S7 T7 ⊢
    refine ⟨t, c, p7, _, b, rfl, SqL.of g7, by rw [d7.len]; decide, by rw [d7.len]; decide, T7, fun H8 v e8 T8 hv => ?_⟩
    obtain ⟨d, hd, dv⟩ := d7.mem hv
    exact k H8 v d ((same_ext S7).trans e8) T8 (dv.kp (kp_ext e8 T7)) hd
end
end L3

/-! a value of any kind: its type; beside a text -/
namespace L3
open PySem PySem.Spec PyProof.Rows L2
open PySem.SeqAt
theorem dict_eq_declines_str (a : Addr) (es : Array DictEntry) (n : Nat) (dd : Option Addr) (sl : Array (Option Value)) (b : Str) (u : Tok) :
    Meets (Builtin.«dict.__eq__» ⟨[.ref a, .str b u], []⟩) (fun _ R s => s.heap.get? a = some { cls := .type "dict", dict := dd, data := .dict es n, slots := sl } ∧ R (.ok (.ret .notImplemented)) s) :=
  .of_wp fun prog w A R s h => by
    obtain ⟨hl, h⟩ := h
    have tA : s.TypeIs (.ref a) "dict" := ⟨_, hl, rfl⟩
    show wpAny _ _ (Builtin.Dict.dictSlotArgs "__eq__" ⟨[.ref a, .str b u], []⟩ >>= _) _ _ s
    refine wpAny_bind ?_
    unfold Builtin.Dict.dictSlotArgs
    refine wpAny_bind (wpAny_notOrdered_dict tA ?_)
    show wpAny _ _ (pure (Value.ref a, Value.str b u)) _ _ s
    refine wpAny_pure ?_
    refine wpAny_bind (wpAny_isInstance (T := "str") (typeIs_str s b u) F.sub_str_dict ?_)
    simp only [Bool.not_false, if_true]
    exact wpAny_bind (wpAny_rule (wpAny_pure ⟨_, rfl, h⟩))
theorem str_eq_declines_dict (b : Str) (u : Tok) (l : Addr) (c : Value) (es : Array DictEntry) (n : Nat) (dd : Option Addr) (sl : Array (Option Value)) :
    Meets (Builtin.«str.__eq__» ⟨[.str b u, .ref l], []⟩) (fun _ R s => s.heap.get? l = some { cls := c, dict := dd, data := .dict es n, slots := sl } ∧ R (.ok (.ret .notImplemented)) s) :=
  .of_wp fun prog w A R s h => by obtain ⟨hp, g, d, tk, os⟩ := s; obtain ⟨hl, h⟩ := h; wp_walk using wpAny_loadPart' hl, wpAny_load hl; exact ⟨_, rfl, h⟩
section
variable {A : Around} {s : Shared}
theorem rc_dict_str {l : Addr} {o : Obj} {es : Array DictEntry} {n : Nat} (b : Str) (u : Tok) (ho : s.heap.get? l = some o) (hc : o.cls = .type "dict") (hd : o.data = .dict es n) (hu : A.units < cLine) : RcAt A s (.ref l) (.str b u) false := fun prog w E Q h => by
  obtain ⟨cls, dd, data, sl⟩ := o
  simp only at hc hd
  subst hc hd
  exact rc_eq_decline_or (k := false) ⟨_, ho, rfl⟩ (typeIs_str s b u) (by decide) F.sub_str_dict F.slot_dict_eq F.slot_str_eq_refl
    (fun _ hq => call_meets F.slot_dict_eq ⟨_, ho, rfl⟩ F.entry_dict_eq (F.args_dict_eq_2 _ _) (dict_eq_declines_str l es n dd sl b u) ⟨ho, hq⟩)
    (fun _ hq => call_meets F.slot_str_eq_refl (typeIs_str s b u) F.entry_str_eq (F.args_str_eq_2 _ _) (str_eq_declines_dict b u l (.type "dict") es n dd sl) ⟨ho, hq⟩)
    (fun _ hq => wpAny_of_eq (rfl : isSame (.ref l) (.str b u) = pure false) hq) (.inr hu) h
end
/-- whether a value is this text -/
def isS (x : Str) : PyData → Bool
  | .str y => decide (y = x)
  | _ => false
def tyName : PyData → String
  | .none => "NoneType"
  | .bool _ => "bool"
  | .int _ => "int"
  | .str _ => "str"
  | .list _ => "list"
  | .tuple _ => "tuple"
  | .dict _ => "dict"
section
variable {X : Cx} {pins : List (Addr × Obj)} {σ : L2.St} {H : Hp} {s : Shared}
def rEqStr (t : Addr) : R2 := fun x y H Q => ∃ (d : PyData) (z : Str), y = .str z ∧ Da t H x d ∧ Q (.bl (isS z d)) H
theorem op_eqStr {t : Addr} (hu : X.A.units + 64 < cLine) : OpR X (compareOp .Eq) (rEqStr t) := by
  intro pins s σ H x y v u Q I rx ry h
  obtain ⟨d, z, rfl, hd, q⟩ := h
  obtain ⟨tk, rfl⟩ := (show ∃ k, u = Value.str z k from ry)
  have hu' : X.A.units < cLine := by omega
  have fin : ∀ b : Bool, b = isS z d → EP X pins σ Q (.bool b) s := fun b e => ⟨.bl b, H, I, rfl, by rw [e]; exact q⟩
  cases d with
  | none =>
    cases hd
    cases (show v = Value.none from rx)
    exact RcAt.none_str z tk _ _ _ _ (fin _ rfl)
  | bool b =>
    cases hd
    cases (show v = Value.bool b from rx)
    exact RcAt.bool_str b z tk _ _ _ _ (fin _ rfl)
  | int i =>
    cases hd
    obtain ⟨k, rfl⟩ := (show ∃ k, v = Value.int i k from rx)
    exact RcAt.int_str i k z tk _ _ _ _ (fin _ rfl)
  | str y =>
    cases hd
    obtain ⟨k, rfl⟩ := (show ∃ k, v = Value.str y k from rx)
    exact RcAt.str_str y k z tk _ _ _ _ (fin _ (str_beq y z))
  | list ds =>
    cases hd with
    | @lst a xs _ hs ns ha =>
      obtain rfl : v = Value.ref a := rx
      obtain ⟨its, rv, ⟨o, n, ho, hc, _, hd⟩, _⟩ := I.list (SqL.of hs)
      exact RcAt.list_str z tk ⟨o, ho, hc, n, hd⟩ hu' _ _ _ _ (fin _ rfl)
  | tuple ds =>
    cases hd with
    | @tup a xs _ hs ha =>
      obtain rfl : v = Value.ref a := rx
      obtain ⟨its, rv, ⟨o, ho, hc, n, hd⟩, _⟩ := I.tuple (SqT.of hs)
      exact RcAt.tuple_str z tk ⟨o, ho, hc, n, hd⟩ hu' _ _ _ _ (fin _ rfl)
  | dict ds =>
    cases hd with
    | @dct a kvs _ hs na ha =>
      obtain rfl : v = Value.ref a := rx
      obtain ⟨_, lo, vs, ra, da⟩ := (show ObjOk X.prog X.w H s.heap a (.dK kvs) from I.hok a _ hs)
      obtain ⟨ep, o, es, ho, hx, hdat, _, pr, _⟩ := da.dictAt
      exact rc_dict_str z tk ho hx.1 hdat hu' _ _ _ _ (fin _ rfl)
theorem Da.ty {K : PySem.W.Frag} {t : Addr} {v : V} {d : PyData} (h : Da t H v d) : TyX K H v (.type (tyName d)) := by
  cases d with
  | none => cases h; exact .base .non
  | bool b => cases h; exact .base (.bl b)
  | int i => cases h; exact .base (.int i)
  | str y => cases h; exact .base (.str y)
  | list ds =>
    cases h with
    | lst h1 _ _ => exact .base (.lst h1)
  | tuple ds =>
    cases h with
    | tup h1 _ => exact .base (.tup h1)
  | dict ds =>
    cases h with
    | dct h1 _ _ => exact .base (.dK h1)
def isStr : PyData → Bool
  | .str _ => true
  | _ => false
def isTup : PyData → Bool
  | .tuple _ => true
  | _ => false
theorem kit_str {K : PySem.W.Frag} (d : PyData) : PySem.W.kitOne K (.type (tyName d)) (.type "str") = some (isStr d) := by
  cases d with
  | none => exact kit_ty (show kitB "NoneType" "str" = some false by decide +kernel)
  | bool _ => exact kit_ty (show kitB "bool" "str" = some false by decide +kernel)
  | int _ => exact kit_ty (show kitB "int" "str" = some false by decide +kernel)
  | str _ => exact kit_ty (show kitB "str" "str" = some true by decide +kernel)
  | list _ => exact kit_ty (show kitB "list" "str" = some false by decide +kernel)
  | tuple _ => exact kit_ty (show kitB "tuple" "str" = some false by decide +kernel)
  | dict _ => exact kit_ty (show kitB "dict" "str" = some false by decide +kernel)
theorem kit_tup {K : PySem.W.Frag} (d : PyData) : PySem.W.kitOne K (.type (tyName d)) (.type "tuple") = some (isTup d) := by
  cases d with
  | none => exact kit_ty (show kitB "NoneType" "tuple" = some false by decide +kernel)
  | bool _ => exact kit_ty (show kitB "bool" "tuple" = some false by decide +kernel)
  | int _ => exact kit_ty (show kitB "int" "tuple" = some false by decide +kernel)
  | str _ => exact kit_ty (show kitB "str" "tuple" = some false by decide +kernel)
  | list _ => exact kit_ty (show kitB "list" "tuple" = some false by decide +kernel)
  | tuple _ => exact kit_ty (show kitB "tuple" "tuple" = some true by decide +kernel)
  | dict _ => exact kit_ty (show kitB "dict" "tuple" = some false by decide +kernel)
end
end L3

/-! a known function called by keywords alone -/
namespace L3
open PySem L2
structure KnK (P : Program) (w : World) (K : PySem.W.Frag) (mg : Str → Option Value) (base : Heap) (k : Nat) (x : Str) (ps : List Str) (sp : Sp) : Prop where
  ex : ∃ (f : Addr) (fd : FuncData), FnOk P w K mg base CX0 k f fd ps sp ∧ mg x = some (.ref f) ∧ PySem.W.keepIn K (.ref f) = true ∧ KBinds K fd ps ps (fun us ws => us ++ ws) (fun vs zs => vs ++ zs)
section
variable {X : Cx} {x : Str} {k : Nat} {ps : List Str} {sp : Sp} {kws : List Keyword} {tk : TA} {p pos : Pos}
theorem pe_knK (D : KnK X.prog X.w X.K X.mg X.base k x ps sp) (hr : Room k X.A) (hkw : PK X kws tk) (hg : Gl X x := by rfl) (hdb : (x == ("__debug__" : Str)) = false := by decide)
    (hall : (backToKw pos (keywordEach kws X.env)).all (·.1.isSome) = true := by rfl) (hks : (backToKw pos (keywordEach kws X.env)).filterMap (·.1) = ps := by rfl)
    (hpl : ((backTo pos (starEach [] X.env)).any (·.1) || (backToKw pos (keywordEach kws X.env)).any (·.1.isNone)) = false := by rfl) :
    PE X (.Call (.Name x p) [] kws pos) (fun σ H Q => tk σ H fun zs H2 => sp zs H2 Q E0) := by
  obtain ⟨f, fd, F, hm, hk, hb⟩ := D.ex
  refine ⟨fun pins s σ H Q I h => wpAny_Call_Name_kw (ld_glob I hg hm ?_ hdb)⟩
  refine PySem.W.callWith_KW0 (h₀ := X.base) I.ok.mod.kin hk hall (thn (hkw.run pos pins s σ H _ I h) fun ws s2 ⟨zs, H2, I2, rz, q2⟩ => ⟨I2.kIn, ?_⟩) hpl
  rw [hks]
  exact run_fnk (us := []) (vs := []) F hr hb pass0 I2 .nil rz q2
/-- a function of one parameter -/
theorem kbinds1 {K : PySem.W.Frag} {fd : FuncData} {x : Str} (h : ∀ (s : Shared) (v : Value), BindsTo s fd ⟨[v], []⟩ [(x, v)]) (h2 : ∀ (s : Shared) (v : Value), BindsTo s fd ⟨[], [(x, v)]⟩ [(x, v)]) : KBinds K fd [x] [x] (fun us ws => us ++ ws) (fun vs zs => vs ++ zs) where
  to := fun s us ws _ hl => by
    match us, ws, hl with
    | [], [w], _ => exact h2 s w
    | [u], [], _ => exact h s u
  rel := fun r rz => by
    induction r with
    | nil => exact rz
    | cons a b ih => exact .cons a ih
end
end L3

/-! own exceptions as values, over any built-in one: stores within __init__ -/
namespace L3
open PySem PySem.Spec PyProof.Rows L2
/-- an own class over a built-in exception, as the written part has it -/
structure Xc (K : PySem.W.Frag) (C : Addr) (bmB : List Value) (nw : String) : Prop where
  ini : PySem.W.excInitIn K C bmB nw = true
  ov : PySem.W.excOver K C bmB = true
  sa : PySem.W.findIn K (.ref C) "__setattr__" = some (some (.builtin "object.__setattr__"))
  kC : PySem.W.keepIn K (.ref C) = true
  dct : PySem.W.hasDictIn K C = true
theorem Xc.cls {K : PySem.W.Frag} {C : Addr} {bmB : List Value} {nw : String} (T : Xc K C bmB nw) : ∃ cd, PySem.W.clsIn K C = some cd ∧ cd.hasDict = true := by
  obtain ⟨cd, h1, h2⟩ := PySem.W.any_some T.dct
  exact ⟨cd, h1, h2⟩
section
variable {X : Cx} {pins : List (Addr × Obj)} {σ : L2.St} {H : Hp} {s : Shared} {a C dx : Addr} {f : Str} {y : V} {u : Value} {fs : List (Str × V)} {bmB : List Value} {B nw : String} {Q : Unit → Shared → Prop} {E : Value → Shared → Prop} {A : Around}
open Builtin Builtin.ObjectAttr in
theorem set_first (SF : StoreFacts B bmB "object.__setattr__" "object") (T : Xc X.K C bmB nw) (I : Inv X pins σ H s) (e : H a = some (exo a C none)) (ht : PySem.W.takerIn X.K C f = some none) (ry : RelV y u)
    (h : ∀ dx s', H dx = none → dx ≠ a → Inv X pins σ (upd (upd H dx (exd dx [(f, y)])) a (exo a C (some dx))) s' → Q () s') : wpAny (model X.prog X.w) A (setAttr (.ref a) f u) Q E s := by
  obtain ⟨cd, hcl, hdd⟩ := T.cls
  obtain ⟨t1, ho⟩ := exo_at I.hok e
  have X0 := I.kIn
  obtain ⟨hp, g, d, t, os⟩ := s
  have J : PySem.W.InstAt hp a { cls := .ref C, dict := none, data := .fields #[.ref t1, .none, .none, .none, .bool false, .none] } C none := ⟨ho, rfl, rfl, trivial⟩
  refine PySem.W.set_plain X0 J T.sa ?_
  refine PySem.W.osa_openX SF X0 J T.ov ht fun b => ?_
  have Lc : PySem.W.Looks (model X.prog X.w) hp (classData C) cd := PySem.W.looks_clsIn X0 hcl
  obtain ⟨nm, bs, mro, ns, qn, hd, sn, sb, ab, col, dl⟩ := cd
  dsimp only at hdd
  subst hdd
  have nx : a ≠ hp.objs.size := Nat.ne_of_lt (Heap.lt_size ho)
  show wpAny _ _ (storeInOwnDict (.ref a) (.ref C) (.str f _) f u b) _ _ _
  unfold storeInOwnDict ownDictForStores
  repeat (first | with_reducible refine PySem.HandSPX.store_in_new ?_ ?_ | with_reducible refine wpAny_loadPart_at ho ?_ | with_reducible refine Lc.at ?_ | wp_step)
  · exact ⟨_, #[], _, (Heap.get?_update_ne _ _ _ _ nx.symm).trans (Heap.get?_push_at rfl rfl), rfl, fun q hq => absurd hq (by simp), fun _ => rfl⟩
  · intro h1 tk1 n1 sb1
    have gx : h1.get? a = some { cls := .ref C, dict := some hp.objs.size, data := .fields #[.ref t1, .none, .none, .none, .bool false, .none] } := (sb1.2 a nx).trans (Heap.get?_update_self _ (Heap.get?_push_of_some _ ho) rfl)
    have kp : ∀ b o, b ≠ a → hp.get? b = some o → h1.get? b = some o := fun b o nb q => (sb1.2 b (Nat.ne_of_lt (Heap.lt_size q))).trans ((Heap.get?_update_ne _ _ _ _ nb).trans (Heap.get?_push_of_some _ q))
    have fr : H hp.objs.size = none := I.hok.fresh (Nat.le_refl _)
    have lt : ∀ {b o}, hp.get? b = some o → b ≠ hp.objs.size := fun q => Nat.ne_of_lt (Heap.lt_size q)
    have no : ∀ {b}, H b = none → b ≠ a := fun n z => by rw [z, e] at n; cases n
    -- what stands at b is not the exception, nor new
    have past : ∀ {b o}, H b = some o → o ≠ exo a C none → (upd (upd H hp.objs.size (exd hp.objs.size [(f, y)])) a (exo a C (some hp.objs.size))) b = some o := fun {b o} q n => by
      rw [upd_ne (at_ne e q n.symm), upd_ne (ne_of_none q fr)]
      exact q
    have un : Un X.fs [] H (upd (upd H hp.objs.size (exd hp.objs.size [(f, y)])) a (exo a C (some hp.objs.size))) hp h1 :=
      ⟨fun b o q n _ _ => kp b o (no n) q, fun b o q n _ _ => ⟨o.slots, kp b o (no n) q⟩, fun b o q n _ => by rw [upd_ne (no n), upd_ne (lt q)]; exact n,
       fun b o q _ => (Classical.em (b = a)).elim (fun z => ⟨_, z ▸ gx⟩) fun z => ⟨o, kp b o z q⟩, fun b xs q => past q exo_tup.symm, fun b o v q => past q exo_frz.symm, fun b ps q => ⟨#[], by rw [past q exo_tbl.symm]; simp⟩⟩
    refine h _ _ fr nx.symm (I.un (t' := tk1) un fun b o q => ?_)
    by_cases za : b = a
    · cases za
      rw [upd_same] at q
      cases q
      exact exo_ok gx
    · rw [upd_ne za] at q
      by_cases zd : b = hp.objs.size
      · cases zd
        rw [upd_same] at q
        cases q
        exact exd_ok n1 (relO_put (fs := []) ry fun _ => trivial)
      · rw [upd_ne zd] at q
        refine (I.hok b o q).stay (fun c v hc z => kp c v ?_ z) (fun c hc => past hc exo_own.symm) (fun c xs hc => past hc exo_tup.symm)
        rcases hc with rfl | hc
        · exact za
        · exact at_ne e hc exo_own
open Builtin Builtin.ObjectAttr in
theorem set_more (SF : StoreFacts B bmB "object.__setattr__" "object") (T : Xc X.K C bmB nw) (I : Inv X pins σ H s) (e : H a = some (exo a C (some dx))) (ed : H dx = some (exd dx fs)) (hl : fs.length ≤ 900) (ht : PySem.W.takerIn X.K C f = some none) (ry : RelV y u)
    (h : ∀ s', Inv X pins σ (upd H dx (exd dx ((f, y) :: fs))) s' → Q () s') : wpAny (model X.prog X.w) A (setAttr (.ref a) f u) Q E s := by
  obtain ⟨cd, hcl, hdd⟩ := T.cls
  obtain ⟨t1, ho⟩ := exo_at I.hok e
  obtain ⟨m0, ns0, rel⟩ := exd_at I.hok ed
  have wi := within_of rel
  have X0 := I.kIn
  obtain ⟨hp, g, d, t, os⟩ := s
  obtain ⟨o2, _, _, ho2, _, _⟩ := ns0.count wi
  have J : PySem.W.InstAt hp a { cls := .ref C, dict := some dx, data := .fields #[.ref t1, .none, .none, .none, .bool false, .none] } C (some o2) := ⟨ho, rfl, rfl, ho2⟩
  refine PySem.W.set_plain X0 J T.sa ?_
  refine PySem.W.osa_openX SF X0 J T.ov ht fun b => ?_
  have Lc : PySem.W.Looks (model X.prog X.w) hp (classData C) cd := PySem.W.looks_clsIn X0 hcl
  obtain ⟨nm, bs, mro, ns, qn, hd, sn, sb, ab, col, dl⟩ := cd
  dsimp only at hdd
  subst hdd
  show wpAny _ _ (storeInOwnDict (.ref a) (.ref C) (.str f _) f u b) _ _ _
  unfold storeInOwnDict ownDictForStores
  repeat (first | with_reducible refine PySem.OEX.store_in_old ns0 wi (by rw [List.length_map]; omega) ?_ | with_reducible refine wpAny_loadPart_at ho ?_ | with_reducible refine Lc.at ?_ | wp_step)
  intro h1 tk1 n1 sb1
  refine h _ (I.write (t' := tk1) (x := dx) (e := dx) (o := exd dx ((f, y) :: fs)) (by rw [ed]; trivial) (.inl rfl) (fun b o nb q => (sb1.2 b nb).trans q) ?_ (exd_ok n1 (relO_put ry rel)))
  obtain ⟨o, _, _, q, _⟩ := n1
  exact ⟨o, q⟩
end
/-- self.f = e within __init__ -/
def tSetX (K : PySem.W.Frag) (bmB : List Value) (nw : String) (f : Str) (to te : TE) : TS := fun D σ H => te σ H fun y H1 => to σ H1 fun x H2 => ∃ a C : Addr, x = .ref a ∧ Xc K C bmB nw ∧ PySem.W.takerIn K C f = some none ∧
  ((H2 a = some (exo a C none) ∧ ∀ dx, H2 dx = none → dx ≠ a → D.nx σ (upd (upd H2 dx (exd dx [(f, y)])) a (exo a C (some dx)))) ∨
    ∃ (dx : Addr) (fs : List (Str × V)), H2 a = some (exo a C (some dx)) ∧ H2 dx = some (exd dx fs) ∧ fs.length ≤ 900 ∧ D.nx σ (upd H2 dx (exd dx ((f, y) :: fs))))
/-- C(..), C's own __init__ keeping sp: the exception itself -/
def tNewX (C : Addr) (sp : Sp) (ta : TA) : TE := fun σ H Q => ta σ H fun vs H1 => vs.length ≤ 1000 ∧ ∀ a, H1 a = none → sp (.ref a :: vs) (upd H1 a (exo a C none)) (fun v H2 => v = .non ∧ Q (.ref a) H2) E0
section
variable {X : Cx} {o e : Expr} {es : List Expr} {to te : TE} {ta : TA} {f : Str} {p p' pos : Pos} {bmB : List Value} {B nw ini : String} {C : Addr}
theorem ps_setX (SF : StoreFacts B bmB "object.__setattr__" "object") (ho : PE X o to) (he : PE X e te) (hs : swapsWith e (some (.Attribute o f p')) pos.line X.env = pure false := by rfl) : PS X (.Assign [.Attribute o f p'] e pos) (tSetX X.K bmB nw f to te) := by
  refine ⟨fun pins s σ H D I h => plainObj_wpAny_Assign_Attribute (thn (he.run pins s σ H _ I h) fun v s1 ⟨y, H1, I1, r1, q1⟩ => thn (ho.run pins s1 σ H1 _ I1 q1) fun u s2 ⟨x, H2, I2, r2, a, C, ex, T, ht, q⟩ => ?_) hs⟩
  subst ex
  obtain rfl : u = Value.ref a := r2
  rcases q with ⟨ea, q⟩ | ⟨dx, fs, ea, ed, hl, q⟩
  · exact set_first SF T I2 ea ht r1 fun dx s3 n ne J => ⟨σ, _, J, q dx n ne⟩
  · exact set_more SF T I2 ea ed hl ht r1 fun s3 J => ⟨σ, _, J, q⟩
/-- an own class with an own __init__ -/
structure Xi (P : Program) (w : World) (K : PySem.W.Frag) (mg : Str → Option Value) (base : Heap) (k : Nat) (C : Addr) (ps : List Str) (sp : Sp) : Prop where
  ex : ∃ (fI : Addr) (fd : FuncData), FnOk P w K mg base CX0 k fI fd ps sp ∧ PySem.W.findIn K (.ref C) "__init__" = some (some (.ref fI)) ∧ PySem.W.typeIn K (.ref fI) = some (.type "function") ∧ Binds K fd ps []
theorem pe_newX {x : Str} {k : Nat} {ps : List Str} {sp : Sp} (FB : ExcBaseFacts B nw ini bmB) (T : Xc X.K C bmB nw) (D : Xi X.prog X.w X.K X.mg X.base k C ps sp) (hr : Room (k + 1) X.A) (hm : X.mg x = some (.ref C)) (ha : PA X (e :: es) ta) (hg : Gl X x := by rfl)
    (hdb : (x == ("__debug__" : Str)) = false := by decide) (he : starEach (e :: es) X.env = (false, eval e X.env) :: starEach es X.env := by rfl) (hpl : (backTo pos (starEach es X.env)).any (·.1) = false := by rfl) :
    PE X (.Call (.Name x p) (e :: es) [] pos) (tNewX C sp ta) := by
  obtain ⟨fI, fd, F1, iC, tI, hb⟩ := D.ex
  refine ⟨fun pins s σ H Q I h => wpAny_Call_Name_kw (ld_glob I hg hm ?_ hdb)⟩
  refine PySem.W.callWith_K (h₀ := X.base) I.ok.mod.kin T.kC (thn (ha.run pos pins s σ H _ I h) fun us s1 ⟨vs, H1, I1, r1, hz, q1⟩ => ⟨I1.kIn, ?_⟩) he hpl
  show wpAny _ _ (call (.ref C) us) _ _ _
  obtain ⟨nm, N, qn, bs, bm, hd, sn, sb, ab, col, dd, k0, k1, k2, k3, k5, hC, hT⟩ := PySem.W.excInit_of I1.kIn T.ini
  obtain ⟨hp, g, dr, tk, os⟩ := s1
  have lz : us.length ≤ sizeLine := by rw [← r1.length, sizeLine_eq]; omega
  have fr : H1 (hp.objs.size + 1) = none := I1.hok.fresh (Nat.le_succ _)
  have J : Inv X pins σ (upd H1 (hp.objs.size + 1) (exo (hp.objs.size + 1) C none)) ⟨(hp.push (PySem.W.kdv_tup us)).push (PySem.HandSPX.excO C hp.objs.size), g, dr, tk, os⟩ :=
    I1.laid (t' := tk) (fun b o q => Heap.get?_push_of_some _ (Heap.get?_push_of_some _ q)) (Nat.le_succ _) (exo_ok (by heap_get))
  have q2 := q1 _ fr
  have rv : Vals (V.ref (hp.objs.size + 1) :: vs) (Value.ref (hp.objs.size + 1) :: us) := .cons rfl r1
  have ln : (Value.ref (hp.objs.size + 1) :: us ++ []).length = ps.length := by
    rw [List.append_nil, ← rv.length]
    exact F1.len _ _ _ _ q2
  have bi := hb ⟨(hp.push (PySem.W.kdv_tup us)).push (PySem.HandSPX.excO C hp.objs.size), g, dr, tk, os⟩ _ J.kIn ln
  rw [List.append_nil] at bi
  refine wpAny_call (PySem.HandSPX.call_own FB hT hC (PySem.W.looks_findIn I1.kIn iC) (fun self => PySem.W.bind_fn I1.kIn self tI) lz (codeAny_mono (F1.run _ X.stack _ _ ⟨Value.ref (hp.objs.size + 1) :: us, []⟩ (Value.ref (hp.objs.size + 1) :: us) _ _ E0 (hr.make C us []) (J.env0.make C us []) bi rv q2) fun r s' z => ?_))
  cases r with
  | error er => exact z.elim
  | ok fl =>
    cases fl with
    | ret u =>
      obtain ⟨v, H2, I2, r2, ev, q3⟩ := J.after z
      subst ev
      exact ⟨r2, .ref (hp.objs.size + 1), H2, I2, rfl, q3⟩
    | next => exact z.elim
    | brk => exact z.elim
    | cont => exact z.elim
/-- what the class must say so that its exceptions are read and asked -/
structure Xr (K : PySem.W.Frag) (C : Addr) : Prop where
  ga : PySem.W.findIn K (.ref C) "__getattribute__" = some (some (.builtin "BaseException.__getattribute__"))
  gg : PySem.W.findIn K (.ref C) "__getattr__" = some none
  sb : PySem.W.subIn K (.ref C) (.type "BaseException") = some true
  dct : PySem.W.hasDictIn K C = true
  cl : PySem.W.findIn K (.ref C) "__class__" = some (some (.builtin "object.__class__"))
  gs : PySem.W.specialIn K (.builtin "object.__class__") "__get__" = some (some (.builtin "getset_descriptor.__get__"))
  tk : PySem.W.takesIn K (.builtin "object.__class__") = some true
  ob : PySem.W.mroIn K C (.type "object") = some true
/-- e.f -/
def tFld (K : PySem.W.Frag) (f : Str) (te : TE) : TE := fun σ H Q => te σ H fun x H1 => ∃ (a C d : Addr) (fs : List (Str × V)) (v : V), x = .ref a ∧ Xr K C ∧ PySem.W.findIn K (.ref C) f = some none ∧ H1 a = some (exo a C (some d)) ∧ H1 d = some (exd d fs) ∧ fs.lookup f = some v ∧ Q v H1
theorem pe_fld (he : PE X e te) (hb : attributeBase e f X.env (eval e X.env) = eval e X.env := by rfl) : PE X (.Attribute e f pos) (tFld X.K f te) := by
  refine ⟨fun pins s σ H Q I h => attr_of hb (thn (he.run pins s σ H _ I h) fun u s1 ⟨x, H1, I1, rx, a, C, d, fs, v, ex, T, no, ea, ed, l, q⟩ => ?_)⟩
  subst ex
  obtain rfl : u = Value.ref a := rx
  obtain ⟨t1, ho⟩ := exo_at I1.hok ea
  obtain ⟨mA, ns, rl⟩ := exd_at I1.hok ed
  obtain ⟨od, hd, lk⟩ := lookIn_ns ns
  obtain ⟨z, hz, rz⟩ := RelO.some_of (v := v) (o := mA f) (by rw [← l]; exact rl f)
  have J : PySem.W.InstAt s1.heap a _ C (some od) := ⟨ho, rfl, rfl, hd⟩
  exact PySem.HandSPX.exc_get I1.kIn J T.ga T.gg T.sb (PySem.W.findObj_own T.dct no rfl (by rw [lk, hz])) (handed_of rz) ⟨v, H1, I1.tok _, rz, q⟩
/-- isinstance(e, c) -/
def rIsX (K : PySem.W.Frag) : List V → Hp → VK → Prop := fun xs H Q => ∃ (a C : Addr) (d : Option Addr) (c : V) (cv : Value) (b : Bool), xs = [.ref a, c] ∧ Xr K C ∧ H a = some (exo a C d) ∧ (∀ x, d = some x → ∃ fs, H x = some (exd x fs)) ∧ (∀ u, RelV c u → u = cv) ∧ PySem.W.kitOne K (.ref C) cv = some b ∧ Q (.bl b) H
theorem call_isX : CallR X (.builtin "isinstance") (rIsX X.K) := by
  intro pins s σ H xs us Q I r ⟨a, C, d, c, cv, b, exs, T, ea, hd, hc, e, q⟩
  subst exs
  cases r with
  | cons ra rr =>
    cases rr with
    | cons rc rr =>
      cases rr
      cases ra
      cases hc _ rc
      obtain ⟨t1, ho⟩ := exo_at I.hok ea
      obtain ⟨od, J⟩ : ∃ od, PySem.W.InstAt s.heap a { cls := .ref C, dict := d, data := .fields #[.ref t1, .none, .none, .none, .bool false, .none] } C od := by
        cases d with
        | none => exact ⟨none, ho, rfl, rfl, trivial⟩
        | some x =>
          obtain ⟨fs, hx⟩ := hd x rfl
          obtain ⟨mA, ns, _⟩ := exd_at I.hok hx
          obtain ⟨od, ho2, _⟩ := lookIn_ns ns
          exact ⟨some od, ho, rfl, rfl, ho2⟩
      have cl : (PySem.W.clsIn X.K C).isSome = true := by
        obtain ⟨cd, h1, _⟩ := PySem.W.any_some T.dct
        rw [h1]
        rfl
      exact PySem.W.kia_one (PySem.W.kitx_exc cl T.ga T.gg T.sb T.cl T.gs T.tk T.ob) I.kIn J e (fun z => nomatch z) fun tk => ⟨.bl b, H, I.kept (t' := tk) fun _ _ z => z, rfl, q⟩
end
end L3

/-! own exceptions made by keywords; those without an own __init__ -/
namespace L3
open PySem PySem.Spec PyProof.Rows L2 PySem.Calls
section
variable {prog : Program} {w : World} {A : Around} {E : Value → Shared → Prop} {R : Result → Shared → Prop} {h : Heap} {g : Array GenState} {d : Drawn} {t : Nat} {os : OsState} {kw : List (Str × Value)}
variable {nm q : Str} {C N fI : Addr} {bs bm bmB : List Value} {hdct : Bool} {sn : List Str} {sub : List Value} {ab : Bool} {col : Option Bool} {dd : Option Addr} {k0 k1 k2 k3 k5 : Option Value} {B nw ini : String}
theorem kw_new (F : ExcBaseFacts B nw ini bmB) (hT : ∀ X : String, bm.contains (.type X) = bmB.contains (.type X)) (hC : h.get? C = some (excClassObj nm q C N bs bm hdct sn sub ab col dd k0 k1 k2 k3 k5 nw))
    (k : R (.ok (.ret (.ref (h.objs.size + 1)))) ⟨(h.push (PySem.W.kdv_tup [])).push (PySem.HandSPX.excO C h.objs.size), g, d, t, os⟩) : codeAny (model prog w) A (.builtin nw ⟨[.ref C], kw⟩) R ⟨h, g, d, t, os⟩ := by
  have e0 := F.ends
  have e1 : (Value.ref C :: bm).contains (.type B) = true := by rw [List.contains_cons, hT B, F.hasB, Bool.or_true]
  have e2 : (Value.ref C :: bm).contains (.type "AttributeError") = false := by rw [List.contains_cons, hT "AttributeError", F.noAttr] <;> rfl
  have e3 : (Value.ref C :: bm).contains (.type "NameError") = false := by rw [List.contains_cons, hT "NameError", F.noName] <;> rfl
  refine codeAny_builtinAt F.entry ?_
  unfold Builtin.«BaseException.__new__»
  refine PySem.wpAt_bind ?_
  show PySem.wpAt _ _ _ (stack >>= _) _ _ _
  refine PySem.wpAt_bind (PySem.wpAt_stack fun p below => PySem.wpAt_of_wpAny ?_)
  wp_walk
  refine PySem.wpAt_of_wpAny ?_
  rw [F.owner]
  repeat (first
    | with_reducible refine wpAny_madeHere_exc F.canon hC ?_
    | with_reducible refine wpAny_loadPart_at hC ?_
    | (with_reducible refine wpAny_isSubtype_exc hC ?_; first | rw [e1] | rw [e2] | rw [e3])
    | wp_step)
  show R _ _
  rw [Heap.size_push]
  exact k
theorem kw_check (F : ExcBaseFacts B nw ini bmB) (hT : ∀ X : String, bm.contains (.type X) = bmB.contains (.type X)) {M : Model} {Q : Unit → Shared → Prop} (hC : h.get? C = some (excClassObj nm q C N bs bm hdct sn sub ab col dd k0 k1 k2 k3 k5 nw))
    (k : Q () ⟨h, g, d, t, os⟩) : wpAny M A (checkBuiltinCall nw ⟨[.ref C], kw⟩) Q E ⟨h, g, d, t, os⟩ := by
  have e1 : (Value.ref C :: bm).contains (.type B) = true := by rw [List.contains_cons, hT B, F.hasB, Bool.or_true]
  have e0 := F.noStar
  simp only [checkBuiltinCall, F.newSplit, F.newKind, F.newRow]
  repeat (first
    | refine wpAny_loadPart_at hC ?_
    | (refine wpAny_isSubtype_exc hC ?_; rw [e1])
    | refine wpAny_staticBase_exc hC ?_
    | refine wpAny_madeBy_exc hC ?_
    | simp only [bne_self_eq_false, Bool.false_eq_true, if_false]
    | wp_step)
  exact k
theorem kw_check2 {M : Model} {Q : Unit → Shared → Prop} (hC : h.get? C = some (excClassObj nm q C N bs bm hdct sn sub ab col dd k0 k1 k2 k3 k5 nw)) (k : Q () ⟨h, g, d, t, os⟩) : wpAny M A (checkBuiltinCall "type.__call__" ⟨[.ref C], kw⟩) Q E ⟨h, g, d, t, os⟩ := by
  have f3 := PySem.tc_sub
  have ty : (⟨h, g, d, t, os⟩ : Shared).TypeIs (.ref C) "type" := ⟨_, hC, rfl⟩
  simp only [checkBuiltinCall, PySem.tc_kind, PySem.tc_split]
  repeat (any_goals (first
    | assumption
    | with_reducible refine wpAny_loadPart_at hC ?_
    | with_reducible refine wpAny_onRaise ?_
    | with_reducible refine wpAny_map ?_
    | wp_step))
theorem kw_type (F : ExcBaseFacts B nw ini bmB) (hT : ∀ X : String, bm.contains (.type X) = bmB.contains (.type X)) {Q : Fin → Shared → Prop} (hC : h.get? C = some (excClassObj nm q C N bs bm hdct sn sub ab col dd k0 k1 k2 k3 k5 nw))
    (hi : PySem.W.Looks (model prog w) h (typeLookup (.ref C) "__init__") (some (.ref fI))) (hb : ∀ me, PySem.W.Looks (model prog w) h (bindSpecial (.ref fI) me) (.ref fI, [me]))
    (k : codeAny (model prog w) A (.call (.ref fI) ⟨[.ref (h.objs.size + 1)], kw⟩) (fun r s' => match r with | .ok (.ret v) => v = .none ∧ Q (.done (.ret (.ref (h.objs.size + 1)))) s' | .ok _ => False | .error e => E e s')
      ⟨(h.push (PySem.W.kdv_tup [])).push (PySem.HandSPX.excO C h.objs.size), g, d, t, os⟩) :
    wpAny (model prog w) A (Builtin.«type.__call__» ⟨[.ref C], kw⟩) Q E ⟨h, g, d, t, os⟩ := by
  repeat (first
    | with_reducible refine wpAny_loadPart_at hC ?_
    | with_reducible refine wpAny_madeBy_exc hC ?_
    | wp_step)
  refine codeAny_call_builtin_code (Code.quiet_builtin _ F.quiet) (kw_check F hT hC (kw_new F hT hC ?_))
  show wpAny _ _ _ _ _ _
  have kp : ∀ b o, h.get? b = some o → ((h.push (PySem.W.kdv_tup [])).push (PySem.HandSPX.excO C h.objs.size)).get? b = some o := fun b o z => Heap.get?_push_of_some _ (Heap.get?_push_of_some _ z)
  have gC := kp _ _ hC
  have ge : ((h.push (PySem.W.kdv_tup [])).push (PySem.HandSPX.excO C h.objs.size)).get? (h.objs.size + 1) = some (PySem.HandSPX.excO C h.objs.size) := by heap_get
  have e4 : (Value.ref C :: bm).contains (.ref C) = true := by simp
  unfold isInstance
  repeat (first
    | with_reducible refine wpAny_loadPart_at ge ?_
    | (with_reducible refine wpAny_isSubtype_exc gC ?_; rw [e4])
    | wp_step)
  show wpAny _ _ (typeLookup (.ref C) _) _ _ _
  refine (hi.keeps kp).at (wpAny_holding (wpAny_bind (((hb (.ref (h.objs.size + 1))).keeps kp).at (wpAny_bind (wpAny_call (codeAny_mono k fun r s' z => ?_))))))
  rcases r with e | (v | _ | _ | _) <;> first | exact z | exact z.elim | skip
  obtain ⟨rfl, z⟩ := z
  first
    | exact wpAny_pure (wpAny_pure z)
    | (wp_walk; exact z)
theorem kw_call (F : ExcBaseFacts B nw ini bmB) (hT : ∀ X : String, bm.contains (.type X) = bmB.contains (.type X)) (hC : h.get? C = some (excClassObj nm q C N bs bm hdct sn sub ab col dd k0 k1 k2 k3 k5 nw))
    (hi : PySem.W.Looks (model prog w) h (typeLookup (.ref C) "__init__") (some (.ref fI))) (hb : ∀ me, PySem.W.Looks (model prog w) h (bindSpecial (.ref fI) me) (.ref fI, [me]))
    (k : codeAny (model prog w) (A.under (.builtin "type.__call__" ⟨[.ref C], kw⟩)) (.call (.ref fI) ⟨[.ref (h.objs.size + 1)], kw⟩) (PySem.W.InitBack (h.objs.size + 1) R)
      ⟨(h.push (PySem.W.kdv_tup [])).push (PySem.HandSPX.excO C h.objs.size), g, d, t, os⟩) :
    codeAny (model prog w) A (.call (.ref C) ⟨[], kw⟩) R ⟨h, g, d, t, os⟩ := by
  have f1 := PySem.tc_lookup
  have f2 := PySem.tc_bind (.ref C)
  have ty : (⟨h, g, d, t, os⟩ : Shared).TypeIs (.ref C) "type" := ⟨_, hC, rfl⟩
  refine codeAny_of_tree ?_
  show wpAny _ _ (callAny (.ref C) _) _ _ _
  repeat (any_goals (first
    | assumption
    | with_reducible refine wpAny_loadPart_at hC ?_
    | wp_step))
  refine ⟨rfl, codeAny_call_builtin_at (Code.quiet_builtin _ (by decide +kernel)) entry_typeCall (kw_check2 hC (kw_type F hT hC hi hb (codeAny_mono k fun r s' z => ?_)))⟩
  rcases r with e | (v | _ | _ | _) <;> exact z
end
end L3

/-! rules: C(x=..), C() without an own __init__ -/
namespace L3
open PySem PySem.Spec PyProof.Rows L2
/-- an own class whose own __init__ is given keywords -/
structure Xk (P : Program) (w : World) (K : PySem.W.Frag) (mg : Str → Option Value) (base : Heap) (k : Nat) (C : Addr) (ps ks : List Str) (sp : Sp) (g : List Value → List Value → List Value) (gV : List V → List V → List V) : Prop where
  ex : ∃ (fI : Addr) (fd : FuncData), FnOk P w K mg base CX0 k fI fd ps sp ∧ PySem.W.findIn K (.ref C) "__init__" = some (some (.ref fI)) ∧ PySem.W.typeIn K (.ref fI) = some (.type "function") ∧ KBinds K fd ps ks g gV
/-- C(x=..): the exception itself -/
def tNewK (C : Addr) (sp : Sp) (gV : List V → List V → List V) (tk : TA) : TE := fun σ H Q => tk σ H fun zs H1 => ∀ a, H1 a = none → sp (gV [.ref a] zs) (upd H1 a (exo a C none)) (fun v H2 => v = .non ∧ Q (.ref a) H2) E0
section
variable {X : Cx} {e : Expr} {tk : TA} {kws : List Keyword} {p pos : Pos} {bmB : List Value} {B nw ini : String} {C : Addr}
theorem pe_newK {x : Str} {k : Nat} {ps ks : List Str} {sp : Sp} {g : List Value → List Value → List Value} {gV : List V → List V → List V} (FB : ExcBaseFacts B nw ini bmB) (T : Xc X.K C bmB nw) (D : Xk X.prog X.w X.K X.mg X.base k C ps ks sp g gV) (hr : Room (k + 1) X.A) (hm : X.mg x = some (.ref C)) (hkw : PK X kws tk) (hg : Gl X x := by rfl)
    (hdb : (x == ("__debug__" : Str)) = false := by decide) (hall : (backToKw pos (keywordEach kws X.env)).all (·.1.isSome) = true := by rfl) (hks : (backToKw pos (keywordEach kws X.env)).filterMap (·.1) = ks := by rfl)
    (hpl : ((backTo pos (starEach [] X.env)).any (·.1) || (backToKw pos (keywordEach kws X.env)).any (·.1.isNone)) = false := by rfl) : PE X (.Call (.Name x p) [] kws pos) (tNewK C sp gV tk) := by
  obtain ⟨fI, fd, F1, iC, tI, hb⟩ := D.ex
  refine ⟨fun pins s σ H Q I h => wpAny_Call_Name_kw (ld_glob I hg hm ?_ hdb)⟩
  refine PySem.W.callWith_KW0 (h₀ := X.base) I.ok.mod.kin T.kC hall (thn (hkw.run pos pins s σ H _ I h) fun ws s1 ⟨zs, H1, I1, rz, q1⟩ => ⟨I1.kIn, ?_⟩) hpl
  rw [hks]
  show wpAny _ _ (call (.ref C) [] (ks.zip ws)) _ _ _
  obtain ⟨nm, N, qn, bs, bm, hd, sn, sb, ab, col, dd, k0, k1, k2, k3, k5, hC, hT⟩ := PySem.W.excInit_of I1.kIn T.ini
  obtain ⟨hp, gg, dr, t, os⟩ := s1
  have fr : H1 (hp.objs.size + 1) = none := I1.hok.fresh (Nat.le_succ _)
  have J : Inv X pins σ (upd H1 (hp.objs.size + 1) (exo (hp.objs.size + 1) C none)) ⟨(hp.push (PySem.W.kdv_tup [])).push (PySem.HandSPX.excO C hp.objs.size), gg, dr, t, os⟩ :=
    I1.laid (t' := t) (fun b o q => Heap.get?_push_of_some _ (Heap.get?_push_of_some _ q)) (Nat.le_succ _) (exo_ok (by heap_get))
  have q2 := q1 _ fr
  have rv : Vals (gV [V.ref (hp.objs.size + 1)] zs) (g [Value.ref (hp.objs.size + 1)] ws) := hb.rel (.cons rfl .nil) rz
  have ln : (g [Value.ref (hp.objs.size + 1)] ws).length = ps.length := by
    rw [← rv.length]
    exact F1.len _ _ _ _ q2
  have bi := hb.to ⟨(hp.push (PySem.W.kdv_tup [])).push (PySem.HandSPX.excO C hp.objs.size), gg, dr, t, os⟩ [Value.ref (hp.objs.size + 1)] ws J.kIn ln
  refine wpAny_call (kw_call FB hT hC (PySem.W.looks_findIn I1.kIn iC) (fun me => PySem.W.bind_fn I1.kIn me tI) (codeAny_mono (F1.run _ X.stack _ _ ⟨[Value.ref (hp.objs.size + 1)], ks.zip ws⟩ _ _ _ E0 (hr.make C [] (ks.zip ws)) (J.env0.make C [] (ks.zip ws)) bi rv q2) fun r s' z => ?_))
  cases r with
  | error er => exact z.elim
  | ok fl =>
    cases fl with
    | ret u =>
      obtain ⟨v, H2, I2, r2, ev, q3⟩ := J.after z
      subst ev
      exact ⟨r2, .ref (hp.objs.size + 1), H2, I2, rfl, q3⟩
    | next => exact z.elim
    | brk => exact z.elim
    | cont => exact z.elim
theorem pe_new0 {x : Str} (FB : ExcBaseFacts B nw ini bmB) (q : PySem.W.excIn X.K C bmB nw = true) (hm : X.mg x = some (.ref C)) (kC : PySem.W.keepIn X.K (.ref C) = true) (hg : Gl X x := by rfl) (hdb : (x == ("__debug__" : Str)) = false := by decide) :
    PE X (.Call (.Name x p) [] [] pos) (fun _ H Q => ∀ a, H a = none → Q (.ref a) (upd H a (exo a C none))) := by
  refine ⟨fun pins s σ H Q I h => wpAny_Call_Name_kw (ld_glob I hg hm ?_ hdb)⟩
  refine PySem.W.callWith_KW0 (h₀ := X.base) (kws := []) I.ok.mod.kin kC rfl ?_ rfl
  show wpAny _ _ (evalAll []) _ _ _
  refine wpAny_pure ⟨I.kIn, ?_⟩
  show wpAny _ _ (call (.ref C) []) _ _ _
  obtain ⟨bm, N, nm, qn, bs, hd, sn, sb, ab, col, dd, k0, k1, k2, k3, k5, mN, hC, hN, hni, T⟩ := exc_obj I.kIn q
  refine wpAny_call_exc_subT FB T hC hN hni (fun h' a hm2 => ?_) (Nat.zero_le _)
  have fr : H a = none := I.hok.gone hm2.new
  obtain ⟨t, ht, _, _⟩ := hm2.there
  exact ⟨.ref a, _, I.laidN (o := exo a C none) hm2.keeps hm2.new fr (exo_ok ht), rfl, h a fr⟩
end
end L3

namespace L3
open PySem L2
def inS (s : Stmt) (j : Nat) : Stmt := match s with
  | .ClassDef _ _ _ body _ _ _ _ _ _ _ => body.getD j (.Pass ⟨0, 0, 0, 0⟩)
  | s => s
/-! the error classes -/
abbrev mroV : List Value := [.type "ValueError", .type "Exception", .type "BaseException", .type "object"]
abbrev mroL : List Value := [.type "LookupError", .type "Exception", .type "BaseException", .type "object"]
abbrev mroR : List Value := [.type "RuntimeError", .type "Exception", .type "BaseException", .type "object"]
def spI1 (K : PySem.W.Frag) (bm : List Value) (nw : String) (f : Str) : Sp := fun vs H Q _ => ∃ (a C : Addr) (v : V), vs = [.ref a, v] ∧ Xc K C bm nw ∧ PySem.W.takerIn K C f = some none ∧ H a = some (exo a C none) ∧ ∀ d, H d = none → d ≠ a → Q .non (upd (upd H d (exd d [(f, v)])) a (exo a C (some d)))
def spI2 (K : PySem.W.Frag) (bm : List Value) (nw : String) (f g : Str) : Sp := fun vs H Q _ => ∃ (a C : Addr) (v u : V), vs = [.ref a, v, u] ∧ Xc K C bm nw ∧ PySem.W.takerIn K C f = some none ∧ PySem.W.takerIn K C g = some none ∧ H a = some (exo a C none) ∧
  ∀ d, H d = none → d ≠ a → Q .non (upd (upd (upd H d (exd d [(f, v)])) a (exo a C (some d))) d (exd d [(g, u), (f, v)]))
/-! how their arguments stand when they are given by keywords -/
def g1 : List Value → List Value → List Value
  | [s], [x] => [s, x]
  | _, _ => []
def gV1 : List V → List V → List V
  | [s], [x] => [s, x]
  | _, _ => []
def g2 : List Value → List Value → List Value
  | [s], [x, y] => [s, y, x]
  | _, _ => []
def gV2 : List V → List V → List V
  | [s], [x, y] => [s, y, x]
  | _, _ => []
theorem kb1 {K : PySem.W.Frag} {fd : FuncData} {f : Str} (h : ∀ (s : Shared) (a b : Value), BindsTo s fd ⟨[a], [(f, b)]⟩ [("self", a), (f, b)]) : KBinds K fd ["self", f] [f] g1 gV1 where
  to := fun s us ws _ hl => by
    match us, ws, hl with
    | [a], [b], _ => exact h s a b
    | [], _, hl => cases hl
    | [_], [], hl => cases hl
    | [_], _ :: _ :: _, hl => cases hl
    | _ :: _ :: _, _, hl => cases hl
  rel := fun r rz => by
    cases r with
    | nil => exact .nil
    | cons a r =>
      cases r with
      | nil =>
        cases rz with
        | nil => exact .nil
        | cons b rz =>
          cases rz with
          | nil => exact .cons a (.cons b .nil)
          | cons => exact .nil
      | cons => exact .nil
theorem kb2 {K : PySem.W.Frag} {fd : FuncData} {f g : Str} (h : ∀ (s : Shared) (a b d : Value), BindsTo s fd ⟨[a], [(g, b), (f, d)]⟩ [("self", a), (f, d), (g, b)]) : KBinds K fd ["self", f, g] [g, f] g2 gV2 where
  to := fun s us ws _ hl => by
    match us, ws, hl with
    | [a], [b, d], _ => exact h s a b d
    | [], _, hl => cases hl
    | [_], [], hl => cases hl
    | [_], [_], hl => cases hl
    | [_], _ :: _ :: _ :: _, hl => cases hl
    | _ :: _ :: _, _, hl => cases hl
  rel := fun r rz => by
    cases r with
    | nil => exact .nil
    | cons a r =>
      cases r with
      | nil =>
        cases rz with
        | nil => exact .nil
        | cons b rz =>
          cases rz with
          | nil => exact .nil
          | cons d rz =>
            cases rz with
            | nil => exact .cons a (.cons d (.cons b .nil))
            | cons => exact .nil
      | cons => exact .nil
/-- a class of one field -/
structure E1 (P : Program) (w : World) (K : PySem.W.Frag) (mg : Str → Option Value) (base : Heap) (x f : Str) (bm : List Value) (nw : String) (C : Addr) : Prop where
  hm : mg x = some (.ref C)
  T : Xc K C bm nw
  R : Xr K C
  tk : PySem.W.takerIn K C f = some none
  no : PySem.W.findIn K (.ref C) f = some none
  I : Xi P w K mg base 1 C ["self", f] (spI1 K bm nw f)
  J : Xk P w K mg base 1 C ["self", f] [f] (spI1 K bm nw f) g1 gV1
  cd : ∃ cd, PySem.W.clsIn K C = some cd ∧ cd.mro = .ref C :: bm
  ty : PySem.W.typeIn K (.ref C) = some (.type "type")
/-- a class of two fields -/
structure E2 (P : Program) (w : World) (K : PySem.W.Frag) (mg : Str → Option Value) (base : Heap) (x f g : Str) (bm : List Value) (nw : String) (C : Addr) : Prop where
  hm : mg x = some (.ref C)
  T : Xc K C bm nw
  R : Xr K C
  tk : PySem.W.takerIn K C f = some none
  tk2 : PySem.W.takerIn K C g = some none
  no : PySem.W.findIn K (.ref C) f = some none
  no2 : PySem.W.findIn K (.ref C) g = some none
  I : Xi P w K mg base 1 C ["self", f, g] (spI2 K bm nw f g)
  J : Xk P w K mg base 1 C ["self", f, g] [g, f] (spI2 K bm nw f g) g2 gV2
  cd : ∃ cd, PySem.W.clsIn K C = some cd ∧ cd.mro = .ref C :: bm
  ty : PySem.W.typeIn K (.ref C) = some (.type "type")
/-- the class without fields -/
structure E0c (K : PySem.W.Frag) (mg : Str → Option Value) (x : Str) (bm : List Value) (nw : String) (C : Addr) : Prop where
  hm : mg x = some (.ref C)
  q : PySem.W.excIn K C bm nw = true
  kC : PySem.W.keepIn K (.ref C) = true
  R : Xr K C
  cd : ∃ cd, PySem.W.clsIn K C = some cd ∧ cd.mro = .ref C :: bm
  ty : PySem.W.typeIn K (.ref C) = some (.type "type")
section
variable {P : Program} {w : World} {K : PySem.W.Frag} {mg : Str → Option Value} {base : Heap}
abbrev s_InvalidForm___init__ : Stmt := inS (topS 1) 0
abbrev N_InvalidForm___init__ : List Str := ["self", "word"]
theorem sc_InvalidForm___init__ : FnScope N_InvalidForm___init__ ["self", "word"] (defScope s_InvalidForm___init__) := ⟨rfl, rfl, rfl, by decide +kernel, rfl, by decide +kernel, by decide +kernel⟩
theorem i_InvalidForm {f : Addr} {fd : FuncData} (F : Fun K "__init__" "InvalidForm.__init__" s_InvalidForm___init__ f fd) : FnOk P w K mg base CX0 1 f fd ["self", "word"] (spI1 K mroV "ValueError.__new__" "word") := by
  refine F.ok sc_InvalidForm___init__ (fun vs H Q E h => ?_) (fun cdv A outer s H vs Q E hr h => ?_)
  · obtain ⟨a, C, v, rfl, _⟩ := h
    rfl
  · obtain ⟨a, C, v, rfl, T, ht, ha, k⟩ := h
    exact ⟨_, (pss_one (ps_setX (nw := "ValueError.__new__") PySem.F.store_ValueError (pv 0) (pv 1))), _, rfl, _, rfl, a, C, rfl, T, ht, .inl ⟨ha, k⟩⟩
abbrev s_InvalidDeclaration___init__ : Stmt := inS (topS 2) 0
abbrev N_InvalidDeclaration___init__ : List Str := ["self", "index"]
theorem sc_InvalidDeclaration___init__ : FnScope N_InvalidDeclaration___init__ ["self", "index"] (defScope s_InvalidDeclaration___init__) := ⟨rfl, rfl, rfl, by decide +kernel, rfl, by decide +kernel, by decide +kernel⟩
theorem i_InvalidDeclaration {f : Addr} {fd : FuncData} (F : Fun K "__init__" "InvalidDeclaration.__init__" s_InvalidDeclaration___init__ f fd) : FnOk P w K mg base CX0 1 f fd ["self", "index"] (spI1 K mroV "ValueError.__new__" "index") := by
  refine F.ok sc_InvalidDeclaration___init__ (fun vs H Q E h => ?_) (fun cdv A outer s H vs Q E hr h => ?_)
  · obtain ⟨a, C, v, rfl, _⟩ := h
    rfl
  · obtain ⟨a, C, v, rfl, T, ht, ha, k⟩ := h
    exact ⟨_, (pss_one (ps_setX (nw := "ValueError.__new__") PySem.F.store_ValueError (pv 0) (pv 1))), _, rfl, _, rfl, a, C, rfl, T, ht, .inl ⟨ha, k⟩⟩
abbrev s_Repeated___init__ : Stmt := inS (topS 4) 0
abbrev N_Repeated___init__ : List Str := ["self", "index"]
theorem sc_Repeated___init__ : FnScope N_Repeated___init__ ["self", "index"] (defScope s_Repeated___init__) := ⟨rfl, rfl, rfl, by decide +kernel, rfl, by decide +kernel, by decide +kernel⟩
theorem i_Repeated {f : Addr} {fd : FuncData} (F : Fun K "__init__" "Repeated.__init__" s_Repeated___init__ f fd) : FnOk P w K mg base CX0 1 f fd ["self", "index"] (spI1 K mroV "ValueError.__new__" "index") := by
  refine F.ok sc_Repeated___init__ (fun vs H Q E h => ?_) (fun cdv A outer s H vs Q E hr h => ?_)
  · obtain ⟨a, C, v, rfl, _⟩ := h
    rfl
  · obtain ⟨a, C, v, rfl, T, ht, ha, k⟩ := h
    exact ⟨_, (pss_one (ps_setX (nw := "ValueError.__new__") PySem.F.store_ValueError (pv 0) (pv 1))), _, rfl, _, rfl, a, C, rfl, T, ht, .inl ⟨ha, k⟩⟩
abbrev s_BadArms___init__ : Stmt := inS (topS 5) 0
abbrev N_BadArms___init__ : List Str := ["self", "index"]
theorem sc_BadArms___init__ : FnScope N_BadArms___init__ ["self", "index"] (defScope s_BadArms___init__) := ⟨rfl, rfl, rfl, by decide +kernel, rfl, by decide +kernel, by decide +kernel⟩
theorem i_BadArms {f : Addr} {fd : FuncData} (F : Fun K "__init__" "BadArms.__init__" s_BadArms___init__ f fd) : FnOk P w K mg base CX0 1 f fd ["self", "index"] (spI1 K mroV "ValueError.__new__" "index") := by
  refine F.ok sc_BadArms___init__ (fun vs H Q E h => ?_) (fun cdv A outer s H vs Q E hr h => ?_)
  · obtain ⟨a, C, v, rfl, _⟩ := h
    rfl
  · obtain ⟨a, C, v, rfl, T, ht, ha, k⟩ := h
    exact ⟨_, (pss_one (ps_setX (nw := "ValueError.__new__") PySem.F.store_ValueError (pv 0) (pv 1))), _, rfl, _, rfl, a, C, rfl, T, ht, .inl ⟨ha, k⟩⟩
abbrev s_Misshapen___init__ : Stmt := inS (topS 6) 0
abbrev N_Misshapen___init__ : List Str := ["self", "index"]
theorem sc_Misshapen___init__ : FnScope N_Misshapen___init__ ["self", "index"] (defScope s_Misshapen___init__) := ⟨rfl, rfl, rfl, by decide +kernel, rfl, by decide +kernel, by decide +kernel⟩
theorem i_Misshapen {f : Addr} {fd : FuncData} (F : Fun K "__init__" "Misshapen.__init__" s_Misshapen___init__ f fd) : FnOk P w K mg base CX0 1 f fd ["self", "index"] (spI1 K mroV "ValueError.__new__" "index") := by
  refine F.ok sc_Misshapen___init__ (fun vs H Q E h => ?_) (fun cdv A outer s H vs Q E hr h => ?_)
  · obtain ⟨a, C, v, rfl, _⟩ := h
    rfl
  · obtain ⟨a, C, v, rfl, T, ht, ha, k⟩ := h
    exact ⟨_, (pss_one (ps_setX (nw := "ValueError.__new__") PySem.F.store_ValueError (pv 0) (pv 1))), _, rfl, _, rfl, a, C, rfl, T, ht, .inl ⟨ha, k⟩⟩
abbrev s_RoleRing___init__ : Stmt := inS (topS 7) 0
abbrev N_RoleRing___init__ : List Str := ["self", "index"]
theorem sc_RoleRing___init__ : FnScope N_RoleRing___init__ ["self", "index"] (defScope s_RoleRing___init__) := ⟨rfl, rfl, rfl, by decide +kernel, rfl, by decide +kernel, by decide +kernel⟩
theorem i_RoleRing {f : Addr} {fd : FuncData} (F : Fun K "__init__" "RoleRing.__init__" s_RoleRing___init__ f fd) : FnOk P w K mg base CX0 1 f fd ["self", "index"] (spI1 K mroV "ValueError.__new__" "index") := by
  refine F.ok sc_RoleRing___init__ (fun vs H Q E h => ?_) (fun cdv A outer s H vs Q E hr h => ?_)
  · obtain ⟨a, C, v, rfl, _⟩ := h
    rfl
  · obtain ⟨a, C, v, rfl, T, ht, ha, k⟩ := h
    exact ⟨_, (pss_one (ps_setX (nw := "ValueError.__new__") PySem.F.store_ValueError (pv 0) (pv 1))), _, rfl, _, rfl, a, C, rfl, T, ht, .inl ⟨ha, k⟩⟩
abbrev s_BadMembers___init__ : Stmt := inS (topS 8) 0
abbrev N_BadMembers___init__ : List Str := ["self", "index"]
theorem sc_BadMembers___init__ : FnScope N_BadMembers___init__ ["self", "index"] (defScope s_BadMembers___init__) := ⟨rfl, rfl, rfl, by decide +kernel, rfl, by decide +kernel, by decide +kernel⟩
theorem i_BadMembers {f : Addr} {fd : FuncData} (F : Fun K "__init__" "BadMembers.__init__" s_BadMembers___init__ f fd) : FnOk P w K mg base CX0 1 f fd ["self", "index"] (spI1 K mroV "ValueError.__new__" "index") := by
  refine F.ok sc_BadMembers___init__ (fun vs H Q E h => ?_) (fun cdv A outer s H vs Q E hr h => ?_)
  · obtain ⟨a, C, v, rfl, _⟩ := h
    rfl
  · obtain ⟨a, C, v, rfl, T, ht, ha, k⟩ := h
    exact ⟨_, (pss_one (ps_setX (nw := "ValueError.__new__") PySem.F.store_ValueError (pv 0) (pv 1))), _, rfl, _, rfl, a, C, rfl, T, ht, .inl ⟨ha, k⟩⟩
abbrev s_Grows___init__ : Stmt := inS (topS 9) 0
abbrev N_Grows___init__ : List Str := ["self", "index", "need"]
theorem sc_Grows___init__ : FnScope N_Grows___init__ ["self", "index", "need"] (defScope s_Grows___init__) := ⟨rfl, rfl, rfl, by decide +kernel, rfl, by decide +kernel, by decide +kernel⟩
theorem i_Grows {f : Addr} {fd : FuncData} (F : Fun K "__init__" "Grows.__init__" s_Grows___init__ f fd) : FnOk P w K mg base CX0 1 f fd ["self", "index", "need"] (spI2 K mroV "ValueError.__new__" "index" "need") := by
  refine F.ok sc_Grows___init__ (fun vs H Q E h => ?_) (fun cdv A outer s H vs Q E hr h => ?_)
  · obtain ⟨a, C, v, u, rfl, _⟩ := h
    rfl
  · obtain ⟨a, C, v, u, rfl, T, h1, h2, ha, k⟩ := h
    refine ⟨_, (pss_cons (ps_setX (nw := "ValueError.__new__") PySem.F.store_ValueError (pv 0) (pv 1))
  (pss_one (ps_setX (nw := "ValueError.__new__") PySem.F.store_ValueError (pv 0) (pv 2)))), ?_⟩
    refine ⟨_, rfl, _, rfl, a, C, rfl, T, h1, .inl ⟨ha, fun d hd nd => ?_⟩⟩
    refine ⟨_, rfl, _, rfl, a, C, rfl, T, h2, .inr ⟨d, [(_, v)], upd_same, by rw [upd_ne nd, upd_same], Nat.le_of_ble_eq_true rfl, ?_⟩⟩
    exact k d hd nd
abbrev s_Uncovered___init__ : Stmt := inS (topS 10) 0
abbrev N_Uncovered___init__ : List Str := ["self", "index"]
theorem sc_Uncovered___init__ : FnScope N_Uncovered___init__ ["self", "index"] (defScope s_Uncovered___init__) := ⟨rfl, rfl, rfl, by decide +kernel, rfl, by decide +kernel, by decide +kernel⟩
theorem i_Uncovered {f : Addr} {fd : FuncData} (F : Fun K "__init__" "Uncovered.__init__" s_Uncovered___init__ f fd) : FnOk P w K mg base CX0 1 f fd ["self", "index"] (spI1 K mroV "ValueError.__new__" "index") := by
  refine F.ok sc_Uncovered___init__ (fun vs H Q E h => ?_) (fun cdv A outer s H vs Q E hr h => ?_)
  · obtain ⟨a, C, v, rfl, _⟩ := h
    rfl
  · obtain ⟨a, C, v, rfl, T, ht, ha, k⟩ := h
    exact ⟨_, (pss_one (ps_setX (nw := "ValueError.__new__") PySem.F.store_ValueError (pv 0) (pv 1))), _, rfl, _, rfl, a, C, rfl, T, ht, .inl ⟨ha, k⟩⟩
abbrev s_Underivable___init__ : Stmt := inS (topS 11) 0
abbrev N_Underivable___init__ : List Str := ["self", "word", "need"]
theorem sc_Underivable___init__ : FnScope N_Underivable___init__ ["self", "word", "need"] (defScope s_Underivable___init__) := ⟨rfl, rfl, rfl, by decide +kernel, rfl, by decide +kernel, by decide +kernel⟩
theorem i_Underivable {f : Addr} {fd : FuncData} (F : Fun K "__init__" "Underivable.__init__" s_Underivable___init__ f fd) : FnOk P w K mg base CX0 1 f fd ["self", "word", "need"] (spI2 K mroV "ValueError.__new__" "word" "need") := by
  refine F.ok sc_Underivable___init__ (fun vs H Q E h => ?_) (fun cdv A outer s H vs Q E hr h => ?_)
  · obtain ⟨a, C, v, u, rfl, _⟩ := h
    rfl
  · obtain ⟨a, C, v, u, rfl, T, h1, h2, ha, k⟩ := h
    refine ⟨_, (pss_cons (ps_setX (nw := "ValueError.__new__") PySem.F.store_ValueError (pv 0) (pv 1))
  (pss_one (ps_setX (nw := "ValueError.__new__") PySem.F.store_ValueError (pv 0) (pv 2)))), ?_⟩
    refine ⟨_, rfl, _, rfl, a, C, rfl, T, h1, .inl ⟨ha, fun d hd nd => ?_⟩⟩
    refine ⟨_, rfl, _, rfl, a, C, rfl, T, h2, .inr ⟨d, [(_, v)], upd_same, by rw [upd_ne nd, upd_same], Nat.le_of_ble_eq_true rfl, ?_⟩⟩
    exact k d hd nd
abbrev s_Clash___init__ : Stmt := inS (topS 12) 0
abbrev N_Clash___init__ : List Str := ["self", "index", "other"]
theorem sc_Clash___init__ : FnScope N_Clash___init__ ["self", "index", "other"] (defScope s_Clash___init__) := ⟨rfl, rfl, rfl, by decide +kernel, rfl, by decide +kernel, by decide +kernel⟩
theorem i_Clash {f : Addr} {fd : FuncData} (F : Fun K "__init__" "Clash.__init__" s_Clash___init__ f fd) : FnOk P w K mg base CX0 1 f fd ["self", "index", "other"] (spI2 K mroV "ValueError.__new__" "index" "other") := by
  refine F.ok sc_Clash___init__ (fun vs H Q E h => ?_) (fun cdv A outer s H vs Q E hr h => ?_)
  · obtain ⟨a, C, v, u, rfl, _⟩ := h
    rfl
  · obtain ⟨a, C, v, u, rfl, T, h1, h2, ha, k⟩ := h
    refine ⟨_, (pss_cons (ps_setX (nw := "ValueError.__new__") PySem.F.store_ValueError (pv 0) (pv 1))
  (pss_one (ps_setX (nw := "ValueError.__new__") PySem.F.store_ValueError (pv 0) (pv 2)))), ?_⟩
    refine ⟨_, rfl, _, rfl, a, C, rfl, T, h1, .inl ⟨ha, fun d hd nd => ?_⟩⟩
    refine ⟨_, rfl, _, rfl, a, C, rfl, T, h2, .inr ⟨d, [(_, v)], upd_same, by rw [upd_ne nd, upd_same], Nat.le_of_ble_eq_true rfl, ?_⟩⟩
    exact k d hd nd
abbrev s_Unsupported___init__ : Stmt := inS (topS 13) 0
abbrev N_Unsupported___init__ : List Str := ["self", "index", "number"]
theorem sc_Unsupported___init__ : FnScope N_Unsupported___init__ ["self", "index", "number"] (defScope s_Unsupported___init__) := ⟨rfl, rfl, rfl, by decide +kernel, rfl, by decide +kernel, by decide +kernel⟩
theorem i_Unsupported {f : Addr} {fd : FuncData} (F : Fun K "__init__" "Unsupported.__init__" s_Unsupported___init__ f fd) : FnOk P w K mg base CX0 1 f fd ["self", "index", "number"] (spI2 K mroV "ValueError.__new__" "index" "number") := by
  refine F.ok sc_Unsupported___init__ (fun vs H Q E h => ?_) (fun cdv A outer s H vs Q E hr h => ?_)
  · obtain ⟨a, C, v, u, rfl, _⟩ := h
    rfl
  · obtain ⟨a, C, v, u, rfl, T, h1, h2, ha, k⟩ := h
    refine ⟨_, (pss_cons (ps_setX (nw := "ValueError.__new__") PySem.F.store_ValueError (pv 0) (pv 1))
  (pss_one (ps_setX (nw := "ValueError.__new__") PySem.F.store_ValueError (pv 0) (pv 2)))), ?_⟩
    refine ⟨_, rfl, _, rfl, a, C, rfl, T, h1, .inl ⟨ha, fun d hd nd => ?_⟩⟩
    refine ⟨_, rfl, _, rfl, a, C, rfl, T, h2, .inr ⟨d, [(_, v)], upd_same, by rw [upd_ne nd, upd_same], Nat.le_of_ble_eq_true rfl, ?_⟩⟩
    exact k d hd nd
abbrev s_Improper___init__ : Stmt := inS (topS 14) 0
abbrev N_Improper___init__ : List Str := ["self", "index"]
theorem sc_Improper___init__ : FnScope N_Improper___init__ ["self", "index"] (defScope s_Improper___init__) := ⟨rfl, rfl, rfl, by decide +kernel, rfl, by decide +kernel, by decide +kernel⟩
theorem i_Improper {f : Addr} {fd : FuncData} (F : Fun K "__init__" "Improper.__init__" s_Improper___init__ f fd) : FnOk P w K mg base CX0 1 f fd ["self", "index"] (spI1 K mroV "ValueError.__new__" "index") := by
  refine F.ok sc_Improper___init__ (fun vs H Q E h => ?_) (fun cdv A outer s H vs Q E hr h => ?_)
  · obtain ⟨a, C, v, rfl, _⟩ := h
    rfl
  · obtain ⟨a, C, v, rfl, T, ht, ha, k⟩ := h
    exact ⟨_, (pss_one (ps_setX (nw := "ValueError.__new__") PySem.F.store_ValueError (pv 0) (pv 1))), _, rfl, _, rfl, a, C, rfl, T, ht, .inl ⟨ha, k⟩⟩
abbrev s_InvalidKind___init__ : Stmt := inS (topS 15) 0
abbrev N_InvalidKind___init__ : List Str := ["self", "value"]
theorem sc_InvalidKind___init__ : FnScope N_InvalidKind___init__ ["self", "value"] (defScope s_InvalidKind___init__) := ⟨rfl, rfl, rfl, by decide +kernel, rfl, by decide +kernel, by decide +kernel⟩
theorem i_InvalidKind {f : Addr} {fd : FuncData} (F : Fun K "__init__" "InvalidKind.__init__" s_InvalidKind___init__ f fd) : FnOk P w K mg base CX0 1 f fd ["self", "value"] (spI1 K mroV "ValueError.__new__" "value") := by
  refine F.ok sc_InvalidKind___init__ (fun vs H Q E h => ?_) (fun cdv A outer s H vs Q E hr h => ?_)
  · obtain ⟨a, C, v, rfl, _⟩ := h
    rfl
  · obtain ⟨a, C, v, rfl, T, ht, ha, k⟩ := h
    exact ⟨_, (pss_one (ps_setX (nw := "ValueError.__new__") PySem.F.store_ValueError (pv 0) (pv 1))), _, rfl, _, rfl, a, C, rfl, T, ht, .inl ⟨ha, k⟩⟩
abbrev s_InvalidNeed___init__ : Stmt := inS (topS 16) 0
abbrev N_InvalidNeed___init__ : List Str := ["self", "value"]
theorem sc_InvalidNeed___init__ : FnScope N_InvalidNeed___init__ ["self", "value"] (defScope s_InvalidNeed___init__) := ⟨rfl, rfl, rfl, by decide +kernel, rfl, by decide +kernel, by decide +kernel⟩
theorem i_InvalidNeed {f : Addr} {fd : FuncData} (F : Fun K "__init__" "InvalidNeed.__init__" s_InvalidNeed___init__ f fd) : FnOk P w K mg base CX0 1 f fd ["self", "value"] (spI1 K mroV "ValueError.__new__" "value") := by
  refine F.ok sc_InvalidNeed___init__ (fun vs H Q E h => ?_) (fun cdv A outer s H vs Q E hr h => ?_)
  · obtain ⟨a, C, v, rfl, _⟩ := h
    rfl
  · obtain ⟨a, C, v, rfl, T, ht, ha, k⟩ := h
    exact ⟨_, (pss_one (ps_setX (nw := "ValueError.__new__") PySem.F.store_ValueError (pv 0) (pv 1))), _, rfl, _, rfl, a, C, rfl, T, ht, .inl ⟨ha, k⟩⟩
abbrev s_InvalidScheme___init__ : Stmt := inS (topS 17) 0
abbrev N_InvalidScheme___init__ : List Str := ["self", "value"]
theorem sc_InvalidScheme___init__ : FnScope N_InvalidScheme___init__ ["self", "value"] (defScope s_InvalidScheme___init__) := ⟨rfl, rfl, rfl, by decide +kernel, rfl, by decide +kernel, by decide +kernel⟩
theorem i_InvalidScheme {f : Addr} {fd : FuncData} (F : Fun K "__init__" "InvalidScheme.__init__" s_InvalidScheme___init__ f fd) : FnOk P w K mg base CX0 1 f fd ["self", "value"] (spI1 K mroV "ValueError.__new__" "value") := by
  refine F.ok sc_InvalidScheme___init__ (fun vs H Q E h => ?_) (fun cdv A outer s H vs Q E hr h => ?_)
  · obtain ⟨a, C, v, rfl, _⟩ := h
    rfl
  · obtain ⟨a, C, v, rfl, T, ht, ha, k⟩ := h
    exact ⟨_, (pss_one (ps_setX (nw := "ValueError.__new__") PySem.F.store_ValueError (pv 0) (pv 1))), _, rfl, _, rfl, a, C, rfl, T, ht, .inl ⟨ha, k⟩⟩
abbrev s_InvalidCount___init__ : Stmt := inS (topS 18) 0
abbrev N_InvalidCount___init__ : List Str := ["self", "number"]
theorem sc_InvalidCount___init__ : FnScope N_InvalidCount___init__ ["self", "number"] (defScope s_InvalidCount___init__) := ⟨rfl, rfl, rfl, by decide +kernel, rfl, by decide +kernel, by decide +kernel⟩
theorem i_InvalidCount {f : Addr} {fd : FuncData} (F : Fun K "__init__" "InvalidCount.__init__" s_InvalidCount___init__ f fd) : FnOk P w K mg base CX0 1 f fd ["self", "number"] (spI1 K mroV "ValueError.__new__" "number") := by
  refine F.ok sc_InvalidCount___init__ (fun vs H Q E h => ?_) (fun cdv A outer s H vs Q E hr h => ?_)
  · obtain ⟨a, C, v, rfl, _⟩ := h
    rfl
  · obtain ⟨a, C, v, rfl, T, ht, ha, k⟩ := h
    exact ⟨_, (pss_one (ps_setX (nw := "ValueError.__new__") PySem.F.store_ValueError (pv 0) (pv 1))), _, rfl, _, rfl, a, C, rfl, T, ht, .inl ⟨ha, k⟩⟩
abbrev s_InvalidValue___init__ : Stmt := inS (topS 19) 0
abbrev N_InvalidValue___init__ : List Str := ["self", "index"]
theorem sc_InvalidValue___init__ : FnScope N_InvalidValue___init__ ["self", "index"] (defScope s_InvalidValue___init__) := ⟨rfl, rfl, rfl, by decide +kernel, rfl, by decide +kernel, by decide +kernel⟩
theorem i_InvalidValue {f : Addr} {fd : FuncData} (F : Fun K "__init__" "InvalidValue.__init__" s_InvalidValue___init__ f fd) : FnOk P w K mg base CX0 1 f fd ["self", "index"] (spI1 K mroV "ValueError.__new__" "index") := by
  refine F.ok sc_InvalidValue___init__ (fun vs H Q E h => ?_) (fun cdv A outer s H vs Q E hr h => ?_)
  · obtain ⟨a, C, v, rfl, _⟩ := h
    rfl
  · obtain ⟨a, C, v, rfl, T, ht, ha, k⟩ := h
    exact ⟨_, (pss_one (ps_setX (nw := "ValueError.__new__") PySem.F.store_ValueError (pv 0) (pv 1))), _, rfl, _, rfl, a, C, rfl, T, ht, .inl ⟨ha, k⟩⟩
abbrev s_InvalidLimit___init__ : Stmt := inS (topS 20) 0
abbrev N_InvalidLimit___init__ : List Str := ["self", "limit"]
theorem sc_InvalidLimit___init__ : FnScope N_InvalidLimit___init__ ["self", "limit"] (defScope s_InvalidLimit___init__) := ⟨rfl, rfl, rfl, by decide +kernel, rfl, by decide +kernel, by decide +kernel⟩
theorem i_InvalidLimit {f : Addr} {fd : FuncData} (F : Fun K "__init__" "InvalidLimit.__init__" s_InvalidLimit___init__ f fd) : FnOk P w K mg base CX0 1 f fd ["self", "limit"] (spI1 K mroV "ValueError.__new__" "limit") := by
  refine F.ok sc_InvalidLimit___init__ (fun vs H Q E h => ?_) (fun cdv A outer s H vs Q E hr h => ?_)
  · obtain ⟨a, C, v, rfl, _⟩ := h
    rfl
  · obtain ⟨a, C, v, rfl, T, ht, ha, k⟩ := h
    exact ⟨_, (pss_one (ps_setX (nw := "ValueError.__new__") PySem.F.store_ValueError (pv 0) (pv 1))), _, rfl, _, rfl, a, C, rfl, T, ht, .inl ⟨ha, k⟩⟩
abbrev s_InvalidMarked___init__ : Stmt := inS (topS 21) 0
abbrev N_InvalidMarked___init__ : List Str := ["self", "index"]
theorem sc_InvalidMarked___init__ : FnScope N_InvalidMarked___init__ ["self", "index"] (defScope s_InvalidMarked___init__) := ⟨rfl, rfl, rfl, by decide +kernel, rfl, by decide +kernel, by decide +kernel⟩
theorem i_InvalidMarked {f : Addr} {fd : FuncData} (F : Fun K "__init__" "InvalidMarked.__init__" s_InvalidMarked___init__ f fd) : FnOk P w K mg base CX0 1 f fd ["self", "index"] (spI1 K mroV "ValueError.__new__" "index") := by
  refine F.ok sc_InvalidMarked___init__ (fun vs H Q E h => ?_) (fun cdv A outer s H vs Q E hr h => ?_)
  · obtain ⟨a, C, v, rfl, _⟩ := h
    rfl
  · obtain ⟨a, C, v, rfl, T, ht, ha, k⟩ := h
    exact ⟨_, (pss_one (ps_setX (nw := "ValueError.__new__") PySem.F.store_ValueError (pv 0) (pv 1))), _, rfl, _, rfl, a, C, rfl, T, ht, .inl ⟨ha, k⟩⟩
abbrev s_InvalidText___init__ : Stmt := inS (topS 22) 0
abbrev N_InvalidText___init__ : List Str := ["self", "line", "piece"]
theorem sc_InvalidText___init__ : FnScope N_InvalidText___init__ ["self", "line", "piece"] (defScope s_InvalidText___init__) := ⟨rfl, rfl, rfl, by decide +kernel, rfl, by decide +kernel, by decide +kernel⟩
theorem i_InvalidText {f : Addr} {fd : FuncData} (F : Fun K "__init__" "InvalidText.__init__" s_InvalidText___init__ f fd) : FnOk P w K mg base CX0 1 f fd ["self", "line", "piece"] (spI2 K mroV "ValueError.__new__" "line" "piece") := by
  refine F.ok sc_InvalidText___init__ (fun vs H Q E h => ?_) (fun cdv A outer s H vs Q E hr h => ?_)
  · obtain ⟨a, C, v, u, rfl, _⟩ := h
    rfl
  · obtain ⟨a, C, v, u, rfl, T, h1, h2, ha, k⟩ := h
    refine ⟨_, (pss_cons (ps_setX (nw := "ValueError.__new__") PySem.F.store_ValueError (pv 0) (pv 1))
  (pss_one (ps_setX (nw := "ValueError.__new__") PySem.F.store_ValueError (pv 0) (pv 2)))), ?_⟩
    refine ⟨_, rfl, _, rfl, a, C, rfl, T, h1, .inl ⟨ha, fun d hd nd => ?_⟩⟩
    refine ⟨_, rfl, _, rfl, a, C, rfl, T, h2, .inr ⟨d, [(_, v)], upd_same, by rw [upd_ne nd, upd_same], Nat.le_of_ble_eq_true rfl, ?_⟩⟩
    exact k d hd nd
abbrev s_InvalidDeed___init__ : Stmt := inS (topS 23) 0
abbrev N_InvalidDeed___init__ : List Str := ["self", "index"]
theorem sc_InvalidDeed___init__ : FnScope N_InvalidDeed___init__ ["self", "index"] (defScope s_InvalidDeed___init__) := ⟨rfl, rfl, rfl, by decide +kernel, rfl, by decide +kernel, by decide +kernel⟩
theorem i_InvalidDeed {f : Addr} {fd : FuncData} (F : Fun K "__init__" "InvalidDeed.__init__" s_InvalidDeed___init__ f fd) : FnOk P w K mg base CX0 1 f fd ["self", "index"] (spI1 K mroV "ValueError.__new__" "index") := by
  refine F.ok sc_InvalidDeed___init__ (fun vs H Q E h => ?_) (fun cdv A outer s H vs Q E hr h => ?_)
  · obtain ⟨a, C, v, rfl, _⟩ := h
    rfl
  · obtain ⟨a, C, v, rfl, T, ht, ha, k⟩ := h
    exact ⟨_, (pss_one (ps_setX (nw := "ValueError.__new__") PySem.F.store_ValueError (pv 0) (pv 1))), _, rfl, _, rfl, a, C, rfl, T, ht, .inl ⟨ha, k⟩⟩
abbrev s_InvalidGuard___init__ : Stmt := inS (topS 24) 0
abbrev N_InvalidGuard___init__ : List Str := ["self", "index"]
theorem sc_InvalidGuard___init__ : FnScope N_InvalidGuard___init__ ["self", "index"] (defScope s_InvalidGuard___init__) := ⟨rfl, rfl, rfl, by decide +kernel, rfl, by decide +kernel, by decide +kernel⟩
theorem i_InvalidGuard {f : Addr} {fd : FuncData} (F : Fun K "__init__" "InvalidGuard.__init__" s_InvalidGuard___init__ f fd) : FnOk P w K mg base CX0 1 f fd ["self", "index"] (spI1 K mroV "ValueError.__new__" "index") := by
  refine F.ok sc_InvalidGuard___init__ (fun vs H Q E h => ?_) (fun cdv A outer s H vs Q E hr h => ?_)
  · obtain ⟨a, C, v, rfl, _⟩ := h
    rfl
  · obtain ⟨a, C, v, rfl, T, ht, ha, k⟩ := h
    exact ⟨_, (pss_one (ps_setX (nw := "ValueError.__new__") PySem.F.store_ValueError (pv 0) (pv 1))), _, rfl, _, rfl, a, C, rfl, T, ht, .inl ⟨ha, k⟩⟩
abbrev s_NotClosed___init__ : Stmt := inS (topS 25) 0
abbrev N_NotClosed___init__ : List Str := ["self", "word"]
theorem sc_NotClosed___init__ : FnScope N_NotClosed___init__ ["self", "word"] (defScope s_NotClosed___init__) := ⟨rfl, rfl, rfl, by decide +kernel, rfl, by decide +kernel, by decide +kernel⟩
theorem i_NotClosed {f : Addr} {fd : FuncData} (F : Fun K "__init__" "NotClosed.__init__" s_NotClosed___init__ f fd) : FnOk P w K mg base CX0 1 f fd ["self", "word"] (spI1 K mroV "ValueError.__new__" "word") := by
  refine F.ok sc_NotClosed___init__ (fun vs H Q E h => ?_) (fun cdv A outer s H vs Q E hr h => ?_)
  · obtain ⟨a, C, v, rfl, _⟩ := h
    rfl
  · obtain ⟨a, C, v, rfl, T, ht, ha, k⟩ := h
    exact ⟨_, (pss_one (ps_setX (nw := "ValueError.__new__") PySem.F.store_ValueError (pv 0) (pv 1))), _, rfl, _, rfl, a, C, rfl, T, ht, .inl ⟨ha, k⟩⟩
abbrev s_Unknown___init__ : Stmt := inS (topS 26) 0
abbrev N_Unknown___init__ : List Str := ["self", "index", "word"]
theorem sc_Unknown___init__ : FnScope N_Unknown___init__ ["self", "index", "word"] (defScope s_Unknown___init__) := ⟨rfl, rfl, rfl, by decide +kernel, rfl, by decide +kernel, by decide +kernel⟩
theorem i_Unknown {f : Addr} {fd : FuncData} (F : Fun K "__init__" "Unknown.__init__" s_Unknown___init__ f fd) : FnOk P w K mg base CX0 1 f fd ["self", "index", "word"] (spI2 K mroL "LookupError.__new__" "index" "word") := by
  refine F.ok sc_Unknown___init__ (fun vs H Q E h => ?_) (fun cdv A outer s H vs Q E hr h => ?_)
  · obtain ⟨a, C, v, u, rfl, _⟩ := h
    rfl
  · obtain ⟨a, C, v, u, rfl, T, h1, h2, ha, k⟩ := h
    refine ⟨_, (pss_cons (ps_setX (nw := "LookupError.__new__") PySem.F.store_LookupError (pv 0) (pv 1))
  (pss_one (ps_setX (nw := "LookupError.__new__") PySem.F.store_LookupError (pv 0) (pv 2)))), ?_⟩
    refine ⟨_, rfl, _, rfl, a, C, rfl, T, h1, .inl ⟨ha, fun d hd nd => ?_⟩⟩
    refine ⟨_, rfl, _, rfl, a, C, rfl, T, h2, .inr ⟨d, [(_, v)], upd_same, by rw [upd_ne nd, upd_same], Nat.le_of_ble_eq_true rfl, ?_⟩⟩
    exact k d hd nd
abbrev s_UnknownName___init__ : Stmt := inS (topS 27) 0
abbrev N_UnknownName___init__ : List Str := ["self", "value"]
theorem sc_UnknownName___init__ : FnScope N_UnknownName___init__ ["self", "value"] (defScope s_UnknownName___init__) := ⟨rfl, rfl, rfl, by decide +kernel, rfl, by decide +kernel, by decide +kernel⟩
theorem i_UnknownName {f : Addr} {fd : FuncData} (F : Fun K "__init__" "UnknownName.__init__" s_UnknownName___init__ f fd) : FnOk P w K mg base CX0 1 f fd ["self", "value"] (spI1 K mroL "LookupError.__new__" "value") := by
  refine F.ok sc_UnknownName___init__ (fun vs H Q E h => ?_) (fun cdv A outer s H vs Q E hr h => ?_)
  · obtain ⟨a, C, v, rfl, _⟩ := h
    rfl
  · obtain ⟨a, C, v, rfl, T, ht, ha, k⟩ := h
    exact ⟨_, (pss_one (ps_setX (nw := "LookupError.__new__") PySem.F.store_LookupError (pv 0) (pv 1))), _, rfl, _, rfl, a, C, rfl, T, ht, .inl ⟨ha, k⟩⟩
abbrev s_OutOfTerm___init__ : Stmt := inS (topS 28) 0
abbrev N_OutOfTerm___init__ : List Str := ["self", "place"]
theorem sc_OutOfTerm___init__ : FnScope N_OutOfTerm___init__ ["self", "place"] (defScope s_OutOfTerm___init__) := ⟨rfl, rfl, rfl, by decide +kernel, rfl, by decide +kernel, by decide +kernel⟩
theorem i_OutOfTerm {f : Addr} {fd : FuncData} (F : Fun K "__init__" "OutOfTerm.__init__" s_OutOfTerm___init__ f fd) : FnOk P w K mg base CX0 1 f fd ["self", "place"] (spI1 K mroL "LookupError.__new__" "place") := by
  refine F.ok sc_OutOfTerm___init__ (fun vs H Q E h => ?_) (fun cdv A outer s H vs Q E hr h => ?_)
  · obtain ⟨a, C, v, rfl, _⟩ := h
    rfl
  · obtain ⟨a, C, v, rfl, T, ht, ha, k⟩ := h
    exact ⟨_, (pss_one (ps_setX (nw := "LookupError.__new__") PySem.F.store_LookupError (pv 0) (pv 1))), _, rfl, _, rfl, a, C, rfl, T, ht, .inl ⟨ha, k⟩⟩
abbrev s_NoPrimitive___init__ : Stmt := inS (topS 29) 0
abbrev N_NoPrimitive___init__ : List Str := ["self", "word"]
theorem sc_NoPrimitive___init__ : FnScope N_NoPrimitive___init__ ["self", "word"] (defScope s_NoPrimitive___init__) := ⟨rfl, rfl, rfl, by decide +kernel, rfl, by decide +kernel, by decide +kernel⟩
theorem i_NoPrimitive {f : Addr} {fd : FuncData} (F : Fun K "__init__" "NoPrimitive.__init__" s_NoPrimitive___init__ f fd) : FnOk P w K mg base CX0 1 f fd ["self", "word"] (spI1 K mroL "LookupError.__new__" "word") := by
  refine F.ok sc_NoPrimitive___init__ (fun vs H Q E h => ?_) (fun cdv A outer s H vs Q E hr h => ?_)
  · obtain ⟨a, C, v, rfl, _⟩ := h
    rfl
  · obtain ⟨a, C, v, rfl, T, ht, ha, k⟩ := h
    exact ⟨_, (pss_one (ps_setX (nw := "LookupError.__new__") PySem.F.store_LookupError (pv 0) (pv 1))), _, rfl, _, rfl, a, C, rfl, T, ht, .inl ⟨ha, k⟩⟩
abbrev s_NoDefinition___init__ : Stmt := inS (topS 30) 0
abbrev N_NoDefinition___init__ : List Str := ["self", "word"]
theorem sc_NoDefinition___init__ : FnScope N_NoDefinition___init__ ["self", "word"] (defScope s_NoDefinition___init__) := ⟨rfl, rfl, rfl, by decide +kernel, rfl, by decide +kernel, by decide +kernel⟩
theorem i_NoDefinition {f : Addr} {fd : FuncData} (F : Fun K "__init__" "NoDefinition.__init__" s_NoDefinition___init__ f fd) : FnOk P w K mg base CX0 1 f fd ["self", "word"] (spI1 K mroL "LookupError.__new__" "word") := by
  refine F.ok sc_NoDefinition___init__ (fun vs H Q E h => ?_) (fun cdv A outer s H vs Q E hr h => ?_)
  · obtain ⟨a, C, v, rfl, _⟩ := h
    rfl
  · obtain ⟨a, C, v, rfl, T, ht, ha, k⟩ := h
    exact ⟨_, (pss_one (ps_setX (nw := "LookupError.__new__") PySem.F.store_LookupError (pv 0) (pv 1))), _, rfl, _, rfl, a, C, rfl, T, ht, .inl ⟨ha, k⟩⟩
abbrev s_NoCore___init__ : Stmt := inS (topS 31) 0
abbrev N_NoCore___init__ : List Str := ["self", "where"]
theorem sc_NoCore___init__ : FnScope N_NoCore___init__ ["self", "where"] (defScope s_NoCore___init__) := ⟨rfl, rfl, rfl, by decide +kernel, rfl, by decide +kernel, by decide +kernel⟩
theorem i_NoCore {f : Addr} {fd : FuncData} (F : Fun K "__init__" "NoCore.__init__" s_NoCore___init__ f fd) : FnOk P w K mg base CX0 1 f fd ["self", "where"] (spI1 K mroL "LookupError.__new__" "where") := by
  refine F.ok sc_NoCore___init__ (fun vs H Q E h => ?_) (fun cdv A outer s H vs Q E hr h => ?_)
  · obtain ⟨a, C, v, rfl, _⟩ := h
    rfl
  · obtain ⟨a, C, v, rfl, T, ht, ha, k⟩ := h
    exact ⟨_, (pss_one (ps_setX (nw := "LookupError.__new__") PySem.F.store_LookupError (pv 0) (pv 1))), _, rfl, _, rfl, a, C, rfl, T, ht, .inl ⟨ha, k⟩⟩
abbrev s_Unmet___init__ : Stmt := inS (topS 32) 0
abbrev N_Unmet___init__ : List Str := ["self", "need"]
theorem sc_Unmet___init__ : FnScope N_Unmet___init__ ["self", "need"] (defScope s_Unmet___init__) := ⟨rfl, rfl, rfl, by decide +kernel, rfl, by decide +kernel, by decide +kernel⟩
theorem i_Unmet {f : Addr} {fd : FuncData} (F : Fun K "__init__" "Unmet.__init__" s_Unmet___init__ f fd) : FnOk P w K mg base CX0 1 f fd ["self", "need"] (spI1 K mroL "LookupError.__new__" "need") := by
  refine F.ok sc_Unmet___init__ (fun vs H Q E h => ?_) (fun cdv A outer s H vs Q E hr h => ?_)
  · obtain ⟨a, C, v, rfl, _⟩ := h
    rfl
  · obtain ⟨a, C, v, rfl, T, ht, ha, k⟩ := h
    exact ⟨_, (pss_one (ps_setX (nw := "LookupError.__new__") PySem.F.store_LookupError (pv 0) (pv 1))), _, rfl, _, rfl, a, C, rfl, T, ht, .inl ⟨ha, k⟩⟩
abbrev s_OutOfRange___init__ : Stmt := inS (topS 33) 0
abbrev N_OutOfRange___init__ : List Str := ["self", "value"]
theorem sc_OutOfRange___init__ : FnScope N_OutOfRange___init__ ["self", "value"] (defScope s_OutOfRange___init__) := ⟨rfl, rfl, rfl, by decide +kernel, rfl, by decide +kernel, by decide +kernel⟩
theorem i_OutOfRange {f : Addr} {fd : FuncData} (F : Fun K "__init__" "OutOfRange.__init__" s_OutOfRange___init__ f fd) : FnOk P w K mg base CX0 1 f fd ["self", "value"] (spI1 K mroL "LookupError.__new__" "value") := by
  refine F.ok sc_OutOfRange___init__ (fun vs H Q E h => ?_) (fun cdv A outer s H vs Q E hr h => ?_)
  · obtain ⟨a, C, v, rfl, _⟩ := h
    rfl
  · obtain ⟨a, C, v, rfl, T, ht, ha, k⟩ := h
    exact ⟨_, (pss_one (ps_setX (nw := "LookupError.__new__") PySem.F.store_LookupError (pv 0) (pv 1))), _, rfl, _, rfl, a, C, rfl, T, ht, .inl ⟨ha, k⟩⟩
abbrev s_Known___init__ : Stmt := inS (topS 34) 0
abbrev N_Known___init__ : List Str := ["self", "index"]
theorem sc_Known___init__ : FnScope N_Known___init__ ["self", "index"] (defScope s_Known___init__) := ⟨rfl, rfl, rfl, by decide +kernel, rfl, by decide +kernel, by decide +kernel⟩
theorem i_Known {f : Addr} {fd : FuncData} (F : Fun K "__init__" "Known.__init__" s_Known___init__ f fd) : FnOk P w K mg base CX0 1 f fd ["self", "index"] (spI1 K mroL "LookupError.__new__" "index") := by
  refine F.ok sc_Known___init__ (fun vs H Q E h => ?_) (fun cdv A outer s H vs Q E hr h => ?_)
  · obtain ⟨a, C, v, rfl, _⟩ := h
    rfl
  · obtain ⟨a, C, v, rfl, T, ht, ha, k⟩ := h
    exact ⟨_, (pss_one (ps_setX (nw := "LookupError.__new__") PySem.F.store_LookupError (pv 0) (pv 1))), _, rfl, _, rfl, a, C, rfl, T, ht, .inl ⟨ha, k⟩⟩
abbrev s_Missing___init__ : Stmt := inS (topS 35) 0
abbrev N_Missing___init__ : List Str := ["self", "index"]
theorem sc_Missing___init__ : FnScope N_Missing___init__ ["self", "index"] (defScope s_Missing___init__) := ⟨rfl, rfl, rfl, by decide +kernel, rfl, by decide +kernel, by decide +kernel⟩
theorem i_Missing {f : Addr} {fd : FuncData} (F : Fun K "__init__" "Missing.__init__" s_Missing___init__ f fd) : FnOk P w K mg base CX0 1 f fd ["self", "index"] (spI1 K mroL "LookupError.__new__" "index") := by
  refine F.ok sc_Missing___init__ (fun vs H Q E h => ?_) (fun cdv A outer s H vs Q E hr h => ?_)
  · obtain ⟨a, C, v, rfl, _⟩ := h
    rfl
  · obtain ⟨a, C, v, rfl, T, ht, ha, k⟩ := h
    exact ⟨_, (pss_one (ps_setX (nw := "LookupError.__new__") PySem.F.store_LookupError (pv 0) (pv 1))), _, rfl, _, rfl, a, C, rfl, T, ht, .inl ⟨ha, k⟩⟩
abbrev s_Faulty___init__ : Stmt := inS (topS 36) 0
abbrev N_Faulty___init__ : List Str := ["self", "where"]
theorem sc_Faulty___init__ : FnScope N_Faulty___init__ ["self", "where"] (defScope s_Faulty___init__) := ⟨rfl, rfl, rfl, by decide +kernel, rfl, by decide +kernel, by decide +kernel⟩
theorem i_Faulty {f : Addr} {fd : FuncData} (F : Fun K "__init__" "Faulty.__init__" s_Faulty___init__ f fd) : FnOk P w K mg base CX0 1 f fd ["self", "where"] (spI1 K mroR "RuntimeError.__new__" "where") := by
  refine F.ok sc_Faulty___init__ (fun vs H Q E h => ?_) (fun cdv A outer s H vs Q E hr h => ?_)
  · obtain ⟨a, C, v, rfl, _⟩ := h
    rfl
  · obtain ⟨a, C, v, rfl, T, ht, ha, k⟩ := h
    exact ⟨_, (pss_one (ps_setX (nw := "RuntimeError.__new__") PySem.F.store_RuntimeError (pv 0) (pv 1))), _, rfl, _, rfl, a, C, rfl, T, ht, .inl ⟨ha, k⟩⟩
abbrev s_Wrong___init__ : Stmt := inS (topS 37) 0
abbrev N_Wrong___init__ : List Str := ["self", "found"]
theorem sc_Wrong___init__ : FnScope N_Wrong___init__ ["self", "found"] (defScope s_Wrong___init__) := ⟨rfl, rfl, rfl, by decide +kernel, rfl, by decide +kernel, by decide +kernel⟩
theorem i_Wrong {f : Addr} {fd : FuncData} (F : Fun K "__init__" "Wrong.__init__" s_Wrong___init__ f fd) : FnOk P w K mg base CX0 1 f fd ["self", "found"] (spI1 K mroR "RuntimeError.__new__" "found") := by
  refine F.ok sc_Wrong___init__ (fun vs H Q E h => ?_) (fun cdv A outer s H vs Q E hr h => ?_)
  · obtain ⟨a, C, v, rfl, _⟩ := h
    rfl
  · obtain ⟨a, C, v, rfl, T, ht, ha, k⟩ := h
    exact ⟨_, (pss_one (ps_setX (nw := "RuntimeError.__new__") PySem.F.store_RuntimeError (pv 0) (pv 1))), _, rfl, _, rfl, a, C, rfl, T, ht, .inl ⟨ha, k⟩⟩
abbrev s_Broken___init__ : Stmt := inS (topS 38) 0
abbrev N_Broken___init__ : List Str := ["self", "index"]
theorem sc_Broken___init__ : FnScope N_Broken___init__ ["self", "index"] (defScope s_Broken___init__) := ⟨rfl, rfl, rfl, by decide +kernel, rfl, by decide +kernel, by decide +kernel⟩
theorem i_Broken {f : Addr} {fd : FuncData} (F : Fun K "__init__" "Broken.__init__" s_Broken___init__ f fd) : FnOk P w K mg base CX0 1 f fd ["self", "index"] (spI1 K mroR "RuntimeError.__new__" "index") := by
  refine F.ok sc_Broken___init__ (fun vs H Q E h => ?_) (fun cdv A outer s H vs Q E hr h => ?_)
  · obtain ⟨a, C, v, rfl, _⟩ := h
    rfl
  · obtain ⟨a, C, v, rfl, T, ht, ha, k⟩ := h
    exact ⟨_, (pss_one (ps_setX (nw := "RuntimeError.__new__") PySem.F.store_RuntimeError (pv 0) (pv 1))), _, rfl, _, rfl, a, C, rfl, T, ht, .inl ⟨ha, k⟩⟩
end
end L3

/-! a tuple of anything beside the empty one -/
namespace L3
open PySem PySem.Spec PyProof.Rows L2
open PySem.SeqAt
def rNeNil : R2 := fun x y H Q => ∃ (a b : Addr) (xs : List V), x = .ref a ∧ y = .ref b ∧ H a = some (.tup xs) ∧ H b = some (.tup []) ∧ Q (.bl (!xs.isEmpty)) H
theorem op_neNil {X : Cx} (hu : X.A.units + 64 < cLine) : OpR X (compareOp .NotEq) rNeNil := by
  intro pins s σ H x y v u Q I rx ry h
  obtain ⟨a, b, xs, rfl, rfl, ha, hb, q⟩ := h
  obtain rfl : v = Value.ref a := rx
  obtain rfl : u = Value.ref b := ry
  obtain ⟨its, rv, ⟨o, ho, hc, n, hd⟩, _⟩ := I.tuple (SqT.of ha)
  obtain ⟨its2, rv2, ⟨o2, ho2, hc2, n2, hd2⟩, _⟩ := I.tuple (SqT.of hb)
  cases rv2
  have hl := rv.length
  refine RcNeAt.tuples (e := fun _ => true) ⟨o, ho, hc, n, hd⟩ ⟨o2, ho2, hc2, n2, hd2⟩ (by omega) (fun j h1 h2 => absurd h2 (by simp)) _ _ _ _ ?_
  refine ⟨.bl (!xs.isEmpty), H, I, ?_, q⟩
  cases rv with
  | nil => rfl
  | cons _ _ =>
    show Value.bool _ = Value.bool _
    simp
end L3

/-! literals with an operator in them; a text times a number -/
namespace L3
open PySem PySem.Spec PyProof.Rows L2
/-- a text so often -/
def repS (x : Str) (n : Nat) : Str := ⟨(List.replicate n x.cps).foldl (· ++ ·) #[]⟩
theorem repS_len (x : Str) (n : Nat) : (repS x n).length = x.length * n := by
  have h : ∀ (k : Nat) (acc : Array Nat), ((List.replicate k x.cps).foldl (· ++ ·) acc).size = acc.size + x.length * k := by
    intro k
    induction k with
    | zero => intro acc; simp
    | succ k ih =>
      intro acc
      rw [List.replicate_succ, List.foldl_cons, ih, Array.size_append, Nat.mul_succ]
      show acc.size + x.length + _ = _
      omega
  have := h n #[]
  show ((List.replicate n x.cps).foldl (· ++ ·) #[]).size = _
  rw [this]
  simp
section
variable {X : Cx}
/-- a text that is not empty times a number above 1 -/
def rRepS : R2 := fun x y H Q => ∃ (a : Str) (k : Int), x = .str a ∧ y = .int k ∧ 2 ≤ k ∧ k ≤ 100000 ∧ 1 ≤ a.length ∧ a.length * k.toNat ≤ sizeLine ∧ Q (.str (repS a k.toNat)) H
theorem op_repS : OpR X (binaryOp .Mult) rRepS := by
  intro pins s σ H x y v u Q I rx ry h
  obtain ⟨a, k, rfl, rfl, k2, k3, l1, lz, q⟩ := h
  obtain ⟨t, rfl⟩ := (show ∃ t, v = Value.str a t from rx)
  obtain ⟨t', rfl⟩ := (show ∃ t, u = Value.int k t from ry)
  have n1 : (k == 1 || a.length == 0) = false := by
    rw [Bool.or_eq_false_iff]
    refine ⟨?_, ?_⟩
    · rw [beq_eq_false_iff_ne]
      omega
    · rw [beq_eq_false_iff_ne]
      omega
  refine PySem.P.mul_str ?_ (fun _ _ => ?_) (fun _ _ => ?_) ?_
  · rw [decide_eq_false (by omega), decide_eq_false (by omega)]
    rfl
  · have e : ((a.length * k.toNat : Nat) : Int) = (a.length : Int) * k := by
      rw [Int.natCast_mul, Int.toNat_of_nonneg (by omega)]
    have hz : ((a.length * k.toNat : Nat) : Int) ≤ (sizeLine : Int) := by omega
    rw [sizeLine_eq] at hz
    have : (a.length : Int) ≤ (2 ^ 63 - 1) / k := by
      rw [Int.le_ediv_iff_mul_le (by omega)]
      omega
    omega
  · exact decide_eq_false (by omega)
  · rw [if_neg (by omega), n1, if_neg Bool.false_ne_true]
    refine ⟨?_, ⟨.str (repS a k.toNat), H, I.tok _, ⟨_, rfl⟩, q⟩⟩
    show (repS a k.toNat).length ≤ sizeLine
    rw [repS_len]
    exact lz
end
section
variable {X : Cx} {e e2 : Expr} {pos : Pos} {t : Addr} {i j : Int}
theorem da_int {H : Hp} {v : V} (h : Da t H v (.int i)) : v = .int i := by cases h; rfl
theorem pl_negE (h : PE X e (tLit t (.int i))) : PE X (.UnaryOp .USub e pos) (tLit t (.int (-i))) :=
  (pe_un un_neg h).weak fun σ H Q ⟨ho, q⟩ => ⟨ho, fun H1 v s1 d1 => ⟨i, da_int d1, q H1 _ s1 (.int _)⟩⟩
theorem pl_addI (h : PE X e (tLit t (.int i))) (h2 : PE X e2 (tLit t (.int j))) : PE X (.BinOp e .Add e2 pos) (tLit t (.int (i + j))) :=
  (pe_op op_add h h2).weak fun σ H Q ⟨⟨o, ho⟩, q⟩ => ⟨⟨o, ho⟩, fun H1 v s1 d1 => ⟨⟨o, s1 _ _ ho⟩, fun H2 v2 s2 d2 => ⟨i, j, da_int d1, da_int d2, q H2 _ (s1.trans s2) (.int _)⟩⟩⟩
theorem pl_subI (h : PE X e (tLit t (.int i))) (h2 : PE X e2 (tLit t (.int j))) : PE X (.BinOp e .Sub e2 pos) (tLit t (.int (i - j))) :=
  (pe_op op_sub h h2).weak fun σ H Q ⟨⟨o, ho⟩, q⟩ => ⟨⟨o, ho⟩, fun H1 v s1 d1 => ⟨⟨o, s1 _ _ ho⟩, fun H2 v2 s2 d2 => ⟨i, j, da_int d1, da_int d2, q H2 _ (s1.trans s2) (.int _)⟩⟩⟩
theorem pl_rep {x : Str} {k : Int} (h : PE X e (tC (.str x))) (h2 : PE X e2 (tC (.int k))) (c : 2 ≤ k ∧ k ≤ 100000 ∧ 1 ≤ x.length ∧ x.length * k.toNat ≤ 100000 := by decide) : PE X (.BinOp e .Mult e2 pos) (tLit t (.str (repS x k.toNat))) :=
  (pe_op op_repS h h2).weak fun σ H Q ⟨_, q⟩ => ⟨x, k, rfl, rfl, c.1, c.2.1, c.2.2.1, Nat.le_trans c.2.2.2 (by decide), q H _ (Same.refl H) (.str _)⟩
end
/-- a new list, which is not the table of modules -/
def tLstN (t : TA) : TE := fun σ H Q => t σ H fun xs H1 => xs.length ≤ sizeLine ∧ ∀ p, H1 p = none → p ≠ sysModules → Q (.ref p) (upd H1 p (.lst xs))
theorem pe_lstN {X : Cx} {es : List Expr} {t : TA} {pos : Pos} (h : PA X es t) : PE X (.List es pos) (tLstN t) := by
  refine ⟨fun pins s σ H Q I hq => ?_⟩
  refine wpAny_List_spliced (thn (h.run pos pins s σ H (fun vs H1 => vs.length ≤ sizeLine ∧ ∀ p, H1 p = none → p ≠ sysModules → Q (.ref p) (upd H1 p (.lst vs))) I hq) fun us s1 ⟨xs, H1, I1, r, lz, kk⟩ => ⟨by rw [← r.length]; exact lz, ?_⟩)
  have hf : H1 s1.heap.objs.size = none := I1.hok.fresh (Nat.le_refl _)
  refine ⟨.ref s1.heap.objs.size, upd H1 s1.heap.objs.size (.lst xs), I1.laid (t' := s1.toks) (fun b u e => Heap.get?_push_of_some _ e) (Nat.le_refl _) ?_, rfl, kk _ hf (Nat.ne_of_gt I1.big)⟩
  exact ⟨lz, us, 0, r, Heap.get?_push_size _ rfl⟩
end L3

/-! names, wholes, texts among values of any kind -/
namespace L3
open PySem L2
theorem szl {n : Nat} (h : n ≤ 1000000) : n < sizeLine := Nat.lt_of_le_of_lt h (by decide)
structure Bl9 (mg : Str → Option Value) : Prop where
  isinstance : mg "isinstance" = none
  all : mg "all" = none
  str_ : mg "str" = none
  tuple : mg "tuple" = none
  bool : mg "bool" = none
  int : mg "int" = none
  ord : mg "ord" = none
  abs : mg "abs" = none
  max : mg "max" = none
def barL : List Str := ["data", "role", "case", "define", "derive", "picks", "above", "settles", "member", "as", "if", "given", "let", "and", "in", "match", "end"]
theorem pe_gc {X : Cx} {x : Str} {v : V} {pos : Pos} (hg : Gl X x) (h : ∃ u, X.mg x = some u ∧ RelV v u) (hd : (x == ("__debug__" : Str)) = false := by decide) : PE X (.Name x pos) (tC v) := by
  obtain ⟨u, e, r⟩ := h
  exact pe_glob hg e r hd
/-- a sign from a to z -/
def lo (c : Nat) : Bool := decide (97 ≤ c) && decide (c ≤ 122)
/-- 1 to 8 letters -/
def wok (x : Str) : Bool := decide (1 ≤ x.length) && decide (x.length ≤ 8) && x.cps.all lo
def isWordD : PyData → Bool
  | .str x => wok x
  | _ => false
def isNameD : PyData → Bool
  | .str x => wok x && !decide (x ∈ barL)
  | _ => false
def isIntD : PyData → Bool
  | .int _ => true
  | _ => false
def isWholeD : PyData → Bool
  | .int i => decide (-(10 ^ 30) ≤ i) && decide (i ≤ 10 ^ 30)
  | _ => false
/-- a sign that a text may have -/
def sgnT (c : Nat) : Bool := decide (32 ≤ c) && decide (c ≤ 126) && !decide (c = 37)
def isTextD : PyData → Bool
  | .str x => decide (x.length ≤ 200) && x.cps.all sgnT
  | _ => false
theorem lo_tab : ∀ c, c < 128 → (Unicode.isAlpha c && Unicode.isUpper c) = (decide (65 ≤ c) && decide (c ≤ 90)) ∧ Unicode.isAlpha c = (decide (65 ≤ c) && decide (c ≤ 90) || lo c) ∧ Unicode.isLower c = lo c ∧ (Unicode.isUpper c || Unicode.isTitle c) = (decide (65 ≤ c) && decide (c ≤ 90)) := by decide +kernel
theorem asc_low {x : Str} (h1 : 1 ≤ x.length) : (Txt.isascii x && (Txt.isalpha x && Txt.islower x)) = x.cps.all lo := by
  have hl : ∀ p : Nat → Bool, x.cps.all p = x.cps.toList.all p := fun p => (Array.all_toList).symm
  have hn : ∀ p : Nat → Bool, x.cps.any p = x.cps.toList.any p := fun p => (Array.any_toList).symm
  unfold Txt.isascii Txt.isalpha Txt.islower
  have e1 : decide (x.length > 0) = true := decide_eq_true h1
  rw [e1, hl, hl, hl, hn, hn]
  have h1 : 0 < x.cps.toList.length := by
    rw [Array.length_toList]
    exact h1
  generalize x.cps.toList = l at h1 ⊢
  rw [Bool.eq_iff_iff]
  simp only [Bool.true_and, Bool.and_eq_true, List.all_eq_true, List.any_eq_true, Bool.not_eq_true', List.any_eq_false, decide_eq_true_eq]
  constructor
  · rintro ⟨ha, hb, _, hc⟩ c m
    obtain ⟨_, t2, _, t4⟩ := lo_tab c (ha c m)
    have b := hb c m
    have u := hc c m
    rw [t4] at u
    rw [t2, Bool.or_eq_true] at b
    rcases b with b | b
    · exact absurd b u
    · exact b
  · intro h
    have small : ∀ c ∈ l, c < 128 := fun c m => by
      have := h c m
      unfold lo at this
      simp only [Bool.and_eq_true, decide_eq_true_eq] at this
      omega
    refine ⟨small, fun c m => ?_, ?_, fun c m => ?_⟩
    · rw [(lo_tab c (small c m)).2.1, h c m, Bool.or_true]
    · obtain ⟨c, m⟩ := List.exists_mem_of_length_pos h1
      exact ⟨c, m, by rw [(lo_tab c (small c m)).2.2.1]; exact h c m⟩
    · rw [(lo_tab c (small c m)).2.2.2]
      have := h c m
      unfold lo at this
      simp only [Bool.and_eq_true, decide_eq_true_eq] at this ⊢
      omega
end L3

namespace L3
open PySem L2
/-- all the classes, c by their number -/
structure Es (P : Program) (w : World) (K : PySem.W.Frag) (mg : Str → Option Value) (base : Heap) (c : Nat → Addr) : Prop where
  InvalidForm : E1 P w K mg base "InvalidForm" "word" mroV "ValueError.__new__" (c 0)
  InvalidDeclaration : E1 P w K mg base "InvalidDeclaration" "index" mroV "ValueError.__new__" (c 1)
  InvalidPicks : E0c K mg "InvalidPicks" mroV "ValueError.__new__" (c 2)
  Repeated : E1 P w K mg base "Repeated" "index" mroV "ValueError.__new__" (c 3)
  BadArms : E1 P w K mg base "BadArms" "index" mroV "ValueError.__new__" (c 4)
  Misshapen : E1 P w K mg base "Misshapen" "index" mroV "ValueError.__new__" (c 5)
  RoleRing : E1 P w K mg base "RoleRing" "index" mroV "ValueError.__new__" (c 6)
  BadMembers : E1 P w K mg base "BadMembers" "index" mroV "ValueError.__new__" (c 7)
  Grows : E2 P w K mg base "Grows" "index" "need" mroV "ValueError.__new__" (c 8)
  Uncovered : E1 P w K mg base "Uncovered" "index" mroV "ValueError.__new__" (c 9)
  Underivable : E2 P w K mg base "Underivable" "word" "need" mroV "ValueError.__new__" (c 10)
  Clash : E2 P w K mg base "Clash" "index" "other" mroV "ValueError.__new__" (c 11)
  Unsupported : E2 P w K mg base "Unsupported" "index" "number" mroV "ValueError.__new__" (c 12)
  Improper : E1 P w K mg base "Improper" "index" mroV "ValueError.__new__" (c 13)
  InvalidKind : E1 P w K mg base "InvalidKind" "value" mroV "ValueError.__new__" (c 14)
  InvalidNeed : E1 P w K mg base "InvalidNeed" "value" mroV "ValueError.__new__" (c 15)
  InvalidScheme : E1 P w K mg base "InvalidScheme" "value" mroV "ValueError.__new__" (c 16)
  InvalidCount : E1 P w K mg base "InvalidCount" "number" mroV "ValueError.__new__" (c 17)
  InvalidValue : E1 P w K mg base "InvalidValue" "index" mroV "ValueError.__new__" (c 18)
  InvalidLimit : E1 P w K mg base "InvalidLimit" "limit" mroV "ValueError.__new__" (c 19)
  InvalidMarked : E1 P w K mg base "InvalidMarked" "index" mroV "ValueError.__new__" (c 20)
  InvalidText : E2 P w K mg base "InvalidText" "line" "piece" mroV "ValueError.__new__" (c 21)
  InvalidDeed : E1 P w K mg base "InvalidDeed" "index" mroV "ValueError.__new__" (c 22)
  InvalidGuard : E1 P w K mg base "InvalidGuard" "index" mroV "ValueError.__new__" (c 23)
  NotClosed : E1 P w K mg base "NotClosed" "word" mroV "ValueError.__new__" (c 24)
  Unknown : E2 P w K mg base "Unknown" "index" "word" mroL "LookupError.__new__" (c 25)
  UnknownName : E1 P w K mg base "UnknownName" "value" mroL "LookupError.__new__" (c 26)
  OutOfTerm : E1 P w K mg base "OutOfTerm" "place" mroL "LookupError.__new__" (c 27)
  NoPrimitive : E1 P w K mg base "NoPrimitive" "word" mroL "LookupError.__new__" (c 28)
  NoDefinition : E1 P w K mg base "NoDefinition" "word" mroL "LookupError.__new__" (c 29)
  NoCore : E1 P w K mg base "NoCore" "where" mroL "LookupError.__new__" (c 30)
  Unmet : E1 P w K mg base "Unmet" "need" mroL "LookupError.__new__" (c 31)
  OutOfRange : E1 P w K mg base "OutOfRange" "value" mroL "LookupError.__new__" (c 32)
  Known : E1 P w K mg base "Known" "index" mroL "LookupError.__new__" (c 33)
  Missing : E1 P w K mg base "Missing" "index" mroL "LookupError.__new__" (c 34)
  Faulty : E1 P w K mg base "Faulty" "where" mroR "RuntimeError.__new__" (c 35)
  Wrong : E1 P w K mg base "Wrong" "found" mroR "RuntimeError.__new__" (c 36)
  Broken : E1 P w K mg base "Broken" "index" mroR "RuntimeError.__new__" (c 37)
/-- a row of the law: the exception, what it tells, what is due, its sort; l is the list of rows -/
def RowAt (l : Addr) (H0 H : Hp) (r : V) (C : Addr) (vs : List V) (sort : Str) : Prop := ∃ (T e l1 l2 : Addr) (d : Option Addr), r = .ref T ∧ H T = some (.tup [.ref e, .ref l1, .ref l2, .str sort]) ∧ H e = some (exo e C d) ∧ (∀ x, d = some x → ∃ fs, H x = some (exd x fs)) ∧
  H l1 = some (.lst vs) ∧ H l2 = some (.lst vs) ∧ l1 ≠ sysModules ∧ l2 ≠ sysModules ∧ l1 ≠ l ∧ l2 ≠ l ∧ H0 l1 = none ∧ H0 l2 = none
theorem exo_lst {e C : Addr} {d : Option Addr} {xs : List V} : exo e C d ≠ .lst xs := fun z => by
  have z2 : HO.ext _ = HO.lst xs := z
  cases z2
theorem exd_lst {e : Addr} {fs : List (Str × V)} {xs : List V} : exd e fs ≠ .lst xs := fun z => by
  have z2 : HO.ext _ = HO.lst xs := z
  cases z2
theorem RowAt.keep {l : Addr} {H0 H H' : Hp} {r : V} {C : Addr} {vs xs : List V} {sort : Str} (h : RowAt l H0 H r C vs sort) (hl : H l = some (.lst xs)) (k : ∀ b o, b ≠ l → H b = some o → H' b = some o) : RowAt l H0 H' r C vs sort := by
  obtain ⟨T, e, l1, l2, d, h1, h2, h3, h4, h5, h6, n1, n2, n3, n4, n5, n6⟩ := h
  refine ⟨T, e, l1, l2, d, h1, k _ _ (ne_of h2 hl (by intro z; cases z)) h2, k _ _ (ne_of h3 hl exo_lst) h3, fun x hx => ?_, k _ _ n3 h5, k _ _ n4 h6, n1, n2, n3, n4, n5, n6⟩
  obtain ⟨fs, q⟩ := h4 x hx
  exact ⟨fs, k _ _ (ne_of q hl exd_lst) q⟩
def vsOf (x y : V) : Nat → List V
  | 0 => []
  | 1 => [x, x]
  | _ => [x, y, x, y]
/-- the rows so far -/
def Rows (l : Addr) (x y : V) (c : Nat → Addr) (H0 H : Hp) (spec : List (Nat × Nat × Str)) : Prop := ∃ rs, H l = some (.lst rs) ∧ H0 l = none ∧ Paired (fun r q => RowAt l H0 H r (c q.1) (vsOf x y q.2.1) q.2.2) rs spec ∧ ∀ b o, b ≠ l → H0 b = some o → H b = some o
section
variable {P : Program} {w : World} {K : PySem.W.Frag} {mg : Str → Option Value} {base : Heap} {c : Nat → Addr}
theorem size_lineX {n : Nat} (h : n ≤ 100000) : n < sizeLine := Nat.lt_of_le_of_lt h (by decide)
theorem made1 {H : Hp} {a d C : Addr} {f : Str} {x : V} (ha : H a = none) (hd : upd H a (exo a C none) d = none) (nd : d ≠ a) : Same H (upd (upd (upd H a (exo a C none)) d (exd d [(f, x)])) a (exo a C (some d))) ∧
    (upd (upd (upd H a (exo a C none)) d (exd d [(f, x)])) a (exo a C (some d))) a = some (exo a C (some d)) ∧ (upd (upd (upd H a (exo a C none)) d (exd d [(f, x)])) a (exo a C (some d))) d = some (exd d [(f, x)]) := by
  refine ⟨fun b o q => ?_, upd_same, by rw [upd_ne nd, upd_same]⟩
  have hd2 : H d = none := by rw [upd_ne nd] at hd; exact hd
  rw [upd_ne (ne_of_none q ha), upd_ne (ne_of_none q hd2), upd_ne (ne_of_none q ha)]
  exact q
theorem made2 {H : Hp} {a d C : Addr} {f g : Str} {x y : V} (ha : H a = none) (hd : upd H a (exo a C none) d = none) (nd : d ≠ a) : Same H (upd (upd (upd (upd H a (exo a C none)) d (exd d [(f, x)])) a (exo a C (some d))) d (exd d [(g, y), (f, x)])) ∧
    (upd (upd (upd (upd H a (exo a C none)) d (exd d [(f, x)])) a (exo a C (some d))) d (exd d [(g, y), (f, x)])) a = some (exo a C (some d)) ∧ (upd (upd (upd (upd H a (exo a C none)) d (exd d [(f, x)])) a (exo a C (some d))) d (exd d [(g, y), (f, x)])) d = some (exd d [(g, y), (f, x)]) := by
  refine ⟨fun b o q => ?_, by rw [upd_ne nd.symm, upd_same], upd_same⟩
  have hd2 : H d = none := by rw [upd_ne nd] at hd; exact hd
  rw [upd_ne (ne_of_none q hd2), upd_ne (ne_of_none q ha), upd_ne (ne_of_none q hd2), upd_ne (ne_of_none q ha)]
  exact q
theorem row0_ok {xx : Str} {bm : List Value} {nw : String} {C : Addr} {i : Nat} {sort : Str} {rest : TS} {D : Ends} {x y : V} {l : Addr} {v3 v4 : Option V} {H0 H : Hp} {spec : List (Nat × Nat × Str)} (E : E0c K mg xx bm nw C) (hc : c i = C) (W : Rows l x y c H0 H spec) (hz : spec.length ≤ 100)
    (k : ∀ H' v3 v4, Rows l x y c H0 H' (spec ++ [(i, 0, sort)]) → rest D [some x, some y, some (.ref l), v3, v4] H') :
    tSeq (tPar 3 4 (tCons (fun _ H Q => ∀ a, H a = none → Q (.ref a) (upd H a (exo a C none))) (tCons (fun _ H Q => ∀ a, H a = none → Q (.ref a) (upd H a (exo a C none))) tNil))) (tSeq (tDrop (tBM K "list" rAppend (tVar 2) (tCons (tTup (tCons (tVar 3) (tCons (tLstN tNil) (tCons (tLstN tNil) (tCons (tC (.str sort)) tNil))))) tNil))) rest) D [some x, some y, some (.ref l), v3, v4] H := by
  obtain ⟨rs, gl, nl, pr, kp⟩ := W
  have lr : rs.length = spec.length := Paired.length pr
  refine fun a ha => ?_
  have s1 := same_new (o := exo a C none) ha
  have ea : (upd H a (exo a C none)) a = some (exo a C none) := upd_same
  generalize upd H a (exo a C none) = H1 at s1 ea ⊢
  refine fun a2 ha2 => ⟨_, _, rfl, ?_⟩
  have s2 := same_new (o := exo a2 C none) ha2
  replace ea := s2 _ _ ea
  have dx : ∀ x, (none : Option Addr) = some x → ∃ fs, (upd H1 a2 (exo a2 C none)) x = some (exd x fs) := fun _ z => nomatch z
  have s12 := s1.trans s2
  generalize upd H1 a2 (exo a2 C none) = H2 at s12 ea dx ⊢
  have gl2 := s12 _ _ gl
  dsimp only
  refine ⟨_, rfl, .inl ⟨rfl, _, SqL.of gl2⟩, _, rfl, slz rfl, fun l1 h1 n1 => ?_⟩
  refine ⟨slz rfl, fun l2 h2 n2 => ⟨slz rfl, fun T hT => ?_⟩⟩
  have s3 := same_new (o := .lst []) h1
  have s4 := same_new (o := .lst []) h2
  have s5 := same_new (o := .tup [.ref a, .ref l1, .ref l2, .str sort]) hT
  have S := s12.trans (s3.trans (s4.trans s5))
  have g1 := (s4.trans s5) l1 _ (upd_same (H := H2) (o := .lst []))
  have g2 := s5 l2 _ (upd_same (o := .lst []))
  have e1 := (s3.trans (s4.trans s5)) _ _ ea
  have d1 : ∀ z, (none : Option Addr) = some z → ∃ fs, (upd (upd (upd H2 l1 (.lst [])) l2 (.lst [])) T (.tup [.ref a, .ref l1, .ref l2, .str sort])) z = some (exd z fs) := fun z e => by
    obtain ⟨fs, q⟩ := dx z e
    exact ⟨fs, (s3.trans (s4.trans s5)) _ _ q⟩
  have gT : (upd (upd (upd H2 l1 (.lst [])) l2 (.lst [])) T (.tup [.ref a, .ref l1, .ref l2, .str sort])) T = some (.tup [.ref a, .ref l1, .ref l2, .str sort]) := upd_same
  have m1 : l1 ≠ l := (ne_of_none gl2 h1).symm
  have m2 : l2 ≠ l := (ne_of_none (s3 _ _ gl2) h2).symm
  have glT := S _ _ gl
  have z1 : H0 l1 = none := by
    cases q : H0 l1 with
    | none => rfl
    | some o =>
      have := s12 _ _ (kp _ _ m1 q)
      rw [h1] at this
      cases this
  have z2 : H0 l2 = none := by
    cases q : H0 l2 with
    | none => rfl
    | some o =>
      have := s3 _ _ (s12 _ _ (kp _ _ m2 q))
      rw [h2] at this
      cases this
  generalize upd (upd (upd H2 l1 (.lst [])) l2 (.lst [])) T (.tup [.ref a, .ref l1, .ref l2, .str sort]) = H3 at S g1 g2 e1 d1 gT glT ⊢
  refine ⟨l, rs, _, rfl, rfl, glT, size_lineX (by omega), ?_⟩
  have kk : ∀ b o, b ≠ l → H3 b = some o → (upd H3 l (.lst (rs ++ [V.ref T]))) b = some o := fun b o nb q => by
    rw [upd_ne nb]
    exact q
  refine k _ _ _ ⟨rs ++ [.ref T], upd_same, nl, ?_, fun b o nb q => kk b o nb (S _ _ (kp b o nb q))⟩
  refine Paired.snoc (paired_map (fun _ _ q => (q.keep gl fun b o _ z => S _ _ z).keep glT kk) pr) ?_
  have new : RowAt l H0 H3 (.ref T) C [] sort := ⟨T, a, l1, l2, none, rfl, gT, e1, d1, g1, g2, n1, n2, m1, m2, z1, z2⟩
  show RowAt l H0 _ (.ref T) (c i) [] sort
  rw [hc]
  exact new.keep glT kk
theorem row1_ok {xx f : Str} {bm : List Value} {nw : String} {C : Addr} {i : Nat} {sort : Str} {rest : TS} {D : Ends} {x y : V} {l : Addr} {v3 v4 : Option V} {H0 H : Hp} {spec : List (Nat × Nat × Str)} (E : E1 P w K mg base xx f bm nw C) (hc : c i = C) (W : Rows l x y c H0 H spec) (hz : spec.length ≤ 100)
    (k : ∀ H' v3 v4, Rows l x y c H0 H' (spec ++ [(i, 1, sort)]) → rest D [some x, some y, some (.ref l), v3, v4] H') :
    tSeq (tPar 3 4 (tCons (tNewX C (spI1 K bm nw f) (tCons (tVar 0) tNil)) (tCons (tNewK C (spI1 K bm nw f) gV1 (tCons (tVar 0) tNil)) tNil))) (tSeq (tDrop (tBM K "list" rAppend (tVar 2) (tCons (tTup (tCons (tVar 3) (tCons (tLstN (tCons (tFld K f (tVar 3)) (tCons (tFld K f (tVar 4)) tNil))) (tCons (tLstN (tCons (tVar 0) (tCons (tVar 0) tNil))) (tCons (tC (.str sort)) tNil))))) tNil))) rest) D [some x, some y, some (.ref l), v3, v4] H := by
  obtain ⟨rs, gl, nl, pr, kp⟩ := W
  have lr : rs.length = spec.length := Paired.length pr
  refine ⟨_, rfl, Nat.le_of_ble_eq_true rfl, fun a ha => ⟨a, C, x, rfl, E.T, E.tk, upd_same, fun d hd nd => ⟨rfl, ?_⟩⟩⟩
  obtain ⟨s1, ea, ed⟩ := made1 (f := f) (x := x) ha hd nd
  generalize upd (upd (upd H a (exo a C none)) d (exd d [(f, x)])) a (exo a C (some d)) = H1 at s1 ea ed ⊢
  refine ⟨_, rfl, fun a2 ha2 => ⟨a2, C, x, rfl, E.T, E.tk, upd_same, fun d2 hd2 nd2 => ⟨rfl, ?_⟩⟩⟩
  obtain ⟨s2, ea2, ed2⟩ := made1 (f := f) (x := x) ha2 hd2 nd2
  generalize upd (upd (upd H1 a2 (exo a2 C none)) d2 (exd d2 [(f, x)])) a2 (exo a2 C (some d2)) = H2 at s2 ea2 ed2 ⊢
  refine ⟨_, _, rfl, ?_⟩
  replace ea := s2 _ _ ea
  replace ed := s2 _ _ ed
  have s12 := s1.trans s2
  have dx : ∀ z, (some d : Option Addr) = some z → ∃ fs, H2 z = some (exd z fs) := fun z e => by
    cases e
    exact ⟨_, ed⟩
  have lk1 : ([(f, x)] : List (Str × V)).lookup f = some x := by simp [List.lookup]
  have gl2 := s12 _ _ gl
  dsimp only
  refine ⟨_, rfl, .inl ⟨rfl, _, SqL.of gl2⟩, _, rfl, _, rfl, a, C, d, _, x, rfl, E.R, E.no, ea, ed, lk1, _, rfl, a2, C, d2, _, x, rfl, E.R, E.no, ea2, ed2, lk1, slz rfl, fun l1 h1 n1 => ?_⟩
  refine ⟨_, rfl, _, rfl, slz rfl, fun l2 h2 n2 => ⟨slz rfl, fun T hT => ?_⟩⟩
  have s3 := same_new (o := .lst [x, x]) h1
  have s4 := same_new (o := .lst [x, x]) h2
  have s5 := same_new (o := .tup [.ref a, .ref l1, .ref l2, .str sort]) hT
  have S := s12.trans (s3.trans (s4.trans s5))
  have g1 := (s4.trans s5) l1 _ (upd_same (H := H2) (o := .lst [x, x]))
  have g2 := s5 l2 _ (upd_same (o := .lst [x, x]))
  have e1 := (s3.trans (s4.trans s5)) _ _ ea
  have d1 : ∀ z, ((some d) : Option Addr) = some z → ∃ fs, (upd (upd (upd H2 l1 (.lst [x, x])) l2 (.lst [x, x])) T (.tup [.ref a, .ref l1, .ref l2, .str sort])) z = some (exd z fs) := fun z e => by
    obtain ⟨fs, q⟩ := dx z e
    exact ⟨fs, (s3.trans (s4.trans s5)) _ _ q⟩
  have gT : (upd (upd (upd H2 l1 (.lst [x, x])) l2 (.lst [x, x])) T (.tup [.ref a, .ref l1, .ref l2, .str sort])) T = some (.tup [.ref a, .ref l1, .ref l2, .str sort]) := upd_same
  have m1 : l1 ≠ l := (ne_of_none gl2 h1).symm
  have m2 : l2 ≠ l := (ne_of_none (s3 _ _ gl2) h2).symm
  have glT := S _ _ gl
  have z1 : H0 l1 = none := by
    cases q : H0 l1 with
    | none => rfl
    | some o =>
      have := s12 _ _ (kp _ _ m1 q)
      rw [h1] at this
      cases this
  have z2 : H0 l2 = none := by
    cases q : H0 l2 with
    | none => rfl
    | some o =>
      have := s3 _ _ (s12 _ _ (kp _ _ m2 q))
      rw [h2] at this
      cases this
  generalize upd (upd (upd H2 l1 (.lst [x, x])) l2 (.lst [x, x])) T (.tup [.ref a, .ref l1, .ref l2, .str sort]) = H3 at S g1 g2 e1 d1 gT glT ⊢
  refine ⟨l, rs, _, rfl, rfl, glT, size_lineX (by omega), ?_⟩
  have kk : ∀ b o, b ≠ l → H3 b = some o → (upd H3 l (.lst (rs ++ [V.ref T]))) b = some o := fun b o nb q => by
    rw [upd_ne nb]
    exact q
  refine k _ _ _ ⟨rs ++ [.ref T], upd_same, nl, ?_, fun b o nb q => kk b o nb (S _ _ (kp b o nb q))⟩
  refine Paired.snoc (paired_map (fun _ _ q => (q.keep gl fun b o _ z => S _ _ z).keep glT kk) pr) ?_
  have new : RowAt l H0 H3 (.ref T) C [x, x] sort := ⟨T, a, l1, l2, (some d), rfl, gT, e1, d1, g1, g2, n1, n2, m1, m2, z1, z2⟩
  show RowAt l H0 _ (.ref T) (c i) [x, x] sort
  rw [hc]
  exact new.keep glT kk
theorem row2_ok {xx f g : Str} {bm : List Value} {nw : String} {C : Addr} {i : Nat} {sort : Str} {rest : TS} {D : Ends} {x y : V} {l : Addr} {v3 v4 : Option V} {H0 H : Hp} {spec : List (Nat × Nat × Str)} (E : E2 P w K mg base xx f g bm nw C) (hfg : ¬ f = g) (hc : c i = C) (W : Rows l x y c H0 H spec) (hz : spec.length ≤ 100)
    (k : ∀ H' v3 v4, Rows l x y c H0 H' (spec ++ [(i, 2, sort)]) → rest D [some x, some y, some (.ref l), v3, v4] H') :
    tSeq (tPar 3 4 (tCons (tNewX C (spI2 K bm nw f g) (tCons (tVar 0) (tCons (tVar 1) tNil))) (tCons (tNewK C (spI2 K bm nw f g) gV2 (tCons (tVar 1) (tCons (tVar 0) tNil))) tNil))) (tSeq (tDrop (tBM K "list" rAppend (tVar 2) (tCons (tTup (tCons (tVar 3) (tCons (tLstN (tCons (tFld K f (tVar 3)) (tCons (tFld K g (tVar 3)) (tCons (tFld K f (tVar 4)) (tCons (tFld K g (tVar 4)) tNil))))) (tCons (tLstN (tCons (tVar 0) (tCons (tVar 1) (tCons (tVar 0) (tCons (tVar 1) tNil))))) (tCons (tC (.str sort)) tNil))))) tNil))) rest) D [some x, some y, some (.ref l), v3, v4] H := by
  obtain ⟨rs, gl, nl, pr, kp⟩ := W
  have lr : rs.length = spec.length := Paired.length pr
  refine ⟨_, rfl, _, rfl, Nat.le_of_ble_eq_true rfl, fun a ha => ⟨a, C, x, y, rfl, E.T, E.tk, E.tk2, upd_same, fun d hd nd => ⟨rfl, ?_⟩⟩⟩
  obtain ⟨s1, ea, ed⟩ := made2 (f := f) (x := x) (g := g) (y := y) ha hd nd
  generalize upd (upd (upd (upd H a (exo a C none)) d (exd d [(f, x)])) a (exo a C (some d))) d (exd d [(g, y), (f, x)]) = H1 at s1 ea ed ⊢
  refine ⟨_, rfl, _, rfl, fun a2 ha2 => ⟨a2, C, x, y, rfl, E.T, E.tk, E.tk2, upd_same, fun d2 hd2 nd2 => ⟨rfl, ?_⟩⟩⟩
  obtain ⟨s2, ea2, ed2⟩ := made2 (f := f) (x := x) (g := g) (y := y) ha2 hd2 nd2
  generalize upd (upd (upd (upd H1 a2 (exo a2 C none)) d2 (exd d2 [(f, x)])) a2 (exo a2 C (some d2))) d2 (exd d2 [(g, y), (f, x)]) = H2 at s2 ea2 ed2 ⊢
  refine ⟨_, _, rfl, ?_⟩
  replace ea := s2 _ _ ea
  replace ed := s2 _ _ ed
  have s12 := s1.trans s2
  have dx : ∀ z, (some d : Option Addr) = some z → ∃ fs, H2 z = some (exd z fs) := fun z e => by
    cases e
    exact ⟨_, ed⟩
  have lkf : ([(g, y), (f, x)] : List (Str × V)).lookup f = some x := by
    rw [lookup_put, if_neg hfg]
    simp [List.lookup]
  have lkg : ([(g, y), (f, x)] : List (Str × V)).lookup g = some y := by simp [List.lookup]
  have gl2 := s12 _ _ gl
  dsimp only
  refine ⟨_, rfl, .inl ⟨rfl, _, SqL.of gl2⟩, _, rfl, _, rfl, a, C, d, _, x, rfl, E.R, E.no, ea, ed, lkf, _, rfl, a, C, d, _, y, rfl, E.R, E.no2, ea, ed, lkg, _, rfl, a2, C, d2, _, x, rfl, E.R, E.no, ea2, ed2, lkf, _, rfl, a2, C, d2, _, y, rfl, E.R, E.no2, ea2, ed2, lkg, slz rfl, fun l1 h1 n1 => ?_⟩
  refine ⟨_, rfl, _, rfl, _, rfl, _, rfl, slz rfl, fun l2 h2 n2 => ⟨slz rfl, fun T hT => ?_⟩⟩
  have s3 := same_new (o := .lst [x, y, x, y]) h1
  have s4 := same_new (o := .lst [x, y, x, y]) h2
  have s5 := same_new (o := .tup [.ref a, .ref l1, .ref l2, .str sort]) hT
  have S := s12.trans (s3.trans (s4.trans s5))
  have g1 := (s4.trans s5) l1 _ (upd_same (H := H2) (o := .lst [x, y, x, y]))
  have g2 := s5 l2 _ (upd_same (o := .lst [x, y, x, y]))
  have e1 := (s3.trans (s4.trans s5)) _ _ ea
  have d1 : ∀ z, ((some d) : Option Addr) = some z → ∃ fs, (upd (upd (upd H2 l1 (.lst [x, y, x, y])) l2 (.lst [x, y, x, y])) T (.tup [.ref a, .ref l1, .ref l2, .str sort])) z = some (exd z fs) := fun z e => by
    obtain ⟨fs, q⟩ := dx z e
    exact ⟨fs, (s3.trans (s4.trans s5)) _ _ q⟩
  have gT : (upd (upd (upd H2 l1 (.lst [x, y, x, y])) l2 (.lst [x, y, x, y])) T (.tup [.ref a, .ref l1, .ref l2, .str sort])) T = some (.tup [.ref a, .ref l1, .ref l2, .str sort]) := upd_same
  have m1 : l1 ≠ l := (ne_of_none gl2 h1).symm
  have m2 : l2 ≠ l := (ne_of_none (s3 _ _ gl2) h2).symm
  have glT := S _ _ gl
  have z1 : H0 l1 = none := by
    cases q : H0 l1 with
    | none => rfl
    | some o =>
      have := s12 _ _ (kp _ _ m1 q)
      rw [h1] at this
      cases this
  have z2 : H0 l2 = none := by
    cases q : H0 l2 with
    | none => rfl
    | some o =>
      have := s3 _ _ (s12 _ _ (kp _ _ m2 q))
      rw [h2] at this
      cases this
  generalize upd (upd (upd H2 l1 (.lst [x, y, x, y])) l2 (.lst [x, y, x, y])) T (.tup [.ref a, .ref l1, .ref l2, .str sort]) = H3 at S g1 g2 e1 d1 gT glT ⊢
  refine ⟨l, rs, _, rfl, rfl, glT, size_lineX (by omega), ?_⟩
  have kk : ∀ b o, b ≠ l → H3 b = some o → (upd H3 l (.lst (rs ++ [V.ref T]))) b = some o := fun b o nb q => by
    rw [upd_ne nb]
    exact q
  refine k _ _ _ ⟨rs ++ [.ref T], upd_same, nl, ?_, fun b o nb q => kk b o nb (S _ _ (kp b o nb q))⟩
  refine Paired.snoc (paired_map (fun _ _ q => (q.keep gl fun b o _ z => S _ _ z).keep glT kk) pr) ?_
  have new : RowAt l H0 H3 (.ref T) C [x, y, x, y] sort := ⟨T, a, l1, l2, (some d), rfl, gT, e1, d1, g1, g2, n1, n2, m1, m2, z1, z2⟩
  show RowAt l H0 _ (.ref T) (c i) [x, y, x, y] sort
  rw [hc]
  exact new.keep glT kk
end
end L3

namespace L3
open PySem L2
def speca : List (Nat × Nat × Str) := [(0, 1, "value"), (1, 1, "value"), (2, 0, "value"), (3, 1, "value"), (4, 1, "value"), (5, 1, "value"), (6, 1, "value"), (7, 1, "value"), (8, 2, "value"), (9, 1, "value"), (10, 2, "value"), (11, 2, "value"), (12, 2, "value")]
def spErr (c : Nat → Addr) (spec : List (Nat × Nat × Str)) : Sp := fun vs H Q _ => ∃ x y : V, vs = [x, y] ∧ ∀ H' l, Rows l x y c H H' spec → Q (.ref l) H'
section
variable {P : Program} {w : World} {K : PySem.W.Frag} {mg : Str → Option Value} {base : Heap} {c : Nat → Addr}
abbrev s__law_errors_a : Stmt := topS 44
abbrev N__law_errors_a : List Str := ["_law_x", "_law_y", "_law_rows", "_law_e", "_law_f"]
theorem sc__law_errors_a : FnScope N__law_errors_a ["_law_x", "_law_y"] (defScope s__law_errors_a) := ⟨rfl, rfl, rfl, by decide +kernel, rfl, by decide +kernel, by decide +kernel⟩
theorem ok_ea {f : Addr} {fd : FuncData} (F : Fun K "_law_errors_a" "_law_errors_a" s__law_errors_a f fd) (Es : Es P w K mg base c) : FnOk P w K mg base CX0 3 f fd ["_law_x", "_law_y"] (spErr c speca) := by
  refine F.ok sc__law_errors_a (fun vs H Q E h => ?_) (fun cdv A outer s H vs Q E hr h => ?_)
  · obtain ⟨x, y, rfl, _⟩ := h
    rfl
  · obtain ⟨x, y, rfl, k⟩ := h
    have hr2 : Room 2 _ := hr
    refine ⟨_, (pss_cons (ps_set (i := 2) sc__law_errors_a.nd rfl (Or.inl rfl) (pe_lstN pa_nil))
  (pss_cons (ps_par (i := 3) (j := 4) (by rfl) sc__law_errors_a.nd rfl rfl (by decide) rfl rfl (pa_cons (pe_newX PySem.F.excBase_ValueError Es.InvalidForm.T Es.InvalidForm.I hr2 Es.InvalidForm.hm (pa_cons (pv 0) pa_nil)) (pa_cons (pe_newK PySem.F.excBase_ValueError Es.InvalidForm.T Es.InvalidForm.J hr2 Es.InvalidForm.hm (pk_cons (pv 0) pk_nil)) pa_nil)) (by rfl))
  (pss_cons (ps_expr (pe_bm PySem.F.plainAttrs_list PySem.F.slot_list_append PySem.F.type_list_append mt_append (pv 2) (pa_cons (pe_tup (pa_cons (pv 3) (pa_cons (pe_lstN (pa_cons (pe_fld (pv 3)) (pa_cons (pe_fld (pv 4)) pa_nil))) (pa_cons (pe_lstN (pa_cons (pv 0) (pa_cons (pv 0) pa_nil))) (pa_cons pe_str pa_nil))))) pa_nil)))
  (pss_cons (ps_par (i := 3) (j := 4) (by rfl) sc__law_errors_a.nd rfl rfl (by decide) rfl rfl (pa_cons (pe_newX PySem.F.excBase_ValueError Es.InvalidDeclaration.T Es.InvalidDeclaration.I hr2 Es.InvalidDeclaration.hm (pa_cons (pv 0) pa_nil)) (pa_cons (pe_newK PySem.F.excBase_ValueError Es.InvalidDeclaration.T Es.InvalidDeclaration.J hr2 Es.InvalidDeclaration.hm (pk_cons (pv 0) pk_nil)) pa_nil)) (by rfl))
  (pss_cons (ps_expr (pe_bm PySem.F.plainAttrs_list PySem.F.slot_list_append PySem.F.type_list_append mt_append (pv 2) (pa_cons (pe_tup (pa_cons (pv 3) (pa_cons (pe_lstN (pa_cons (pe_fld (pv 3)) (pa_cons (pe_fld (pv 4)) pa_nil))) (pa_cons (pe_lstN (pa_cons (pv 0) (pa_cons (pv 0) pa_nil))) (pa_cons pe_str pa_nil))))) pa_nil)))
  (pss_cons (ps_par (i := 3) (j := 4) (by rfl) sc__law_errors_a.nd rfl rfl (by decide) rfl rfl (pa_cons (pe_new0 PySem.F.excBase_ValueError Es.InvalidPicks.q Es.InvalidPicks.hm Es.InvalidPicks.kC) (pa_cons (pe_new0 PySem.F.excBase_ValueError Es.InvalidPicks.q Es.InvalidPicks.hm Es.InvalidPicks.kC) pa_nil)) (by rfl))
  (pss_cons (ps_expr (pe_bm PySem.F.plainAttrs_list PySem.F.slot_list_append PySem.F.type_list_append mt_append (pv 2) (pa_cons (pe_tup (pa_cons (pv 3) (pa_cons (pe_lstN pa_nil) (pa_cons (pe_lstN pa_nil) (pa_cons pe_str pa_nil))))) pa_nil)))
  (pss_cons (ps_par (i := 3) (j := 4) (by rfl) sc__law_errors_a.nd rfl rfl (by decide) rfl rfl (pa_cons (pe_newX PySem.F.excBase_ValueError Es.Repeated.T Es.Repeated.I hr2 Es.Repeated.hm (pa_cons (pv 0) pa_nil)) (pa_cons (pe_newK PySem.F.excBase_ValueError Es.Repeated.T Es.Repeated.J hr2 Es.Repeated.hm (pk_cons (pv 0) pk_nil)) pa_nil)) (by rfl))
  (pss_cons (ps_expr (pe_bm PySem.F.plainAttrs_list PySem.F.slot_list_append PySem.F.type_list_append mt_append (pv 2) (pa_cons (pe_tup (pa_cons (pv 3) (pa_cons (pe_lstN (pa_cons (pe_fld (pv 3)) (pa_cons (pe_fld (pv 4)) pa_nil))) (pa_cons (pe_lstN (pa_cons (pv 0) (pa_cons (pv 0) pa_nil))) (pa_cons pe_str pa_nil))))) pa_nil)))
  (pss_cons (ps_par (i := 3) (j := 4) (by rfl) sc__law_errors_a.nd rfl rfl (by decide) rfl rfl (pa_cons (pe_newX PySem.F.excBase_ValueError Es.BadArms.T Es.BadArms.I hr2 Es.BadArms.hm (pa_cons (pv 0) pa_nil)) (pa_cons (pe_newK PySem.F.excBase_ValueError Es.BadArms.T Es.BadArms.J hr2 Es.BadArms.hm (pk_cons (pv 0) pk_nil)) pa_nil)) (by rfl))
  (pss_cons (ps_expr (pe_bm PySem.F.plainAttrs_list PySem.F.slot_list_append PySem.F.type_list_append mt_append (pv 2) (pa_cons (pe_tup (pa_cons (pv 3) (pa_cons (pe_lstN (pa_cons (pe_fld (pv 3)) (pa_cons (pe_fld (pv 4)) pa_nil))) (pa_cons (pe_lstN (pa_cons (pv 0) (pa_cons (pv 0) pa_nil))) (pa_cons pe_str pa_nil))))) pa_nil)))
  (pss_cons (ps_par (i := 3) (j := 4) (by rfl) sc__law_errors_a.nd rfl rfl (by decide) rfl rfl (pa_cons (pe_newX PySem.F.excBase_ValueError Es.Misshapen.T Es.Misshapen.I hr2 Es.Misshapen.hm (pa_cons (pv 0) pa_nil)) (pa_cons (pe_newK PySem.F.excBase_ValueError Es.Misshapen.T Es.Misshapen.J hr2 Es.Misshapen.hm (pk_cons (pv 0) pk_nil)) pa_nil)) (by rfl))
  (pss_cons (ps_expr (pe_bm PySem.F.plainAttrs_list PySem.F.slot_list_append PySem.F.type_list_append mt_append (pv 2) (pa_cons (pe_tup (pa_cons (pv 3) (pa_cons (pe_lstN (pa_cons (pe_fld (pv 3)) (pa_cons (pe_fld (pv 4)) pa_nil))) (pa_cons (pe_lstN (pa_cons (pv 0) (pa_cons (pv 0) pa_nil))) (pa_cons pe_str pa_nil))))) pa_nil)))
  (pss_cons (ps_par (i := 3) (j := 4) (by rfl) sc__law_errors_a.nd rfl rfl (by decide) rfl rfl (pa_cons (pe_newX PySem.F.excBase_ValueError Es.RoleRing.T Es.RoleRing.I hr2 Es.RoleRing.hm (pa_cons (pv 0) pa_nil)) (pa_cons (pe_newK PySem.F.excBase_ValueError Es.RoleRing.T Es.RoleRing.J hr2 Es.RoleRing.hm (pk_cons (pv 0) pk_nil)) pa_nil)) (by rfl))
  (pss_cons (ps_expr (pe_bm PySem.F.plainAttrs_list PySem.F.slot_list_append PySem.F.type_list_append mt_append (pv 2) (pa_cons (pe_tup (pa_cons (pv 3) (pa_cons (pe_lstN (pa_cons (pe_fld (pv 3)) (pa_cons (pe_fld (pv 4)) pa_nil))) (pa_cons (pe_lstN (pa_cons (pv 0) (pa_cons (pv 0) pa_nil))) (pa_cons pe_str pa_nil))))) pa_nil)))
  (pss_cons (ps_par (i := 3) (j := 4) (by rfl) sc__law_errors_a.nd rfl rfl (by decide) rfl rfl (pa_cons (pe_newX PySem.F.excBase_ValueError Es.BadMembers.T Es.BadMembers.I hr2 Es.BadMembers.hm (pa_cons (pv 0) pa_nil)) (pa_cons (pe_newK PySem.F.excBase_ValueError Es.BadMembers.T Es.BadMembers.J hr2 Es.BadMembers.hm (pk_cons (pv 0) pk_nil)) pa_nil)) (by rfl))
  (pss_cons (ps_expr (pe_bm PySem.F.plainAttrs_list PySem.F.slot_list_append PySem.F.type_list_append mt_append (pv 2) (pa_cons (pe_tup (pa_cons (pv 3) (pa_cons (pe_lstN (pa_cons (pe_fld (pv 3)) (pa_cons (pe_fld (pv 4)) pa_nil))) (pa_cons (pe_lstN (pa_cons (pv 0) (pa_cons (pv 0) pa_nil))) (pa_cons pe_str pa_nil))))) pa_nil)))
  (pss_cons (ps_par (i := 3) (j := 4) (by rfl) sc__law_errors_a.nd rfl rfl (by decide) rfl rfl (pa_cons (pe_newX PySem.F.excBase_ValueError Es.Grows.T Es.Grows.I hr2 Es.Grows.hm (pa_cons (pv 0) (pa_cons (pv 1) pa_nil))) (pa_cons (pe_newK PySem.F.excBase_ValueError Es.Grows.T Es.Grows.J hr2 Es.Grows.hm (pk_cons (pv 1) (pk_cons (pv 0) pk_nil))) pa_nil)) (by rfl))
  (pss_cons (ps_expr (pe_bm PySem.F.plainAttrs_list PySem.F.slot_list_append PySem.F.type_list_append mt_append (pv 2) (pa_cons (pe_tup (pa_cons (pv 3) (pa_cons (pe_lstN (pa_cons (pe_fld (pv 3)) (pa_cons (pe_fld (pv 3)) (pa_cons (pe_fld (pv 4)) (pa_cons (pe_fld (pv 4)) pa_nil))))) (pa_cons (pe_lstN (pa_cons (pv 0) (pa_cons (pv 1) (pa_cons (pv 0) (pa_cons (pv 1) pa_nil))))) (pa_cons pe_str pa_nil))))) pa_nil)))
  (pss_cons (ps_par (i := 3) (j := 4) (by rfl) sc__law_errors_a.nd rfl rfl (by decide) rfl rfl (pa_cons (pe_newX PySem.F.excBase_ValueError Es.Uncovered.T Es.Uncovered.I hr2 Es.Uncovered.hm (pa_cons (pv 0) pa_nil)) (pa_cons (pe_newK PySem.F.excBase_ValueError Es.Uncovered.T Es.Uncovered.J hr2 Es.Uncovered.hm (pk_cons (pv 0) pk_nil)) pa_nil)) (by rfl))
  (pss_cons (ps_expr (pe_bm PySem.F.plainAttrs_list PySem.F.slot_list_append PySem.F.type_list_append mt_append (pv 2) (pa_cons (pe_tup (pa_cons (pv 3) (pa_cons (pe_lstN (pa_cons (pe_fld (pv 3)) (pa_cons (pe_fld (pv 4)) pa_nil))) (pa_cons (pe_lstN (pa_cons (pv 0) (pa_cons (pv 0) pa_nil))) (pa_cons pe_str pa_nil))))) pa_nil)))
  (pss_cons (ps_par (i := 3) (j := 4) (by rfl) sc__law_errors_a.nd rfl rfl (by decide) rfl rfl (pa_cons (pe_newX PySem.F.excBase_ValueError Es.Underivable.T Es.Underivable.I hr2 Es.Underivable.hm (pa_cons (pv 0) (pa_cons (pv 1) pa_nil))) (pa_cons (pe_newK PySem.F.excBase_ValueError Es.Underivable.T Es.Underivable.J hr2 Es.Underivable.hm (pk_cons (pv 1) (pk_cons (pv 0) pk_nil))) pa_nil)) (by rfl))
  (pss_cons (ps_expr (pe_bm PySem.F.plainAttrs_list PySem.F.slot_list_append PySem.F.type_list_append mt_append (pv 2) (pa_cons (pe_tup (pa_cons (pv 3) (pa_cons (pe_lstN (pa_cons (pe_fld (pv 3)) (pa_cons (pe_fld (pv 3)) (pa_cons (pe_fld (pv 4)) (pa_cons (pe_fld (pv 4)) pa_nil))))) (pa_cons (pe_lstN (pa_cons (pv 0) (pa_cons (pv 1) (pa_cons (pv 0) (pa_cons (pv 1) pa_nil))))) (pa_cons pe_str pa_nil))))) pa_nil)))
  (pss_cons (ps_par (i := 3) (j := 4) (by rfl) sc__law_errors_a.nd rfl rfl (by decide) rfl rfl (pa_cons (pe_newX PySem.F.excBase_ValueError Es.Clash.T Es.Clash.I hr2 Es.Clash.hm (pa_cons (pv 0) (pa_cons (pv 1) pa_nil))) (pa_cons (pe_newK PySem.F.excBase_ValueError Es.Clash.T Es.Clash.J hr2 Es.Clash.hm (pk_cons (pv 1) (pk_cons (pv 0) pk_nil))) pa_nil)) (by rfl))
  (pss_cons (ps_expr (pe_bm PySem.F.plainAttrs_list PySem.F.slot_list_append PySem.F.type_list_append mt_append (pv 2) (pa_cons (pe_tup (pa_cons (pv 3) (pa_cons (pe_lstN (pa_cons (pe_fld (pv 3)) (pa_cons (pe_fld (pv 3)) (pa_cons (pe_fld (pv 4)) (pa_cons (pe_fld (pv 4)) pa_nil))))) (pa_cons (pe_lstN (pa_cons (pv 0) (pa_cons (pv 1) (pa_cons (pv 0) (pa_cons (pv 1) pa_nil))))) (pa_cons pe_str pa_nil))))) pa_nil)))
  (pss_cons (ps_par (i := 3) (j := 4) (by rfl) sc__law_errors_a.nd rfl rfl (by decide) rfl rfl (pa_cons (pe_newX PySem.F.excBase_ValueError Es.Unsupported.T Es.Unsupported.I hr2 Es.Unsupported.hm (pa_cons (pv 0) (pa_cons (pv 1) pa_nil))) (pa_cons (pe_newK PySem.F.excBase_ValueError Es.Unsupported.T Es.Unsupported.J hr2 Es.Unsupported.hm (pk_cons (pv 1) (pk_cons (pv 0) pk_nil))) pa_nil)) (by rfl))
  (pss_cons (ps_expr (pe_bm PySem.F.plainAttrs_list PySem.F.slot_list_append PySem.F.type_list_append mt_append (pv 2) (pa_cons (pe_tup (pa_cons (pv 3) (pa_cons (pe_lstN (pa_cons (pe_fld (pv 3)) (pa_cons (pe_fld (pv 3)) (pa_cons (pe_fld (pv 4)) (pa_cons (pe_fld (pv 4)) pa_nil))))) (pa_cons (pe_lstN (pa_cons (pv 0) (pa_cons (pv 1) (pa_cons (pv 0) (pa_cons (pv 1) pa_nil))))) (pa_cons pe_str pa_nil))))) pa_nil)))
  (pss_one (ps_ret (pv 2)))))))))))))))))))))))))))))), ?_⟩
    refine ⟨slz rfl, fun l hl nl => ?_⟩
    have W : Rows l x y c H (upd H l (.lst [])) [] := ⟨[], upd_same, hl, .nil, fun b o nb q => by rw [upd_ne nb]; exact q⟩
    unfold gName
    dsimp only
    refine row1_ok (i := 0) Es.InvalidForm rfl W (Nat.le_of_ble_eq_true rfl) (fun H0 v3 v4 W => ?_)
    refine row1_ok (i := 1) Es.InvalidDeclaration rfl W (Nat.le_of_ble_eq_true rfl) (fun H1 v3 v4 W => ?_)
    refine row0_ok (i := 2) Es.InvalidPicks rfl W (Nat.le_of_ble_eq_true rfl) (fun H2 v3 v4 W => ?_)
    refine row1_ok (i := 3) Es.Repeated rfl W (Nat.le_of_ble_eq_true rfl) (fun H3 v3 v4 W => ?_)
    refine row1_ok (i := 4) Es.BadArms rfl W (Nat.le_of_ble_eq_true rfl) (fun H4 v3 v4 W => ?_)
    refine row1_ok (i := 5) Es.Misshapen rfl W (Nat.le_of_ble_eq_true rfl) (fun H5 v3 v4 W => ?_)
    refine row1_ok (i := 6) Es.RoleRing rfl W (Nat.le_of_ble_eq_true rfl) (fun H6 v3 v4 W => ?_)
    refine row1_ok (i := 7) Es.BadMembers rfl W (Nat.le_of_ble_eq_true rfl) (fun H7 v3 v4 W => ?_)
    refine row2_ok (i := 8) Es.Grows (by decide +kernel) rfl W (Nat.le_of_ble_eq_true rfl) (fun H8 v3 v4 W => ?_)
    refine row1_ok (i := 9) Es.Uncovered rfl W (Nat.le_of_ble_eq_true rfl) (fun H9 v3 v4 W => ?_)
    refine row2_ok (i := 10) Es.Underivable (by decide +kernel) rfl W (Nat.le_of_ble_eq_true rfl) (fun H10 v3 v4 W => ?_)
    refine row2_ok (i := 11) Es.Clash (by decide +kernel) rfl W (Nat.le_of_ble_eq_true rfl) (fun H11 v3 v4 W => ?_)
    refine row2_ok (i := 12) Es.Unsupported (by decide +kernel) rfl W (Nat.le_of_ble_eq_true rfl) (fun H12 v3 v4 W => ?_)
    exact ⟨_, rfl, k _ _ W⟩
end
end L3

namespace L3
open PySem L2
def specb : List (Nat × Nat × Str) := [(13, 1, "value"), (14, 1, "value"), (15, 1, "value"), (16, 1, "value"), (17, 1, "value"), (18, 1, "value"), (19, 1, "value"), (20, 1, "value"), (21, 2, "value"), (22, 1, "value"), (23, 1, "value"), (24, 1, "value"), (25, 2, "lookup")]
section
variable {P : Program} {w : World} {K : PySem.W.Frag} {mg : Str → Option Value} {base : Heap} {c : Nat → Addr}
abbrev s__law_errors_b : Stmt := topS 45
abbrev N__law_errors_b : List Str := ["_law_x", "_law_y", "_law_rows", "_law_e", "_law_f"]
theorem sc__law_errors_b : FnScope N__law_errors_b ["_law_x", "_law_y"] (defScope s__law_errors_b) := ⟨rfl, rfl, rfl, by decide +kernel, rfl, by decide +kernel, by decide +kernel⟩
theorem ok_eb {f : Addr} {fd : FuncData} (F : Fun K "_law_errors_b" "_law_errors_b" s__law_errors_b f fd) (Es : Es P w K mg base c) : FnOk P w K mg base CX0 3 f fd ["_law_x", "_law_y"] (spErr c specb) := by
  refine F.ok sc__law_errors_b (fun vs H Q E h => ?_) (fun cdv A outer s H vs Q E hr h => ?_)
  · obtain ⟨x, y, rfl, _⟩ := h
    rfl
  · obtain ⟨x, y, rfl, k⟩ := h
    have hr2 : Room 2 _ := hr
    refine ⟨_, (pss_cons (ps_set (i := 2) sc__law_errors_b.nd rfl (Or.inl rfl) (pe_lstN pa_nil))
  (pss_cons (ps_par (i := 3) (j := 4) (by rfl) sc__law_errors_b.nd rfl rfl (by decide) rfl rfl (pa_cons (pe_newX PySem.F.excBase_ValueError Es.Improper.T Es.Improper.I hr2 Es.Improper.hm (pa_cons (pv 0) pa_nil)) (pa_cons (pe_newK PySem.F.excBase_ValueError Es.Improper.T Es.Improper.J hr2 Es.Improper.hm (pk_cons (pv 0) pk_nil)) pa_nil)) (by rfl))
  (pss_cons (ps_expr (pe_bm PySem.F.plainAttrs_list PySem.F.slot_list_append PySem.F.type_list_append mt_append (pv 2) (pa_cons (pe_tup (pa_cons (pv 3) (pa_cons (pe_lstN (pa_cons (pe_fld (pv 3)) (pa_cons (pe_fld (pv 4)) pa_nil))) (pa_cons (pe_lstN (pa_cons (pv 0) (pa_cons (pv 0) pa_nil))) (pa_cons pe_str pa_nil))))) pa_nil)))
  (pss_cons (ps_par (i := 3) (j := 4) (by rfl) sc__law_errors_b.nd rfl rfl (by decide) rfl rfl (pa_cons (pe_newX PySem.F.excBase_ValueError Es.InvalidKind.T Es.InvalidKind.I hr2 Es.InvalidKind.hm (pa_cons (pv 0) pa_nil)) (pa_cons (pe_newK PySem.F.excBase_ValueError Es.InvalidKind.T Es.InvalidKind.J hr2 Es.InvalidKind.hm (pk_cons (pv 0) pk_nil)) pa_nil)) (by rfl))
  (pss_cons (ps_expr (pe_bm PySem.F.plainAttrs_list PySem.F.slot_list_append PySem.F.type_list_append mt_append (pv 2) (pa_cons (pe_tup (pa_cons (pv 3) (pa_cons (pe_lstN (pa_cons (pe_fld (pv 3)) (pa_cons (pe_fld (pv 4)) pa_nil))) (pa_cons (pe_lstN (pa_cons (pv 0) (pa_cons (pv 0) pa_nil))) (pa_cons pe_str pa_nil))))) pa_nil)))
  (pss_cons (ps_par (i := 3) (j := 4) (by rfl) sc__law_errors_b.nd rfl rfl (by decide) rfl rfl (pa_cons (pe_newX PySem.F.excBase_ValueError Es.InvalidNeed.T Es.InvalidNeed.I hr2 Es.InvalidNeed.hm (pa_cons (pv 0) pa_nil)) (pa_cons (pe_newK PySem.F.excBase_ValueError Es.InvalidNeed.T Es.InvalidNeed.J hr2 Es.InvalidNeed.hm (pk_cons (pv 0) pk_nil)) pa_nil)) (by rfl))
  (pss_cons (ps_expr (pe_bm PySem.F.plainAttrs_list PySem.F.slot_list_append PySem.F.type_list_append mt_append (pv 2) (pa_cons (pe_tup (pa_cons (pv 3) (pa_cons (pe_lstN (pa_cons (pe_fld (pv 3)) (pa_cons (pe_fld (pv 4)) pa_nil))) (pa_cons (pe_lstN (pa_cons (pv 0) (pa_cons (pv 0) pa_nil))) (pa_cons pe_str pa_nil))))) pa_nil)))
  (pss_cons (ps_par (i := 3) (j := 4) (by rfl) sc__law_errors_b.nd rfl rfl (by decide) rfl rfl (pa_cons (pe_newX PySem.F.excBase_ValueError Es.InvalidScheme.T Es.InvalidScheme.I hr2 Es.InvalidScheme.hm (pa_cons (pv 0) pa_nil)) (pa_cons (pe_newK PySem.F.excBase_ValueError Es.InvalidScheme.T Es.InvalidScheme.J hr2 Es.InvalidScheme.hm (pk_cons (pv 0) pk_nil)) pa_nil)) (by rfl))
  (pss_cons (ps_expr (pe_bm PySem.F.plainAttrs_list PySem.F.slot_list_append PySem.F.type_list_append mt_append (pv 2) (pa_cons (pe_tup (pa_cons (pv 3) (pa_cons (pe_lstN (pa_cons (pe_fld (pv 3)) (pa_cons (pe_fld (pv 4)) pa_nil))) (pa_cons (pe_lstN (pa_cons (pv 0) (pa_cons (pv 0) pa_nil))) (pa_cons pe_str pa_nil))))) pa_nil)))
  (pss_cons (ps_par (i := 3) (j := 4) (by rfl) sc__law_errors_b.nd rfl rfl (by decide) rfl rfl (pa_cons (pe_newX PySem.F.excBase_ValueError Es.InvalidCount.T Es.InvalidCount.I hr2 Es.InvalidCount.hm (pa_cons (pv 0) pa_nil)) (pa_cons (pe_newK PySem.F.excBase_ValueError Es.InvalidCount.T Es.InvalidCount.J hr2 Es.InvalidCount.hm (pk_cons (pv 0) pk_nil)) pa_nil)) (by rfl))
  (pss_cons (ps_expr (pe_bm PySem.F.plainAttrs_list PySem.F.slot_list_append PySem.F.type_list_append mt_append (pv 2) (pa_cons (pe_tup (pa_cons (pv 3) (pa_cons (pe_lstN (pa_cons (pe_fld (pv 3)) (pa_cons (pe_fld (pv 4)) pa_nil))) (pa_cons (pe_lstN (pa_cons (pv 0) (pa_cons (pv 0) pa_nil))) (pa_cons pe_str pa_nil))))) pa_nil)))
  (pss_cons (ps_par (i := 3) (j := 4) (by rfl) sc__law_errors_b.nd rfl rfl (by decide) rfl rfl (pa_cons (pe_newX PySem.F.excBase_ValueError Es.InvalidValue.T Es.InvalidValue.I hr2 Es.InvalidValue.hm (pa_cons (pv 0) pa_nil)) (pa_cons (pe_newK PySem.F.excBase_ValueError Es.InvalidValue.T Es.InvalidValue.J hr2 Es.InvalidValue.hm (pk_cons (pv 0) pk_nil)) pa_nil)) (by rfl))
  (pss_cons (ps_expr (pe_bm PySem.F.plainAttrs_list PySem.F.slot_list_append PySem.F.type_list_append mt_append (pv 2) (pa_cons (pe_tup (pa_cons (pv 3) (pa_cons (pe_lstN (pa_cons (pe_fld (pv 3)) (pa_cons (pe_fld (pv 4)) pa_nil))) (pa_cons (pe_lstN (pa_cons (pv 0) (pa_cons (pv 0) pa_nil))) (pa_cons pe_str pa_nil))))) pa_nil)))
  (pss_cons (ps_par (i := 3) (j := 4) (by rfl) sc__law_errors_b.nd rfl rfl (by decide) rfl rfl (pa_cons (pe_newX PySem.F.excBase_ValueError Es.InvalidLimit.T Es.InvalidLimit.I hr2 Es.InvalidLimit.hm (pa_cons (pv 0) pa_nil)) (pa_cons (pe_newK PySem.F.excBase_ValueError Es.InvalidLimit.T Es.InvalidLimit.J hr2 Es.InvalidLimit.hm (pk_cons (pv 0) pk_nil)) pa_nil)) (by rfl))
  (pss_cons (ps_expr (pe_bm PySem.F.plainAttrs_list PySem.F.slot_list_append PySem.F.type_list_append mt_append (pv 2) (pa_cons (pe_tup (pa_cons (pv 3) (pa_cons (pe_lstN (pa_cons (pe_fld (pv 3)) (pa_cons (pe_fld (pv 4)) pa_nil))) (pa_cons (pe_lstN (pa_cons (pv 0) (pa_cons (pv 0) pa_nil))) (pa_cons pe_str pa_nil))))) pa_nil)))
  (pss_cons (ps_par (i := 3) (j := 4) (by rfl) sc__law_errors_b.nd rfl rfl (by decide) rfl rfl (pa_cons (pe_newX PySem.F.excBase_ValueError Es.InvalidMarked.T Es.InvalidMarked.I hr2 Es.InvalidMarked.hm (pa_cons (pv 0) pa_nil)) (pa_cons (pe_newK PySem.F.excBase_ValueError Es.InvalidMarked.T Es.InvalidMarked.J hr2 Es.InvalidMarked.hm (pk_cons (pv 0) pk_nil)) pa_nil)) (by rfl))
  (pss_cons (ps_expr (pe_bm PySem.F.plainAttrs_list PySem.F.slot_list_append PySem.F.type_list_append mt_append (pv 2) (pa_cons (pe_tup (pa_cons (pv 3) (pa_cons (pe_lstN (pa_cons (pe_fld (pv 3)) (pa_cons (pe_fld (pv 4)) pa_nil))) (pa_cons (pe_lstN (pa_cons (pv 0) (pa_cons (pv 0) pa_nil))) (pa_cons pe_str pa_nil))))) pa_nil)))
  (pss_cons (ps_par (i := 3) (j := 4) (by rfl) sc__law_errors_b.nd rfl rfl (by decide) rfl rfl (pa_cons (pe_newX PySem.F.excBase_ValueError Es.InvalidText.T Es.InvalidText.I hr2 Es.InvalidText.hm (pa_cons (pv 0) (pa_cons (pv 1) pa_nil))) (pa_cons (pe_newK PySem.F.excBase_ValueError Es.InvalidText.T Es.InvalidText.J hr2 Es.InvalidText.hm (pk_cons (pv 1) (pk_cons (pv 0) pk_nil))) pa_nil)) (by rfl))
  (pss_cons (ps_expr (pe_bm PySem.F.plainAttrs_list PySem.F.slot_list_append PySem.F.type_list_append mt_append (pv 2) (pa_cons (pe_tup (pa_cons (pv 3) (pa_cons (pe_lstN (pa_cons (pe_fld (pv 3)) (pa_cons (pe_fld (pv 3)) (pa_cons (pe_fld (pv 4)) (pa_cons (pe_fld (pv 4)) pa_nil))))) (pa_cons (pe_lstN (pa_cons (pv 0) (pa_cons (pv 1) (pa_cons (pv 0) (pa_cons (pv 1) pa_nil))))) (pa_cons pe_str pa_nil))))) pa_nil)))
  (pss_cons (ps_par (i := 3) (j := 4) (by rfl) sc__law_errors_b.nd rfl rfl (by decide) rfl rfl (pa_cons (pe_newX PySem.F.excBase_ValueError Es.InvalidDeed.T Es.InvalidDeed.I hr2 Es.InvalidDeed.hm (pa_cons (pv 0) pa_nil)) (pa_cons (pe_newK PySem.F.excBase_ValueError Es.InvalidDeed.T Es.InvalidDeed.J hr2 Es.InvalidDeed.hm (pk_cons (pv 0) pk_nil)) pa_nil)) (by rfl))
  (pss_cons (ps_expr (pe_bm PySem.F.plainAttrs_list PySem.F.slot_list_append PySem.F.type_list_append mt_append (pv 2) (pa_cons (pe_tup (pa_cons (pv 3) (pa_cons (pe_lstN (pa_cons (pe_fld (pv 3)) (pa_cons (pe_fld (pv 4)) pa_nil))) (pa_cons (pe_lstN (pa_cons (pv 0) (pa_cons (pv 0) pa_nil))) (pa_cons pe_str pa_nil))))) pa_nil)))
  (pss_cons (ps_par (i := 3) (j := 4) (by rfl) sc__law_errors_b.nd rfl rfl (by decide) rfl rfl (pa_cons (pe_newX PySem.F.excBase_ValueError Es.InvalidGuard.T Es.InvalidGuard.I hr2 Es.InvalidGuard.hm (pa_cons (pv 0) pa_nil)) (pa_cons (pe_newK PySem.F.excBase_ValueError Es.InvalidGuard.T Es.InvalidGuard.J hr2 Es.InvalidGuard.hm (pk_cons (pv 0) pk_nil)) pa_nil)) (by rfl))
  (pss_cons (ps_expr (pe_bm PySem.F.plainAttrs_list PySem.F.slot_list_append PySem.F.type_list_append mt_append (pv 2) (pa_cons (pe_tup (pa_cons (pv 3) (pa_cons (pe_lstN (pa_cons (pe_fld (pv 3)) (pa_cons (pe_fld (pv 4)) pa_nil))) (pa_cons (pe_lstN (pa_cons (pv 0) (pa_cons (pv 0) pa_nil))) (pa_cons pe_str pa_nil))))) pa_nil)))
  (pss_cons (ps_par (i := 3) (j := 4) (by rfl) sc__law_errors_b.nd rfl rfl (by decide) rfl rfl (pa_cons (pe_newX PySem.F.excBase_ValueError Es.NotClosed.T Es.NotClosed.I hr2 Es.NotClosed.hm (pa_cons (pv 0) pa_nil)) (pa_cons (pe_newK PySem.F.excBase_ValueError Es.NotClosed.T Es.NotClosed.J hr2 Es.NotClosed.hm (pk_cons (pv 0) pk_nil)) pa_nil)) (by rfl))
  (pss_cons (ps_expr (pe_bm PySem.F.plainAttrs_list PySem.F.slot_list_append PySem.F.type_list_append mt_append (pv 2) (pa_cons (pe_tup (pa_cons (pv 3) (pa_cons (pe_lstN (pa_cons (pe_fld (pv 3)) (pa_cons (pe_fld (pv 4)) pa_nil))) (pa_cons (pe_lstN (pa_cons (pv 0) (pa_cons (pv 0) pa_nil))) (pa_cons pe_str pa_nil))))) pa_nil)))
  (pss_cons (ps_par (i := 3) (j := 4) (by rfl) sc__law_errors_b.nd rfl rfl (by decide) rfl rfl (pa_cons (pe_newX PySem.F.excBase_LookupError Es.Unknown.T Es.Unknown.I hr2 Es.Unknown.hm (pa_cons (pv 0) (pa_cons (pv 1) pa_nil))) (pa_cons (pe_newK PySem.F.excBase_LookupError Es.Unknown.T Es.Unknown.J hr2 Es.Unknown.hm (pk_cons (pv 1) (pk_cons (pv 0) pk_nil))) pa_nil)) (by rfl))
  (pss_cons (ps_expr (pe_bm PySem.F.plainAttrs_list PySem.F.slot_list_append PySem.F.type_list_append mt_append (pv 2) (pa_cons (pe_tup (pa_cons (pv 3) (pa_cons (pe_lstN (pa_cons (pe_fld (pv 3)) (pa_cons (pe_fld (pv 3)) (pa_cons (pe_fld (pv 4)) (pa_cons (pe_fld (pv 4)) pa_nil))))) (pa_cons (pe_lstN (pa_cons (pv 0) (pa_cons (pv 1) (pa_cons (pv 0) (pa_cons (pv 1) pa_nil))))) (pa_cons pe_str pa_nil))))) pa_nil)))
  (pss_one (ps_ret (pv 2)))))))))))))))))))))))))))))), ?_⟩
    refine ⟨slz rfl, fun l hl nl => ?_⟩
    have W : Rows l x y c H (upd H l (.lst [])) [] := ⟨[], upd_same, hl, .nil, fun b o nb q => by rw [upd_ne nb]; exact q⟩
    unfold gName
    dsimp only
    refine row1_ok (i := 13) Es.Improper rfl W (Nat.le_of_ble_eq_true rfl) (fun H13 v3 v4 W => ?_)
    refine row1_ok (i := 14) Es.InvalidKind rfl W (Nat.le_of_ble_eq_true rfl) (fun H14 v3 v4 W => ?_)
    refine row1_ok (i := 15) Es.InvalidNeed rfl W (Nat.le_of_ble_eq_true rfl) (fun H15 v3 v4 W => ?_)
    refine row1_ok (i := 16) Es.InvalidScheme rfl W (Nat.le_of_ble_eq_true rfl) (fun H16 v3 v4 W => ?_)
    refine row1_ok (i := 17) Es.InvalidCount rfl W (Nat.le_of_ble_eq_true rfl) (fun H17 v3 v4 W => ?_)
    refine row1_ok (i := 18) Es.InvalidValue rfl W (Nat.le_of_ble_eq_true rfl) (fun H18 v3 v4 W => ?_)
    refine row1_ok (i := 19) Es.InvalidLimit rfl W (Nat.le_of_ble_eq_true rfl) (fun H19 v3 v4 W => ?_)
    refine row1_ok (i := 20) Es.InvalidMarked rfl W (Nat.le_of_ble_eq_true rfl) (fun H20 v3 v4 W => ?_)
    refine row2_ok (i := 21) Es.InvalidText (by decide +kernel) rfl W (Nat.le_of_ble_eq_true rfl) (fun H21 v3 v4 W => ?_)
    refine row1_ok (i := 22) Es.InvalidDeed rfl W (Nat.le_of_ble_eq_true rfl) (fun H22 v3 v4 W => ?_)
    refine row1_ok (i := 23) Es.InvalidGuard rfl W (Nat.le_of_ble_eq_true rfl) (fun H23 v3 v4 W => ?_)
    refine row1_ok (i := 24) Es.NotClosed rfl W (Nat.le_of_ble_eq_true rfl) (fun H24 v3 v4 W => ?_)
    refine row2_ok (i := 25) Es.Unknown (by decide +kernel) rfl W (Nat.le_of_ble_eq_true rfl) (fun H25 v3 v4 W => ?_)
    exact ⟨_, rfl, k _ _ W⟩
end
end L3

namespace L3
open PySem L2
def specc : List (Nat × Nat × Str) := [(26, 1, "lookup"), (27, 1, "lookup"), (28, 1, "lookup"), (29, 1, "lookup"), (30, 1, "lookup"), (31, 1, "lookup"), (32, 1, "lookup"), (33, 1, "lookup"), (34, 1, "lookup"), (35, 1, "runtime"), (36, 1, "runtime"), (37, 1, "runtime")]
section
variable {P : Program} {w : World} {K : PySem.W.Frag} {mg : Str → Option Value} {base : Heap} {c : Nat → Addr}
abbrev s__law_errors_c : Stmt := topS 46
abbrev N__law_errors_c : List Str := ["_law_x", "_law_y", "_law_rows", "_law_e", "_law_f"]
theorem sc__law_errors_c : FnScope N__law_errors_c ["_law_x", "_law_y"] (defScope s__law_errors_c) := ⟨rfl, rfl, rfl, by decide +kernel, rfl, by decide +kernel, by decide +kernel⟩
theorem ok_ec {f : Addr} {fd : FuncData} (F : Fun K "_law_errors_c" "_law_errors_c" s__law_errors_c f fd) (Es : Es P w K mg base c) : FnOk P w K mg base CX0 3 f fd ["_law_x", "_law_y"] (spErr c specc) := by
  refine F.ok sc__law_errors_c (fun vs H Q E h => ?_) (fun cdv A outer s H vs Q E hr h => ?_)
  · obtain ⟨x, y, rfl, _⟩ := h
    rfl
  · obtain ⟨x, y, rfl, k⟩ := h
    have hr2 : Room 2 _ := hr
    refine ⟨_, (pss_cons (ps_set (i := 2) sc__law_errors_c.nd rfl (Or.inl rfl) (pe_lstN pa_nil))
  (pss_cons (ps_par (i := 3) (j := 4) (by rfl) sc__law_errors_c.nd rfl rfl (by decide) rfl rfl (pa_cons (pe_newX PySem.F.excBase_LookupError Es.UnknownName.T Es.UnknownName.I hr2 Es.UnknownName.hm (pa_cons (pv 0) pa_nil)) (pa_cons (pe_newK PySem.F.excBase_LookupError Es.UnknownName.T Es.UnknownName.J hr2 Es.UnknownName.hm (pk_cons (pv 0) pk_nil)) pa_nil)) (by rfl))
  (pss_cons (ps_expr (pe_bm PySem.F.plainAttrs_list PySem.F.slot_list_append PySem.F.type_list_append mt_append (pv 2) (pa_cons (pe_tup (pa_cons (pv 3) (pa_cons (pe_lstN (pa_cons (pe_fld (pv 3)) (pa_cons (pe_fld (pv 4)) pa_nil))) (pa_cons (pe_lstN (pa_cons (pv 0) (pa_cons (pv 0) pa_nil))) (pa_cons pe_str pa_nil))))) pa_nil)))
  (pss_cons (ps_par (i := 3) (j := 4) (by rfl) sc__law_errors_c.nd rfl rfl (by decide) rfl rfl (pa_cons (pe_newX PySem.F.excBase_LookupError Es.OutOfTerm.T Es.OutOfTerm.I hr2 Es.OutOfTerm.hm (pa_cons (pv 0) pa_nil)) (pa_cons (pe_newK PySem.F.excBase_LookupError Es.OutOfTerm.T Es.OutOfTerm.J hr2 Es.OutOfTerm.hm (pk_cons (pv 0) pk_nil)) pa_nil)) (by rfl))
  (pss_cons (ps_expr (pe_bm PySem.F.plainAttrs_list PySem.F.slot_list_append PySem.F.type_list_append mt_append (pv 2) (pa_cons (pe_tup (pa_cons (pv 3) (pa_cons (pe_lstN (pa_cons (pe_fld (pv 3)) (pa_cons (pe_fld (pv 4)) pa_nil))) (pa_cons (pe_lstN (pa_cons (pv 0) (pa_cons (pv 0) pa_nil))) (pa_cons pe_str pa_nil))))) pa_nil)))
  (pss_cons (ps_par (i := 3) (j := 4) (by rfl) sc__law_errors_c.nd rfl rfl (by decide) rfl rfl (pa_cons (pe_newX PySem.F.excBase_LookupError Es.NoPrimitive.T Es.NoPrimitive.I hr2 Es.NoPrimitive.hm (pa_cons (pv 0) pa_nil)) (pa_cons (pe_newK PySem.F.excBase_LookupError Es.NoPrimitive.T Es.NoPrimitive.J hr2 Es.NoPrimitive.hm (pk_cons (pv 0) pk_nil)) pa_nil)) (by rfl))
  (pss_cons (ps_expr (pe_bm PySem.F.plainAttrs_list PySem.F.slot_list_append PySem.F.type_list_append mt_append (pv 2) (pa_cons (pe_tup (pa_cons (pv 3) (pa_cons (pe_lstN (pa_cons (pe_fld (pv 3)) (pa_cons (pe_fld (pv 4)) pa_nil))) (pa_cons (pe_lstN (pa_cons (pv 0) (pa_cons (pv 0) pa_nil))) (pa_cons pe_str pa_nil))))) pa_nil)))
  (pss_cons (ps_par (i := 3) (j := 4) (by rfl) sc__law_errors_c.nd rfl rfl (by decide) rfl rfl (pa_cons (pe_newX PySem.F.excBase_LookupError Es.NoDefinition.T Es.NoDefinition.I hr2 Es.NoDefinition.hm (pa_cons (pv 0) pa_nil)) (pa_cons (pe_newK PySem.F.excBase_LookupError Es.NoDefinition.T Es.NoDefinition.J hr2 Es.NoDefinition.hm (pk_cons (pv 0) pk_nil)) pa_nil)) (by rfl))
  (pss_cons (ps_expr (pe_bm PySem.F.plainAttrs_list PySem.F.slot_list_append PySem.F.type_list_append mt_append (pv 2) (pa_cons (pe_tup (pa_cons (pv 3) (pa_cons (pe_lstN (pa_cons (pe_fld (pv 3)) (pa_cons (pe_fld (pv 4)) pa_nil))) (pa_cons (pe_lstN (pa_cons (pv 0) (pa_cons (pv 0) pa_nil))) (pa_cons pe_str pa_nil))))) pa_nil)))
  (pss_cons (ps_par (i := 3) (j := 4) (by rfl) sc__law_errors_c.nd rfl rfl (by decide) rfl rfl (pa_cons (pe_newX PySem.F.excBase_LookupError Es.NoCore.T Es.NoCore.I hr2 Es.NoCore.hm (pa_cons (pv 0) pa_nil)) (pa_cons (pe_newK PySem.F.excBase_LookupError Es.NoCore.T Es.NoCore.J hr2 Es.NoCore.hm (pk_cons (pv 0) pk_nil)) pa_nil)) (by rfl))
  (pss_cons (ps_expr (pe_bm PySem.F.plainAttrs_list PySem.F.slot_list_append PySem.F.type_list_append mt_append (pv 2) (pa_cons (pe_tup (pa_cons (pv 3) (pa_cons (pe_lstN (pa_cons (pe_fld (pv 3)) (pa_cons (pe_fld (pv 4)) pa_nil))) (pa_cons (pe_lstN (pa_cons (pv 0) (pa_cons (pv 0) pa_nil))) (pa_cons pe_str pa_nil))))) pa_nil)))
  (pss_cons (ps_par (i := 3) (j := 4) (by rfl) sc__law_errors_c.nd rfl rfl (by decide) rfl rfl (pa_cons (pe_newX PySem.F.excBase_LookupError Es.Unmet.T Es.Unmet.I hr2 Es.Unmet.hm (pa_cons (pv 0) pa_nil)) (pa_cons (pe_newK PySem.F.excBase_LookupError Es.Unmet.T Es.Unmet.J hr2 Es.Unmet.hm (pk_cons (pv 0) pk_nil)) pa_nil)) (by rfl))
  (pss_cons (ps_expr (pe_bm PySem.F.plainAttrs_list PySem.F.slot_list_append PySem.F.type_list_append mt_append (pv 2) (pa_cons (pe_tup (pa_cons (pv 3) (pa_cons (pe_lstN (pa_cons (pe_fld (pv 3)) (pa_cons (pe_fld (pv 4)) pa_nil))) (pa_cons (pe_lstN (pa_cons (pv 0) (pa_cons (pv 0) pa_nil))) (pa_cons pe_str pa_nil))))) pa_nil)))
  (pss_cons (ps_par (i := 3) (j := 4) (by rfl) sc__law_errors_c.nd rfl rfl (by decide) rfl rfl (pa_cons (pe_newX PySem.F.excBase_LookupError Es.OutOfRange.T Es.OutOfRange.I hr2 Es.OutOfRange.hm (pa_cons (pv 0) pa_nil)) (pa_cons (pe_newK PySem.F.excBase_LookupError Es.OutOfRange.T Es.OutOfRange.J hr2 Es.OutOfRange.hm (pk_cons (pv 0) pk_nil)) pa_nil)) (by rfl))
  (pss_cons (ps_expr (pe_bm PySem.F.plainAttrs_list PySem.F.slot_list_append PySem.F.type_list_append mt_append (pv 2) (pa_cons (pe_tup (pa_cons (pv 3) (pa_cons (pe_lstN (pa_cons (pe_fld (pv 3)) (pa_cons (pe_fld (pv 4)) pa_nil))) (pa_cons (pe_lstN (pa_cons (pv 0) (pa_cons (pv 0) pa_nil))) (pa_cons pe_str pa_nil))))) pa_nil)))
  (pss_cons (ps_par (i := 3) (j := 4) (by rfl) sc__law_errors_c.nd rfl rfl (by decide) rfl rfl (pa_cons (pe_newX PySem.F.excBase_LookupError Es.Known.T Es.Known.I hr2 Es.Known.hm (pa_cons (pv 0) pa_nil)) (pa_cons (pe_newK PySem.F.excBase_LookupError Es.Known.T Es.Known.J hr2 Es.Known.hm (pk_cons (pv 0) pk_nil)) pa_nil)) (by rfl))
  (pss_cons (ps_expr (pe_bm PySem.F.plainAttrs_list PySem.F.slot_list_append PySem.F.type_list_append mt_append (pv 2) (pa_cons (pe_tup (pa_cons (pv 3) (pa_cons (pe_lstN (pa_cons (pe_fld (pv 3)) (pa_cons (pe_fld (pv 4)) pa_nil))) (pa_cons (pe_lstN (pa_cons (pv 0) (pa_cons (pv 0) pa_nil))) (pa_cons pe_str pa_nil))))) pa_nil)))
  (pss_cons (ps_par (i := 3) (j := 4) (by rfl) sc__law_errors_c.nd rfl rfl (by decide) rfl rfl (pa_cons (pe_newX PySem.F.excBase_LookupError Es.Missing.T Es.Missing.I hr2 Es.Missing.hm (pa_cons (pv 0) pa_nil)) (pa_cons (pe_newK PySem.F.excBase_LookupError Es.Missing.T Es.Missing.J hr2 Es.Missing.hm (pk_cons (pv 0) pk_nil)) pa_nil)) (by rfl))
  (pss_cons (ps_expr (pe_bm PySem.F.plainAttrs_list PySem.F.slot_list_append PySem.F.type_list_append mt_append (pv 2) (pa_cons (pe_tup (pa_cons (pv 3) (pa_cons (pe_lstN (pa_cons (pe_fld (pv 3)) (pa_cons (pe_fld (pv 4)) pa_nil))) (pa_cons (pe_lstN (pa_cons (pv 0) (pa_cons (pv 0) pa_nil))) (pa_cons pe_str pa_nil))))) pa_nil)))
  (pss_cons (ps_par (i := 3) (j := 4) (by rfl) sc__law_errors_c.nd rfl rfl (by decide) rfl rfl (pa_cons (pe_newX PySem.F.excBase_RuntimeError Es.Faulty.T Es.Faulty.I hr2 Es.Faulty.hm (pa_cons (pv 0) pa_nil)) (pa_cons (pe_newK PySem.F.excBase_RuntimeError Es.Faulty.T Es.Faulty.J hr2 Es.Faulty.hm (pk_cons (pv 0) pk_nil)) pa_nil)) (by rfl))
  (pss_cons (ps_expr (pe_bm PySem.F.plainAttrs_list PySem.F.slot_list_append PySem.F.type_list_append mt_append (pv 2) (pa_cons (pe_tup (pa_cons (pv 3) (pa_cons (pe_lstN (pa_cons (pe_fld (pv 3)) (pa_cons (pe_fld (pv 4)) pa_nil))) (pa_cons (pe_lstN (pa_cons (pv 0) (pa_cons (pv 0) pa_nil))) (pa_cons pe_str pa_nil))))) pa_nil)))
  (pss_cons (ps_par (i := 3) (j := 4) (by rfl) sc__law_errors_c.nd rfl rfl (by decide) rfl rfl (pa_cons (pe_newX PySem.F.excBase_RuntimeError Es.Wrong.T Es.Wrong.I hr2 Es.Wrong.hm (pa_cons (pv 0) pa_nil)) (pa_cons (pe_newK PySem.F.excBase_RuntimeError Es.Wrong.T Es.Wrong.J hr2 Es.Wrong.hm (pk_cons (pv 0) pk_nil)) pa_nil)) (by rfl))
  (pss_cons (ps_expr (pe_bm PySem.F.plainAttrs_list PySem.F.slot_list_append PySem.F.type_list_append mt_append (pv 2) (pa_cons (pe_tup (pa_cons (pv 3) (pa_cons (pe_lstN (pa_cons (pe_fld (pv 3)) (pa_cons (pe_fld (pv 4)) pa_nil))) (pa_cons (pe_lstN (pa_cons (pv 0) (pa_cons (pv 0) pa_nil))) (pa_cons pe_str pa_nil))))) pa_nil)))
  (pss_cons (ps_par (i := 3) (j := 4) (by rfl) sc__law_errors_c.nd rfl rfl (by decide) rfl rfl (pa_cons (pe_newX PySem.F.excBase_RuntimeError Es.Broken.T Es.Broken.I hr2 Es.Broken.hm (pa_cons (pv 0) pa_nil)) (pa_cons (pe_newK PySem.F.excBase_RuntimeError Es.Broken.T Es.Broken.J hr2 Es.Broken.hm (pk_cons (pv 0) pk_nil)) pa_nil)) (by rfl))
  (pss_cons (ps_expr (pe_bm PySem.F.plainAttrs_list PySem.F.slot_list_append PySem.F.type_list_append mt_append (pv 2) (pa_cons (pe_tup (pa_cons (pv 3) (pa_cons (pe_lstN (pa_cons (pe_fld (pv 3)) (pa_cons (pe_fld (pv 4)) pa_nil))) (pa_cons (pe_lstN (pa_cons (pv 0) (pa_cons (pv 0) pa_nil))) (pa_cons pe_str pa_nil))))) pa_nil)))
  (pss_one (ps_ret (pv 2)))))))))))))))))))))))))))), ?_⟩
    refine ⟨slz rfl, fun l hl nl => ?_⟩
    have W : Rows l x y c H (upd H l (.lst [])) [] := ⟨[], upd_same, hl, .nil, fun b o nb q => by rw [upd_ne nb]; exact q⟩
    unfold gName
    dsimp only
    refine row1_ok (i := 26) Es.UnknownName rfl W (Nat.le_of_ble_eq_true rfl) (fun H26 v3 v4 W => ?_)
    refine row1_ok (i := 27) Es.OutOfTerm rfl W (Nat.le_of_ble_eq_true rfl) (fun H27 v3 v4 W => ?_)
    refine row1_ok (i := 28) Es.NoPrimitive rfl W (Nat.le_of_ble_eq_true rfl) (fun H28 v3 v4 W => ?_)
    refine row1_ok (i := 29) Es.NoDefinition rfl W (Nat.le_of_ble_eq_true rfl) (fun H29 v3 v4 W => ?_)
    refine row1_ok (i := 30) Es.NoCore rfl W (Nat.le_of_ble_eq_true rfl) (fun H30 v3 v4 W => ?_)
    refine row1_ok (i := 31) Es.Unmet rfl W (Nat.le_of_ble_eq_true rfl) (fun H31 v3 v4 W => ?_)
    refine row1_ok (i := 32) Es.OutOfRange rfl W (Nat.le_of_ble_eq_true rfl) (fun H32 v3 v4 W => ?_)
    refine row1_ok (i := 33) Es.Known rfl W (Nat.le_of_ble_eq_true rfl) (fun H33 v3 v4 W => ?_)
    refine row1_ok (i := 34) Es.Missing rfl W (Nat.le_of_ble_eq_true rfl) (fun H34 v3 v4 W => ?_)
    refine row1_ok (i := 35) Es.Faulty rfl W (Nat.le_of_ble_eq_true rfl) (fun H35 v3 v4 W => ?_)
    refine row1_ok (i := 36) Es.Wrong rfl W (Nat.le_of_ble_eq_true rfl) (fun H36 v3 v4 W => ?_)
    refine row1_ok (i := 37) Es.Broken rfl W (Nat.le_of_ble_eq_true rfl) (fun H37 v3 v4 W => ?_)
    exact ⟨_, rfl, k _ _ W⟩
end
end L3

namespace L3
open PySem L2
theorem relv_ref (a : Addr) : RelV (.ref a) (.ref a) := rfl
/-! which class an exception is of -/
def Mro (K : PySem.W.Frag) (C : Addr) (bm : List Value) : Prop := ∃ cd, PySem.W.clsIn K C = some cd ∧ cd.mro = .ref C :: bm
theorem kit_own {K : PySem.W.Frag} {C D : Addr} {bm bD : List Value} (h : Mro K C bm) (nb : ∀ x, bm.contains (.ref x) = false) (hD : Mro K D bD) (ty : PySem.W.typeIn K (.ref D) = some (.type "type")) : PySem.W.kitOne K (.ref C) (.ref D) = some (decide (C = D)) := by
  obtain ⟨cd, e1, e2⟩ := h
  obtain ⟨c2, f1, _⟩ := hD
  unfold PySem.W.kitOne
  by_cases q : C = D
  · subst q
    rw [if_pos (by simp), decide_eq_true rfl]
  · rw [if_neg (by simp [q]), decide_eq_false q]
    unfold PySem.W.kitCls
    dsimp only
    rw [f1, ty]
    simp only [Option.isSome_some, Bool.true_and, beq_self_eq_true, if_true]
    unfold PySem.W.subIn
    dsimp only
    unfold PySem.W.mroIn
    rw [e1, Option.bind_some, e2]
    show some (List.contains (Value.ref C :: bm) (.ref D)) = _
    rw [List.contains_cons, nb D, Bool.or_false]
    congr 1
    simp
    exact fun z => q z.symm
theorem kit_blt {K : PySem.W.Frag} {C : Addr} {bm : List Value} {T : String} {b : Bool} (h : Mro K C bm) (hm : PySem.W.kitMeta T = true) (hb : bm.contains (.type T) = b) : PySem.W.kitOne K (.ref C) (.type T) = some b := by
  obtain ⟨cd, e1, e2⟩ := h
  unfold PySem.W.kitOne
  rw [if_neg (by simp)]
  unfold PySem.W.kitCls
  dsimp only
  rw [if_pos hm]
  unfold PySem.W.subIn
  dsimp only
  unfold PySem.W.mroIn
  rw [e1, Option.bind_some, e2]
  show some (List.contains (Value.ref C :: bm) (.type T)) = _
  rw [List.contains_cons, hb]
  rfl
/-- an exception of the class C stands at e -/
def ErAt (H : Hp) (e C : Addr) : Prop := ∃ d : Option Addr, H e = some (exo e C d) ∧ ∀ x, d = some x → ∃ fs, H x = some (exd x fs)
def bmOf (i : Nat) : List Value := if i < 25 then mroV else if i < 35 then mroL else mroR
theorem bmOf_no (i : Nat) (x : Addr) : (bmOf i).contains (.ref x) = false := by
  unfold bmOf
  split
  · rfl
  · split <;> rfl
section
variable {P : Program} {w : World} {K : PySem.W.Frag} {mg : Str → Option Value} {base : Heap} {c : Nat → Addr}
theorem es_all (Es : Es P w K mg base c) : ∀ i, i < 38 → Xr K (c i) ∧ Mro K (c i) (bmOf i) ∧ PySem.W.typeIn K (.ref (c i)) = some (.type "type")
  | 0, _ => ⟨Es.InvalidForm.R, Es.InvalidForm.cd, Es.InvalidForm.ty⟩
  | 1, _ => ⟨Es.InvalidDeclaration.R, Es.InvalidDeclaration.cd, Es.InvalidDeclaration.ty⟩
  | 2, _ => ⟨Es.InvalidPicks.R, Es.InvalidPicks.cd, Es.InvalidPicks.ty⟩
  | 3, _ => ⟨Es.Repeated.R, Es.Repeated.cd, Es.Repeated.ty⟩
  | 4, _ => ⟨Es.BadArms.R, Es.BadArms.cd, Es.BadArms.ty⟩
  | 5, _ => ⟨Es.Misshapen.R, Es.Misshapen.cd, Es.Misshapen.ty⟩
  | 6, _ => ⟨Es.RoleRing.R, Es.RoleRing.cd, Es.RoleRing.ty⟩
  | 7, _ => ⟨Es.BadMembers.R, Es.BadMembers.cd, Es.BadMembers.ty⟩
  | 8, _ => ⟨Es.Grows.R, Es.Grows.cd, Es.Grows.ty⟩
  | 9, _ => ⟨Es.Uncovered.R, Es.Uncovered.cd, Es.Uncovered.ty⟩
  | 10, _ => ⟨Es.Underivable.R, Es.Underivable.cd, Es.Underivable.ty⟩
  | 11, _ => ⟨Es.Clash.R, Es.Clash.cd, Es.Clash.ty⟩
  | 12, _ => ⟨Es.Unsupported.R, Es.Unsupported.cd, Es.Unsupported.ty⟩
  | 13, _ => ⟨Es.Improper.R, Es.Improper.cd, Es.Improper.ty⟩
  | 14, _ => ⟨Es.InvalidKind.R, Es.InvalidKind.cd, Es.InvalidKind.ty⟩
  | 15, _ => ⟨Es.InvalidNeed.R, Es.InvalidNeed.cd, Es.InvalidNeed.ty⟩
  | 16, _ => ⟨Es.InvalidScheme.R, Es.InvalidScheme.cd, Es.InvalidScheme.ty⟩
  | 17, _ => ⟨Es.InvalidCount.R, Es.InvalidCount.cd, Es.InvalidCount.ty⟩
  | 18, _ => ⟨Es.InvalidValue.R, Es.InvalidValue.cd, Es.InvalidValue.ty⟩
  | 19, _ => ⟨Es.InvalidLimit.R, Es.InvalidLimit.cd, Es.InvalidLimit.ty⟩
  | 20, _ => ⟨Es.InvalidMarked.R, Es.InvalidMarked.cd, Es.InvalidMarked.ty⟩
  | 21, _ => ⟨Es.InvalidText.R, Es.InvalidText.cd, Es.InvalidText.ty⟩
  | 22, _ => ⟨Es.InvalidDeed.R, Es.InvalidDeed.cd, Es.InvalidDeed.ty⟩
  | 23, _ => ⟨Es.InvalidGuard.R, Es.InvalidGuard.cd, Es.InvalidGuard.ty⟩
  | 24, _ => ⟨Es.NotClosed.R, Es.NotClosed.cd, Es.NotClosed.ty⟩
  | 25, _ => ⟨Es.Unknown.R, Es.Unknown.cd, Es.Unknown.ty⟩
  | 26, _ => ⟨Es.UnknownName.R, Es.UnknownName.cd, Es.UnknownName.ty⟩
  | 27, _ => ⟨Es.OutOfTerm.R, Es.OutOfTerm.cd, Es.OutOfTerm.ty⟩
  | 28, _ => ⟨Es.NoPrimitive.R, Es.NoPrimitive.cd, Es.NoPrimitive.ty⟩
  | 29, _ => ⟨Es.NoDefinition.R, Es.NoDefinition.cd, Es.NoDefinition.ty⟩
  | 30, _ => ⟨Es.NoCore.R, Es.NoCore.cd, Es.NoCore.ty⟩
  | 31, _ => ⟨Es.Unmet.R, Es.Unmet.cd, Es.Unmet.ty⟩
  | 32, _ => ⟨Es.OutOfRange.R, Es.OutOfRange.cd, Es.OutOfRange.ty⟩
  | 33, _ => ⟨Es.Known.R, Es.Known.cd, Es.Known.ty⟩
  | 34, _ => ⟨Es.Missing.R, Es.Missing.cd, Es.Missing.ty⟩
  | 35, _ => ⟨Es.Faulty.R, Es.Faulty.cd, Es.Faulty.ty⟩
  | 36, _ => ⟨Es.Wrong.R, Es.Wrong.cd, Es.Wrong.ty⟩
  | 37, _ => ⟨Es.Broken.R, Es.Broken.cd, Es.Broken.ty⟩
  | _ + 38, h => absurd h (by omega)
theorem es_kit (Es : Es P w K mg base c) (inj : ∀ i j, i < 38 → j < 38 → c i = c j → i = j) {i j : Nat} (hi : i < 38) (hj : j < 38) : PySem.W.kitOne K (.ref (c i)) (.ref (c j)) = some (decide (i = j)) := by
  rw [kit_own (es_all Es i hi).2.1 (bmOf_no i) (es_all Es j hj).2.1 (es_all Es j hj).2.2]
  congr 1
  exact decide_eq_decide.mpr ⟨inj i j hi hj, fun z => by rw [z]⟩
/-- the flags so far -/
def Flags (c : Nat → Addr) (i : Nat) (e l : Addr) (H0 H : Hp) (j : Nat) : Prop := H l = some (.lst ((List.range j).map fun j => .bl (decide (i = j)))) ∧ H0 l = none ∧ (∀ b o, b ≠ l → H0 b = some o → H b = some o) ∧ ErAt H0 e (c i)
theorem flag_ok {l e : Addr} {i j : Nat} {rest : TS} {D : Ends} {H0 H : Hp} (Es : Es P w K mg base c) (inj : ∀ i j, i < 38 → j < 38 → c i = c j → i = j) (hi : i < 38) (hj : j + 1 < 38) (W : Flags c i e l H0 H j) (k : ∀ H', Flags c i e l H0 H' (j + 2) → rest D [some (.ref e), some (.ref l)] H') :
    tSeq (tDrop (tBM K "list" rExtend (tVar 1) (tCons (tLst (tCons (tCB (rIsX K) (tCons (tVar 0) (tCons (tC (.ref (c j))) tNil))) (tCons (tCB (rIsX K) (tCons (tVar 0) (tCons (tC (.ref (c (j + 1)))) tNil))) tNil))) tNil))) rest D [some (.ref e), some (.ref l)] H := by
  obtain ⟨gl, nl, S, d, hd, hx⟩ := W
  have nel : e ≠ l := fun z => by
    rw [z, nl] at hd
    cases hd
  have he := S _ _ nel hd
  have hx2 : ∀ x, d = some x → ∃ fs, H x = some (exd x fs) := fun x z => by
    obtain ⟨fs, q⟩ := hx x z
    exact ⟨fs, S _ _ (fun z => by rw [z, nl] at q; cases q) q⟩
  have R := (es_all Es i hi).1
  refine ⟨_, rfl, .inl ⟨rfl, _, SqL.of gl⟩, _, rfl, e, c i, d, .ref (c j), .ref (c j), _, rfl, R, he, hx2, fun _ z => z, es_kit Es inj hi (by omega), _, rfl, e, c i, d, .ref (c (j + 1)), .ref (c (j + 1)), _, rfl, R, he, hx2, fun _ z => z, es_kit Es inj hi hj, slz rfl, fun q hq => ?_⟩
  have lj : ((List.range j).map fun j => V.bl (decide (i = j))).length = j := by simp
  refine ⟨l, q, _, _, rfl, rfl, by rw [upd_ne (ne_of_none gl hq)]; exact gl, upd_same, Nat.le_of_lt (size_lineX (by rw [lj]; simp; omega)), ?_⟩
  refine k _ ⟨?_, nl, fun b o nb z => by rw [upd_ne nb]; exact (same_new hq) _ _ (S b o nb z), d, hd, hx⟩
  rw [upd_same, List.range_succ, List.range_succ, List.map_append, List.map_append, List.append_assoc]
  rfl
end
section
variable {P : Program} {w : World} {K : PySem.W.Frag} {mg : Str → Option Value} {base : Heap} {c : Nat → Addr}
abbrev s__law_flags : Stmt := topS 47
abbrev N__law_flags : List Str := ["_law_e", "_law_rows"]
theorem sc__law_flags : FnScope N__law_flags ["_law_e"] (defScope s__law_flags) := ⟨rfl, rfl, rfl, by decide +kernel, rfl, by decide +kernel, by decide +kernel⟩
def spFlags (K : PySem.W.Frag) (c : Nat → Addr) : Sp := fun vs H Q _ => ∃ (e : Addr) (i : Nat), vs = [.ref e] ∧ i < 38 ∧ ErAt H e (c i) ∧ ∀ H' r, Same H H' → H' r = some (.lst ((List.range 38).map fun j => .bl (decide (i = j)))) → Q (.ref r) H'
theorem ok_flags {f : Addr} {fd : FuncData} (F : Fun K "_law_flags" "_law_flags" s__law_flags f fd) (B9 : Bl9 mg) (Es : Es P w K mg base c) (inj : ∀ i j, i < 38 → j < 38 → c i = c j → i = j) : FnOk P w K mg base CX0 1 f fd ["_law_e"] (spFlags K c) := by
  refine F.ok sc__law_flags (fun vs H Q E h => ?_) (fun cdv A outer s H vs Q E hr h => ?_)
  · obtain ⟨e, i, rfl, _⟩ := h
    rfl
  · obtain ⟨e, i, rfl, hi, he, k⟩ := h
    refine ⟨_, (pss_cons (ps_set (i := 1) sc__law_flags.nd rfl (Or.inl rfl) (pe_lst pa_nil))
  (pss_cons (ps_expr (pe_bm PySem.F.plainAttrs_list PySem.F.slot_list_extend PySem.F.type_list_extend mt_extend (pv 1) (pa_cons (pe_lst (pa_cons (pe_callB call_isX (by rfl) B9.isinstance PyProof.Rows.boot_isinstance (pa_cons (pv 0) (pa_cons (pe_gc (by rfl) ⟨_, Es.InvalidForm.hm, relv_ref _⟩) pa_nil))) (pa_cons (pe_callB call_isX (by rfl) B9.isinstance PyProof.Rows.boot_isinstance (pa_cons (pv 0) (pa_cons (pe_gc (by rfl) ⟨_, Es.InvalidDeclaration.hm, relv_ref _⟩) pa_nil))) pa_nil))) pa_nil)))
  (pss_cons (ps_expr (pe_bm PySem.F.plainAttrs_list PySem.F.slot_list_extend PySem.F.type_list_extend mt_extend (pv 1) (pa_cons (pe_lst (pa_cons (pe_callB call_isX (by rfl) B9.isinstance PyProof.Rows.boot_isinstance (pa_cons (pv 0) (pa_cons (pe_gc (by rfl) ⟨_, Es.InvalidPicks.hm, relv_ref _⟩) pa_nil))) (pa_cons (pe_callB call_isX (by rfl) B9.isinstance PyProof.Rows.boot_isinstance (pa_cons (pv 0) (pa_cons (pe_gc (by rfl) ⟨_, Es.Repeated.hm, relv_ref _⟩) pa_nil))) pa_nil))) pa_nil)))
  (pss_cons (ps_expr (pe_bm PySem.F.plainAttrs_list PySem.F.slot_list_extend PySem.F.type_list_extend mt_extend (pv 1) (pa_cons (pe_lst (pa_cons (pe_callB call_isX (by rfl) B9.isinstance PyProof.Rows.boot_isinstance (pa_cons (pv 0) (pa_cons (pe_gc (by rfl) ⟨_, Es.BadArms.hm, relv_ref _⟩) pa_nil))) (pa_cons (pe_callB call_isX (by rfl) B9.isinstance PyProof.Rows.boot_isinstance (pa_cons (pv 0) (pa_cons (pe_gc (by rfl) ⟨_, Es.Misshapen.hm, relv_ref _⟩) pa_nil))) pa_nil))) pa_nil)))
  (pss_cons (ps_expr (pe_bm PySem.F.plainAttrs_list PySem.F.slot_list_extend PySem.F.type_list_extend mt_extend (pv 1) (pa_cons (pe_lst (pa_cons (pe_callB call_isX (by rfl) B9.isinstance PyProof.Rows.boot_isinstance (pa_cons (pv 0) (pa_cons (pe_gc (by rfl) ⟨_, Es.RoleRing.hm, relv_ref _⟩) pa_nil))) (pa_cons (pe_callB call_isX (by rfl) B9.isinstance PyProof.Rows.boot_isinstance (pa_cons (pv 0) (pa_cons (pe_gc (by rfl) ⟨_, Es.BadMembers.hm, relv_ref _⟩) pa_nil))) pa_nil))) pa_nil)))
  (pss_cons (ps_expr (pe_bm PySem.F.plainAttrs_list PySem.F.slot_list_extend PySem.F.type_list_extend mt_extend (pv 1) (pa_cons (pe_lst (pa_cons (pe_callB call_isX (by rfl) B9.isinstance PyProof.Rows.boot_isinstance (pa_cons (pv 0) (pa_cons (pe_gc (by rfl) ⟨_, Es.Grows.hm, relv_ref _⟩) pa_nil))) (pa_cons (pe_callB call_isX (by rfl) B9.isinstance PyProof.Rows.boot_isinstance (pa_cons (pv 0) (pa_cons (pe_gc (by rfl) ⟨_, Es.Uncovered.hm, relv_ref _⟩) pa_nil))) pa_nil))) pa_nil)))
  (pss_cons (ps_expr (pe_bm PySem.F.plainAttrs_list PySem.F.slot_list_extend PySem.F.type_list_extend mt_extend (pv 1) (pa_cons (pe_lst (pa_cons (pe_callB call_isX (by rfl) B9.isinstance PyProof.Rows.boot_isinstance (pa_cons (pv 0) (pa_cons (pe_gc (by rfl) ⟨_, Es.Underivable.hm, relv_ref _⟩) pa_nil))) (pa_cons (pe_callB call_isX (by rfl) B9.isinstance PyProof.Rows.boot_isinstance (pa_cons (pv 0) (pa_cons (pe_gc (by rfl) ⟨_, Es.Clash.hm, relv_ref _⟩) pa_nil))) pa_nil))) pa_nil)))
  (pss_cons (ps_expr (pe_bm PySem.F.plainAttrs_list PySem.F.slot_list_extend PySem.F.type_list_extend mt_extend (pv 1) (pa_cons (pe_lst (pa_cons (pe_callB call_isX (by rfl) B9.isinstance PyProof.Rows.boot_isinstance (pa_cons (pv 0) (pa_cons (pe_gc (by rfl) ⟨_, Es.Unsupported.hm, relv_ref _⟩) pa_nil))) (pa_cons (pe_callB call_isX (by rfl) B9.isinstance PyProof.Rows.boot_isinstance (pa_cons (pv 0) (pa_cons (pe_gc (by rfl) ⟨_, Es.Improper.hm, relv_ref _⟩) pa_nil))) pa_nil))) pa_nil)))
  (pss_cons (ps_expr (pe_bm PySem.F.plainAttrs_list PySem.F.slot_list_extend PySem.F.type_list_extend mt_extend (pv 1) (pa_cons (pe_lst (pa_cons (pe_callB call_isX (by rfl) B9.isinstance PyProof.Rows.boot_isinstance (pa_cons (pv 0) (pa_cons (pe_gc (by rfl) ⟨_, Es.InvalidKind.hm, relv_ref _⟩) pa_nil))) (pa_cons (pe_callB call_isX (by rfl) B9.isinstance PyProof.Rows.boot_isinstance (pa_cons (pv 0) (pa_cons (pe_gc (by rfl) ⟨_, Es.InvalidNeed.hm, relv_ref _⟩) pa_nil))) pa_nil))) pa_nil)))
  (pss_cons (ps_expr (pe_bm PySem.F.plainAttrs_list PySem.F.slot_list_extend PySem.F.type_list_extend mt_extend (pv 1) (pa_cons (pe_lst (pa_cons (pe_callB call_isX (by rfl) B9.isinstance PyProof.Rows.boot_isinstance (pa_cons (pv 0) (pa_cons (pe_gc (by rfl) ⟨_, Es.InvalidScheme.hm, relv_ref _⟩) pa_nil))) (pa_cons (pe_callB call_isX (by rfl) B9.isinstance PyProof.Rows.boot_isinstance (pa_cons (pv 0) (pa_cons (pe_gc (by rfl) ⟨_, Es.InvalidCount.hm, relv_ref _⟩) pa_nil))) pa_nil))) pa_nil)))
  (pss_cons (ps_expr (pe_bm PySem.F.plainAttrs_list PySem.F.slot_list_extend PySem.F.type_list_extend mt_extend (pv 1) (pa_cons (pe_lst (pa_cons (pe_callB call_isX (by rfl) B9.isinstance PyProof.Rows.boot_isinstance (pa_cons (pv 0) (pa_cons (pe_gc (by rfl) ⟨_, Es.InvalidValue.hm, relv_ref _⟩) pa_nil))) (pa_cons (pe_callB call_isX (by rfl) B9.isinstance PyProof.Rows.boot_isinstance (pa_cons (pv 0) (pa_cons (pe_gc (by rfl) ⟨_, Es.InvalidLimit.hm, relv_ref _⟩) pa_nil))) pa_nil))) pa_nil)))
  (pss_cons (ps_expr (pe_bm PySem.F.plainAttrs_list PySem.F.slot_list_extend PySem.F.type_list_extend mt_extend (pv 1) (pa_cons (pe_lst (pa_cons (pe_callB call_isX (by rfl) B9.isinstance PyProof.Rows.boot_isinstance (pa_cons (pv 0) (pa_cons (pe_gc (by rfl) ⟨_, Es.InvalidMarked.hm, relv_ref _⟩) pa_nil))) (pa_cons (pe_callB call_isX (by rfl) B9.isinstance PyProof.Rows.boot_isinstance (pa_cons (pv 0) (pa_cons (pe_gc (by rfl) ⟨_, Es.InvalidText.hm, relv_ref _⟩) pa_nil))) pa_nil))) pa_nil)))
  (pss_cons (ps_expr (pe_bm PySem.F.plainAttrs_list PySem.F.slot_list_extend PySem.F.type_list_extend mt_extend (pv 1) (pa_cons (pe_lst (pa_cons (pe_callB call_isX (by rfl) B9.isinstance PyProof.Rows.boot_isinstance (pa_cons (pv 0) (pa_cons (pe_gc (by rfl) ⟨_, Es.InvalidDeed.hm, relv_ref _⟩) pa_nil))) (pa_cons (pe_callB call_isX (by rfl) B9.isinstance PyProof.Rows.boot_isinstance (pa_cons (pv 0) (pa_cons (pe_gc (by rfl) ⟨_, Es.InvalidGuard.hm, relv_ref _⟩) pa_nil))) pa_nil))) pa_nil)))
  (pss_cons (ps_expr (pe_bm PySem.F.plainAttrs_list PySem.F.slot_list_extend PySem.F.type_list_extend mt_extend (pv 1) (pa_cons (pe_lst (pa_cons (pe_callB call_isX (by rfl) B9.isinstance PyProof.Rows.boot_isinstance (pa_cons (pv 0) (pa_cons (pe_gc (by rfl) ⟨_, Es.NotClosed.hm, relv_ref _⟩) pa_nil))) (pa_cons (pe_callB call_isX (by rfl) B9.isinstance PyProof.Rows.boot_isinstance (pa_cons (pv 0) (pa_cons (pe_gc (by rfl) ⟨_, Es.Unknown.hm, relv_ref _⟩) pa_nil))) pa_nil))) pa_nil)))
  (pss_cons (ps_expr (pe_bm PySem.F.plainAttrs_list PySem.F.slot_list_extend PySem.F.type_list_extend mt_extend (pv 1) (pa_cons (pe_lst (pa_cons (pe_callB call_isX (by rfl) B9.isinstance PyProof.Rows.boot_isinstance (pa_cons (pv 0) (pa_cons (pe_gc (by rfl) ⟨_, Es.UnknownName.hm, relv_ref _⟩) pa_nil))) (pa_cons (pe_callB call_isX (by rfl) B9.isinstance PyProof.Rows.boot_isinstance (pa_cons (pv 0) (pa_cons (pe_gc (by rfl) ⟨_, Es.OutOfTerm.hm, relv_ref _⟩) pa_nil))) pa_nil))) pa_nil)))
  (pss_cons (ps_expr (pe_bm PySem.F.plainAttrs_list PySem.F.slot_list_extend PySem.F.type_list_extend mt_extend (pv 1) (pa_cons (pe_lst (pa_cons (pe_callB call_isX (by rfl) B9.isinstance PyProof.Rows.boot_isinstance (pa_cons (pv 0) (pa_cons (pe_gc (by rfl) ⟨_, Es.NoPrimitive.hm, relv_ref _⟩) pa_nil))) (pa_cons (pe_callB call_isX (by rfl) B9.isinstance PyProof.Rows.boot_isinstance (pa_cons (pv 0) (pa_cons (pe_gc (by rfl) ⟨_, Es.NoDefinition.hm, relv_ref _⟩) pa_nil))) pa_nil))) pa_nil)))
  (pss_cons (ps_expr (pe_bm PySem.F.plainAttrs_list PySem.F.slot_list_extend PySem.F.type_list_extend mt_extend (pv 1) (pa_cons (pe_lst (pa_cons (pe_callB call_isX (by rfl) B9.isinstance PyProof.Rows.boot_isinstance (pa_cons (pv 0) (pa_cons (pe_gc (by rfl) ⟨_, Es.NoCore.hm, relv_ref _⟩) pa_nil))) (pa_cons (pe_callB call_isX (by rfl) B9.isinstance PyProof.Rows.boot_isinstance (pa_cons (pv 0) (pa_cons (pe_gc (by rfl) ⟨_, Es.Unmet.hm, relv_ref _⟩) pa_nil))) pa_nil))) pa_nil)))
  (pss_cons (ps_expr (pe_bm PySem.F.plainAttrs_list PySem.F.slot_list_extend PySem.F.type_list_extend mt_extend (pv 1) (pa_cons (pe_lst (pa_cons (pe_callB call_isX (by rfl) B9.isinstance PyProof.Rows.boot_isinstance (pa_cons (pv 0) (pa_cons (pe_gc (by rfl) ⟨_, Es.OutOfRange.hm, relv_ref _⟩) pa_nil))) (pa_cons (pe_callB call_isX (by rfl) B9.isinstance PyProof.Rows.boot_isinstance (pa_cons (pv 0) (pa_cons (pe_gc (by rfl) ⟨_, Es.Known.hm, relv_ref _⟩) pa_nil))) pa_nil))) pa_nil)))
  (pss_cons (ps_expr (pe_bm PySem.F.plainAttrs_list PySem.F.slot_list_extend PySem.F.type_list_extend mt_extend (pv 1) (pa_cons (pe_lst (pa_cons (pe_callB call_isX (by rfl) B9.isinstance PyProof.Rows.boot_isinstance (pa_cons (pv 0) (pa_cons (pe_gc (by rfl) ⟨_, Es.Missing.hm, relv_ref _⟩) pa_nil))) (pa_cons (pe_callB call_isX (by rfl) B9.isinstance PyProof.Rows.boot_isinstance (pa_cons (pv 0) (pa_cons (pe_gc (by rfl) ⟨_, Es.Faulty.hm, relv_ref _⟩) pa_nil))) pa_nil))) pa_nil)))
  (pss_cons (ps_expr (pe_bm PySem.F.plainAttrs_list PySem.F.slot_list_extend PySem.F.type_list_extend mt_extend (pv 1) (pa_cons (pe_lst (pa_cons (pe_callB call_isX (by rfl) B9.isinstance PyProof.Rows.boot_isinstance (pa_cons (pv 0) (pa_cons (pe_gc (by rfl) ⟨_, Es.Wrong.hm, relv_ref _⟩) pa_nil))) (pa_cons (pe_callB call_isX (by rfl) B9.isinstance PyProof.Rows.boot_isinstance (pa_cons (pv 0) (pa_cons (pe_gc (by rfl) ⟨_, Es.Broken.hm, relv_ref _⟩) pa_nil))) pa_nil))) pa_nil)))
  (pss_one (ps_ret (pv 1))))))))))))))))))))))), ?_⟩
    refine ⟨slz rfl, fun l hl => ?_⟩
    have W : Flags c i e l H (upd H l (.lst [])) 0 := ⟨upd_same, hl, fun b o nb q => by rw [upd_ne nb]; exact q, he⟩
    unfold gName
    dsimp only
    refine flag_ok (j := 0) Es inj hi (by decide) W (fun H0 W => ?_)
    refine flag_ok (j := 2) Es inj hi (by decide) W (fun H1 W => ?_)
    refine flag_ok (j := 4) Es inj hi (by decide) W (fun H2 W => ?_)
    refine flag_ok (j := 6) Es inj hi (by decide) W (fun H3 W => ?_)
    refine flag_ok (j := 8) Es inj hi (by decide) W (fun H4 W => ?_)
    refine flag_ok (j := 10) Es inj hi (by decide) W (fun H5 W => ?_)
    refine flag_ok (j := 12) Es inj hi (by decide) W (fun H6 W => ?_)
    refine flag_ok (j := 14) Es inj hi (by decide) W (fun H7 W => ?_)
    refine flag_ok (j := 16) Es inj hi (by decide) W (fun H8 W => ?_)
    refine flag_ok (j := 18) Es inj hi (by decide) W (fun H9 W => ?_)
    refine flag_ok (j := 20) Es inj hi (by decide) W (fun H10 W => ?_)
    refine flag_ok (j := 22) Es inj hi (by decide) W (fun H11 W => ?_)
    refine flag_ok (j := 24) Es inj hi (by decide) W (fun H12 W => ?_)
    refine flag_ok (j := 26) Es inj hi (by decide) W (fun H13 W => ?_)
    refine flag_ok (j := 28) Es inj hi (by decide) W (fun H14 W => ?_)
    refine flag_ok (j := 30) Es inj hi (by decide) W (fun H15 W => ?_)
    refine flag_ok (j := 32) Es inj hi (by decide) W (fun H16 W => ?_)
    refine flag_ok (j := 34) Es inj hi (by decide) W (fun H17 W => ?_)
    refine flag_ok (j := 36) Es inj hi (by decide) W (fun H18 W => ?_)
    obtain ⟨g, nl, S, _⟩ := W
    exact ⟨_, rfl, k _ l (fun b o q => S b o (fun z => by rw [z, nl] at q; cases q) q) g⟩
end
end L3

namespace L3
open PySem L2
structure BlE (mg : Str → Option Value) : Prop where
  ValueError : mg "ValueError" = none
  LookupError : mg "LookupError" = none
  RuntimeError : mg "RuntimeError" = none
def sortOf (i : Nat) : Str := if i < 25 then "value" else if i < 35 then "lookup" else "runtime"
/-- which of the three it is -/
def w1 (i : Nat) : Bool := decide (i < 25)
def w2 (i : Nat) : Bool := !decide (i < 25) && decide (i < 35)
def w3 (i : Nat) : Bool := !decide (i < 25) && !decide (i < 35)
theorem is_w (i : Nat) : (bmOf i).contains (.type "ValueError") = w1 i ∧ (bmOf i).contains (.type "LookupError") = w2 i ∧ (bmOf i).contains (.type "RuntimeError") = w3 i := by
  unfold bmOf w1 w2 w3
  by_cases h : i < 25
  · rw [if_pos h, decide_eq_true h]
    exact ⟨by decide +kernel, by rw [Bool.not_true, Bool.false_and]; decide +kernel, by rw [Bool.not_true, Bool.false_and]; decide +kernel⟩
  · rw [if_neg h, decide_eq_false h]
    by_cases h2 : i < 35
    · rw [if_pos h2, decide_eq_true h2]
      exact ⟨by decide +kernel, by decide +kernel, by decide +kernel⟩
    · rw [if_neg h2, decide_eq_false h2]
      exact ⟨by decide +kernel, by decide +kernel, by decide +kernel⟩
def sorts : List Str := ["value", "lookup", "runtime"]
def ws (i : Nat) : List Bool := [w1 i, w2 i, w3 i]
def pick3 (i n : Nat) : List V := (((sorts.zip (ws i)).take n).filter (·.2)).map fun p => V.str p.1
theorem pick_end (i : Nat) : pick3 i 3 = [.str (sortOf i)] := by
  unfold pick3 ws w1 w2 w3 sortOf
  by_cases h : i < 25
  · rw [decide_eq_true h, if_pos h]
    rfl
  · rw [decide_eq_false h, if_neg h]
    by_cases h2 : i < 35
    · rw [decide_eq_true h2, if_pos h2]
      rfl
    · rw [decide_eq_false h2, if_neg h2]
      rfl
section
variable {P : Program} {w : World} {K : PySem.W.Frag} {mg : Str → Option Value} {base : Heap} {c : Nat → Addr}
abbrev s__law_sorts : Stmt := topS 48
abbrev N__law_sorts : List Str := ["_law_e", "_law_flags_here", "_law_sort", "_law_flag"]
theorem sc__law_sorts : FnScope N__law_sorts ["_law_e"] (defScope s__law_sorts) := ⟨rfl, rfl, rfl, by decide +kernel, rfl, by decide +kernel, by decide +kernel⟩
def spSorts (K : PySem.W.Frag) (c : Nat → Addr) : Sp := fun vs H Q _ => ∃ (e : Addr) (i : Nat), vs = [.ref e] ∧ i < 38 ∧ ErAt H e (c i) ∧ ∀ H' r, Same H H' → H' r = some (.lst [.str (sortOf i)]) → Q (.ref r) H'
theorem ok_sorts {f : Addr} {fd : FuncData} (F : Fun K "_law_sorts" "_law_sorts" s__law_sorts f fd) (B : Bl mg) (B9 : Bl9 mg) (BE : BlE mg) (Es : Es P w K mg base c) : FnOk P w K mg base CX0 1 f fd ["_law_e"] (spSorts K c) := by
  refine F.ok sc__law_sorts (fun vs H Q E h => ?_) (fun cdv A outer s H vs Q E hr h => ?_)
  · obtain ⟨e, i, rfl, _⟩ := h
    rfl
  · obtain ⟨e, i, rfl, hi, ⟨d, hd, hx⟩, k⟩ := h
    obtain ⟨R, M, _⟩ := es_all Es i hi
    obtain ⟨k1, k2, k3⟩ := is_w i
    refine ⟨_, (pss_cons (ps_set (i := 1) sc__law_sorts.nd rfl (Or.inl rfl) (pe_lst (pa_cons (pe_callB call_isX (by rfl) B9.isinstance PyProof.Rows.boot_isinstance (pa_cons (pv 0) (pa_cons (pe_bltn (v := .ty "ValueError") (by rfl) BE.ValueError (by decide +kernel) rfl) pa_nil))) (pa_cons (pe_callB call_isX (by rfl) B9.isinstance PyProof.Rows.boot_isinstance (pa_cons (pv 0) (pa_cons (pe_bltn (v := .ty "LookupError") (by rfl) BE.LookupError (by decide +kernel) rfl) pa_nil))) (pa_cons (pe_callB call_isX (by rfl) B9.isinstance PyProof.Rows.boot_isinstance (pa_cons (pv 0) (pa_cons (pe_bltn (v := .ty "RuntimeError") (by rfl) BE.RuntimeError (by decide +kernel) rfl) pa_nil))) pa_nil)))))
  (pss_one (ps_ret (pe_lc (own := [("_law_sort", 2), ("_law_flag", 3)]) (g := gTup K 2 (gCons (gName 2) (gCons (gName 3) gNil))) rfl sc__law_sorts.nd (pi_zip (by rfl) B.zip (pa_cons (pe_lst (pa_cons pe_str (pa_cons pe_str (pa_cons pe_str pa_nil)))) (pa_cons (pv 1) pa_nil))) (blkOk_by (N := N__law_sorts) (sc := (defScope s__law_sorts)) (own := [("_law_sort", 2), ("_law_flag", 3)]) (by decide +kernel)) (fun _ _ _ _ _ => (pg_tup (by rfl) (pgs_cons (pg_name (i := 2) sc__law_sorts.nd rfl (Or.inl rfl)) (pgs_cons (pg_name (i := 3) sc__law_sorts.nd rfl (Or.inl rfl)) pgs_nil)))) (fun _ _ _ _ _ => (pts_one (pt_val (pv 3)))) (fun _ _ _ _ _ => (pv 2)))))), ?_⟩
    refine ⟨_, rfl, e, c i, d, .ty "ValueError", .type "ValueError", w1 i, rfl, R, hd, hx, fun _ z => z, kit_blt M (by decide +kernel) k1, _, rfl, e, c i, d, .ty "LookupError", .type "LookupError", w2 i, rfl, R, hd, hx, fun _ z => z, kit_blt M (by decide +kernel) k2, _, rfl, e, c i, d, .ty "RuntimeError", .type "RuntimeError", w3 i, rfl, R, hd, hx, fun _ z => z, kit_blt M (by decide +kernel) k3, slz rfl, fun q hq => ?_⟩
    refine ⟨slz rfl, fun p hp => ⟨_, rfl, ?_⟩⟩
    have s1 := same_new (o := .lst [.bl (w1 i), .bl (w2 i), .bl (w3 i)]) hq
    have s2 := same_new (o := .lst [.str "value", .str "lookup", .str "runtime"]) hp
    have S := s1.trans s2
    have gq := s2 _ _ (upd_same (H := H) (a := q) (o := .lst [.bl (w1 i), .bl (w2 i), .bl (w3 i)]))
    have gp : (upd (upd H q (.lst [.bl (w1 i), .bl (w2 i), .bl (w3 i)])) p (.lst [.str "value", .str "lookup", .str "runtime"])) p = some (.lst [.str "value", .str "lookup", .str "runtime"]) := upd_same
    generalize upd (upd H q (.lst [.bl (w1 i), .bl (w2 i), .bl (w3 i)])) p (.lst [.str "value", .str "lookup", .str "runtime"]) = H1 at S gq gp ⊢
    refine ⟨p, q, _, _, rfl, SqL.of gp, SqL.of gq, fun D hD => lc_it (walk_zip (n := 3) rfl) (fun n H' => Same H1 H' ∧ H' D = some (.lst (pick3 i n))) ⟨same_new hD, upd_same⟩ (fun n H' _ h => ⟨SqL.of (h.1 _ _ gp), SqL.of (h.1 _ _ gq)⟩) ?_ ?_⟩
    · rintro n y H2 H3 hn ⟨s3, g3⟩ ⟨T, x, z, rfl, hT, rfl, ex, ez⟩
      have s4 := same_new (o := .tup [x, z]) hT
      obtain ⟨sx, b, rfl, rfl, st⟩ : ∃ sx b, x = .str sx ∧ z = .bl b ∧ pick3 i (n + 1) = if b = true then pick3 i n ++ [.str sx] else pick3 i n := by
        have step : ∀ (m : Nat) (sx : Str) (b : Bool), (sorts.zip (ws i))[m]? = some (sx, b) → pick3 i (m + 1) = if b = true then pick3 i m ++ [.str sx] else pick3 i m := fun m sx b e => by
          unfold pick3
          rw [List.take_add_one, e]
          cases b <;> simp
        match n, hn, ex, ez with
        | 0, _, ex, ez => exact ⟨"value", w1 i, (Option.some.inj ex).symm, (Option.some.inj ez).symm, step 0 _ _ rfl⟩
        | 1, _, ex, ez => exact ⟨"lookup", w2 i, (Option.some.inj ex).symm, (Option.some.inj ez).symm, step 1 _ _ rfl⟩
        | 2, _, ex, ez => exact ⟨"runtime", w3 i, (Option.some.inj ex).symm, (Option.some.inj ez).symm, step 2 _ _ rfl⟩
        | _ + 3, h, _, _ => exact absurd h (by omega)
      refine ⟨T, _, rfl, SqT.of upd_same, rfl, _, _, rfl, _, _, rfl, rfl, rfl, _, rfl, _, rfl, ?_⟩
      rw [st]
      cases b with
      | true =>
        refine iT rfl ?_
        refine ⟨_, rfl, _, s4 _ _ g3, size_lineX (by unfold pick3; rw [List.length_map]; exact Nat.le_trans (List.length_filter_le _ _) (by rw [List.length_take]; omega)), fun b o q => ?_, ?_⟩
        · rw [upd_ne (ne_of_none q hD)]
          exact s4 _ _ (s3 _ _ q)
        · rw [upd_same]
          rfl
      | false => exact iF rfl ⟨s3.trans s4, s4 _ _ g3⟩
    · rintro H2 ⟨s3, g3⟩
      rw [pick_end] at g3
      exact k H2 D (S.trans s3) g3
end
end L3

/-! how long values of any kind are shown -/
namespace L3
open PySem L2
mutual
def wt : PyData → Nat
  | .list ds => 7 + wtL ds
  | .tuple ds => 7 + wtL ds
  | d => 7 + d.shown.length
def wtL : List PyData → Nat
  | [] => 0
  | d :: ds => 2 + wt d + wtL ds
end
theorem wt_tup (ds : List PyData) : wt (.tuple ds) = 7 + wtL ds := by simp only [wt]
theorem wt_lst (ds : List PyData) : wt (.list ds) = 7 + wtL ds := by simp only [wt]
theorem wtL_cons (d : PyData) (ds : List PyData) : wtL (d :: ds) = 2 + wt d + wtL ds := by simp only [wtL]
theorem wtL_app : ∀ (a b : List PyData), wtL (a ++ b) = wtL a + wtL b
  | [], b => by simp [wtL]
  | d :: a, b => by simp only [List.cons_append, wtL_cons, wtL_app a b]; omega
theorem wt_low (d : PyData) : 7 ≤ wt d := by cases d <;> simp only [wt] <;> omega
theorem wtL_len : ∀ (a : List PyData), a.length ≤ wtL a
  | [] => Nat.le_refl _
  | d :: a => by
    have := wtL_len a
    rw [wtL_cons, List.length_cons]
    omega
mutual
theorem shown_wt : ∀ (d : PyData), d.shown.length ≤ wt d
  | .none => by simp only [wt]; omega
  | .bool _ => by simp only [wt]; omega
  | .int _ => by simp only [wt]; omega
  | .str _ => by simp only [wt]; omega
  | .dict _ => by simp only [wt]; omega
  | .list ds => by
    have h := listText_len_le (PyData.shownAll ds)
    have g := shownAll_wt ds
    simp only [PyData.shown, wt]
    omega
  | .tuple ds => by
    have h := tupleText_len_le (PyData.shownAll ds)
    have g := shownAll_wt ds
    simp only [PyData.shown, wt]
    omega
theorem shownAll_wt : ∀ (ds : List PyData), ((PyData.shownAll ds).map (·.length)).sum + 2 * (PyData.shownAll ds).length ≤ wtL ds
  | [] => by simp [PyData.shownAll, wtL]
  | d :: ds => by
    have h := shown_wt d
    have g := shownAll_wt ds
    simp only [PyData.shownAll, wtL, List.map_cons, List.sum_cons, List.length_cons]
    omega
end
theorem wt_kd : ∀ {k : Kd} {n : Nat}, k.fit n → wt k.dat + 300 ≤ 500 * 2 ^ n
  | .var x, n, h => by
    have w : Wok x := by cases n <;> exact h
    have h2 := shown_word w
    have h3 := shown_var
    have : 1 ≤ 2 ^ n := Nat.one_le_two_pow
    show wt (.tuple [.str "var", .str x]) + 300 ≤ _
    rw [wt_tup, wtL_cons, wtL_cons]
    simp only [wt, wtL]
    omega
  | .con x, n, h => by
    have w : Wok x := by cases n <;> exact h
    have h2 := shown_word w
    have h3 := shown_con
    have : 1 ≤ 2 ^ n := Nat.one_le_two_pow
    show wt (.tuple [.str "con", .str x]) + 300 ≤ _
    rw [wt_tup, wtL_cons, wtL_cons]
    simp only [wt, wtL]
    omega
  | .app a b, n, h => by
    obtain ⟨m, rfl, h1, h2⟩ := Kd.fit_app h
    have i1 := wt_kd h1
    have i2 := wt_kd h2
    have h3 := shown_apply
    show wt (.tuple [.str "apply", a.dat, b.dat]) + 300 ≤ _
    rw [wt_tup, wtL_cons, wtL_cons, wtL_cons, Nat.pow_succ]
    simp only [wtL]
    have e : wt (.str "apply") = 7 + (PyData.str "apply").shown.length := by simp only [wt]
    rw [e]
    omega
end L3

/-! repr of a value of any kind, at the law's own level -/
namespace L3
open PySem PySem.Spec PyProof.Rows L2
section
variable {X : Cx}
def rReprV (t : Addr) : List V → Hp → VK → Prop := fun xs H Q => ∃ (v : V) (d : PyData), xs = [v] ∧ Da t H v d ∧ d.showable = true ∧ d.depth ≤ 60 ∧ d.shown.length ≤ sizeLine ∧ (∀ i, d = .int i → i.natAbs.log2 < 1920) ∧ Q (.str d.shown) H
theorem call_reprV (t : Addr) (hg : X.A.guards = some []) (hu : X.A.units + 64 < cLine) : CallR X (.builtin "repr") (rReprV t) := by
  intro pins s σ H xs us Q I r h
  obtain ⟨v, d, rfl, hd, hs, hdep, hsz, hi, q⟩ := h
  obtain ⟨u, rfl, rx⟩ := vals1 r
  have any : ∀ E a, v = .ref a → wpAny (model X.prog X.w) X.A (call (.builtin "repr") [u]) (EP X pins σ Q) E s := fun E a e => by
    subst e
    obtain rfl : u = Value.ref a := rx
    obtain ⟨as, hr, n⟩ := Da.reads I d _ _ hd (show RelV (.ref a) (.ref a) from rfl)
    exact repr_of_reads' hr hs (fun _ => n) hg (by omega) (fun _ _ e => e) (fun h' u tk hk => ⟨.str d.shown, H, I.kept (t' := tk) hk, ⟨u, rfl⟩, q⟩) hsz
  cases d with
  | none =>
    cases hd
    cases (show u = Value.none from rx)
    exact PySem.P.repr_of_none ⟨.str _, H, I.tok _, ⟨_, rfl⟩, q⟩
  | bool b =>
    cases hd
    cases (show u = Value.bool b from rx)
    exact PySem.P.repr_of_bool ⟨.str _, H, I.tok _, ⟨_, rfl⟩, q⟩
  | int i =>
    cases hd
    obtain ⟨k, rfl⟩ := (show ∃ k, u = Value.int i k from rx)
    exact PySem.P.repr_of_int (hi i rfl) ⟨.str _, H, I.tok _, ⟨_, rfl⟩, q⟩
  | str x =>
    cases hd
    obtain ⟨k, rfl⟩ := (show ∃ k, u = Value.str x k from rx)
    exact PySem.P.repr_of_str ⟨.str _, H, I.tok _, ⟨_, rfl⟩, q⟩ hsz
  | list ds => cases id hd with | lst => exact any _ _ rfl
  | tuple ds => cases id hd with | tup => exact any _ _ rfl
  | dict ds => cases id hd with | dct => exact any _ _ rfl
end
end L3

namespace L3
open PySem L2
theorem call_reprT {X : Cx} (hg : X.A.guards = some []) (hu : X.A.units + 64 < cLine) : CallR X (.builtin "repr") (fun xs H Q => ∃ t, rReprA t xs H Q) :=
  fun pins s σ H xs us Q I r ⟨t, h⟩ => call_reprA t hg hu pins s σ H xs us Q I r h
def rLenK (K : PySem.W.Frag) : List V → Hp → VK → Prop := fun xs H Q => ∃ x n, xs = [x] ∧ LenV K x H n ∧ Q (.int n) H
def okO (d : PyData) : Prop := d.showable = true ∧ d.depth ≤ 3 ∧ wt d ≤ 1000
theorem odds_ok : ∀ d ∈ odds, okO d := by
  have h : (odds.all fun d => d.showable && decide (d.depth ≤ 3) && decide (wt d ≤ 1000)) = true := by decide +kernel
  intro d hd
  have := List.all_eq_true.mp h d hd
  simp only [Bool.and_eq_true, decide_eq_true_eq] at this
  exact ⟨this.1.1, this.1.2, this.2⟩
theorem okO_all : ∀ {ds : List PyData}, (∀ d ∈ ds, okO d) → PyData.showableAll ds = true ∧ PyData.depthAll ds ≤ 3 ∧ wtL ds ≤ ds.length * 1002
  | [], _ => by simp [PyData.showableAll, PyData.depthAll, wtL]
  | d :: ds, h => by
    obtain ⟨a1, a2, a3⟩ := h d (by simp)
    obtain ⟨b1, b2, b3⟩ := okO_all fun x hx => h x (List.mem_cons_of_mem _ hx)
    refine ⟨by simp only [PyData.showableAll, a1, b1]; rfl, by simp only [PyData.depthAll]; omega, ?_⟩
    rw [wtL_cons, List.length_cons]
    omega
theorem rep_list {t l : Addr} {H : Hp} {Q : VK} {vs : List V} {ds : List PyData} (hl : H l = some (.lst vs)) (n : l ≠ sysModules) (hd : DaAll t H vs ds) (ho : ∀ d ∈ ds, okO d) (hz : ds.length ≤ 100) (k : Q (.str (PyData.list ds).shown) H) : ∃ t, rReprA t [.ref l] H Q := by
  obtain ⟨a1, a2, a3⟩ := okO_all ho
  refine ⟨t, l, .list ds, rfl, .lst hl n hd, by simp only [PyData.showable]; exact a1, by simp only [PyData.depth]; omega, ?_, k⟩
  have := shown_wt (.list ds)
  rw [wt_lst] at this
  rw [sizeLine_eq]
  omega
def specAll : List (Nat × Nat × Str) := speca ++ specb ++ specc
theorem spec_at : ∀ i, i < 38 → ∃ ar, specAll[i]? = some (i, ar, sortOf i) := by
  have h : ∀ i, i < 38 → (specAll[i]?.any fun q => decide (q.1 = i) && decide (q.2.2 = sortOf i)) = true := by decide +kernel
  intro i hi
  have := h i hi
  cases e : specAll[i]? with
  | none => rw [e] at this; cases this
  | some q =>
    rw [e] at this
    simp only [Option.any_some, Bool.and_eq_true, decide_eq_true_eq] at this
    obtain ⟨a, b, s⟩ := q
    obtain ⟨h1, h2⟩ := this
    dsimp only at h1 h2
    subst h1
    exact ⟨b, by rw [h2]⟩
theorem paired_append {α β : Type} {F : α → β → Prop} : ∀ {xs us : List α} {ys vs : List β}, Paired F xs ys → Paired F us vs → Paired F (xs ++ us) (ys ++ vs)
  | [], _, [], _, .nil, h => h
  | _ :: _, _, _ :: _, _, .cons a t, h => .cons a (paired_append t h)
theorem paired_at {α β : Type} {F : α → β → Prop} : ∀ {xs : List α} {ys : List β} {i : Nat} {y : β}, Paired F xs ys → ys[i]? = some y → ∃ x, xs[i]? = some x ∧ F x y
  | [], _, _, _, .nil, h => by cases h
  | _ :: _, _ :: _, 0, _, .cons a t, h => ⟨_, rfl, by cases h; exact a⟩
  | _ :: _, _ :: _, i + 1, _, .cons a t, h => paired_at (i := i) t h
/-- a row, none of whose parts is the list of flags -/
def RowIn (fl : Addr) (H : Hp) (r : V) (C : Addr) (vs : List V) (sort : Str) : Prop := ∃ (T e l1 l2 : Addr) (d : Option Addr), r = .ref T ∧ H T = some (.tup [.ref e, .ref l1, .ref l2, .str sort]) ∧ H e = some (exo e C d) ∧ (∀ x, d = some x → x ≠ fl ∧ ∃ fs, H x = some (exd x fs)) ∧
  H l1 = some (.lst vs) ∧ H l2 = some (.lst vs) ∧ l1 ≠ sysModules ∧ l2 ≠ sysModules ∧ T ≠ fl ∧ e ≠ fl ∧ l1 ≠ fl ∧ l2 ≠ fl
theorem RowIn.keep {fl : Addr} {H H' : Hp} {r : V} {C : Addr} {vs : List V} {sort : Str} (h : RowIn fl H r C vs sort) (k : ∀ b o, b ≠ fl → H b = some o → H' b = some o) : RowIn fl H' r C vs sort := by
  obtain ⟨T, e, l1, l2, d, h1, h2, h3, h4, h5, h6, n1, n2, m1, m2, m3, m4⟩ := h
  refine ⟨T, e, l1, l2, d, h1, k _ _ m1 h2, k _ _ m2 h3, fun x hx => ?_, k _ _ m3 h5, k _ _ m4 h6, n1, n2, m1, m2, m3, m4⟩
  obtain ⟨nx, fs, q⟩ := h4 x hx
  exact ⟨nx, fs, k _ _ nx q⟩
theorem RowAt.inn {l fl : Addr} {H0 H H' : Hp} {r : V} {C : Addr} {vs xs : List V} {sort : Str} {o : HO} (h : RowAt l H0 H r C vs sort) (h0 : H0 fl = some o) (hf : H fl = some (.lst xs)) (k : Same H H') : RowIn fl H' r C vs sort := by
  obtain ⟨T, e, l1, l2, d, h1, h2, h3, h4, h5, h6, n1, n2, _, _, z1, z2⟩ := h
  refine ⟨T, e, l1, l2, d, h1, k _ _ h2, k _ _ h3, fun x hx => ?_, k _ _ h5, k _ _ h6, n1, n2, ne_of h2 hf (by intro z; cases z), ne_of h3 hf exo_lst, (fun z => by rw [z, h0] at z1; cases z1), (fun z => by rw [z, h0] at z2; cases z2)⟩
  obtain ⟨fs, q⟩ := h4 x hx
  exact ⟨ne_of q hf exd_lst, fs, k _ _ q⟩
def dsOf (x y : PyData) : Nat → List PyData
  | 0 => []
  | 1 => [x, x]
  | _ => [x, y, x, y]
theorem da_of {t : Addr} {H : Hp} {x y : V} {dx dy : PyData} (hx : Da t H x dx) (hy : Da t H y dy) : ∀ ar, DaAll t H (vsOf x y ar) (dsOf dx dy ar)
  | 0 => .nil
  | 1 => .cons hx (.cons hx .nil)
  | _ + 2 => .cons hx (.cons hy (.cons hx (.cons hy .nil)))
theorem ok_of {dx dy : PyData} (ox : okO dx) (oy : okO dy) : ∀ ar, (∀ d ∈ dsOf dx dy ar, okO d) ∧ (dsOf dx dy ar).length ≤ 100
  | 0 => ⟨fun _ h => (nomatch h), by simp [dsOf]⟩
  | 1 => ⟨fun d h => by simp only [dsOf, List.mem_cons, List.not_mem_nil, or_false, or_self] at h; rw [h]; exact ox, by simp [dsOf]⟩
  | _ + 2 => ⟨fun d h => by
      simp only [dsOf, List.mem_cons, List.not_mem_nil, or_false] at h
      rcases h with rfl | rfl | rfl | rfl <;> first | exact ox | exact oy, by simp [dsOf]⟩
theorem sort_shaped (i : Nat) : SeqAt.shaped (.list [.str (sortOf i)]) = true := by
  unfold sortOf
  by_cases h : i < 25
  · rw [if_pos h]; decide +kernel
  · rw [if_neg h]
    by_cases h2 : i < 35
    · rw [if_pos h2]; decide +kernel
    · rw [if_neg h2]; decide +kernel
theorem one_eqv (x : Str) : PyData.eqv (.list [.str x]) (.list [.str x]) = true := by
  simp [PyData.eqv, PyData.eqvAll]
def flagsOf (k : Nat) : List V := (List.range 38).map fun j => .bl (decide (k = j))
/-- the flags as data -/
def bitsOf (k : Nat) : List Bool := (List.range 38).map fun j => decide (k = j)
def rowD (k : Nat) : PyData := .list ((bitsOf k).map .bool)
def allD : PyData := .list ((List.range 38).map rowD)
theorem all_shaped : SeqAt.shaped allD = true := by decide +kernel
theorem eqv_bools : ∀ bs : List Bool, PyData.eqvAll (bs.map .bool) (bs.map .bool) = true
  | [] => by simp [PyData.eqvAll]
  | b :: bs => by simp only [List.map_cons, PyData.eqvAll, PyData.eqv, eqv_bools bs]; simp
theorem eqv_rows : ∀ ks : List Nat, PyData.eqvAll (ks.map rowD) (ks.map rowD) = true
  | [] => by simp [PyData.eqvAll]
  | k :: ks => by
    have e : PyData.eqv (rowD k) (rowD k) = true := by
      unfold rowD
      simp only [PyData.eqv, eqv_bools]
    simp only [List.map_cons, PyData.eqvAll, e, eqv_rows ks, Bool.and_self]
theorem all_eqv : PyData.eqv allD allD = true := by
  unfold allD
  simp only [PyData.eqv, eqv_rows]
theorem dp_bools {K : PySem.W.Frag} {H : Hp} : ∀ bs : List Bool, DpAll K H (bs.map V.bl) (bs.map .bool)
  | [] => .nil
  | b :: bs => .cons (.bl b) (dp_bools bs)
theorem flags_bits (k : Nat) : flagsOf k = (bitsOf k).map V.bl := by
  unfold flagsOf bitsOf
  rw [List.map_map]
  rfl
theorem dp_from {K : PySem.W.Frag} {H : Hp} {F : Nat → PyData} : ∀ (vs : List V) (k : Nat), (∀ j v, vs[j]? = some v → Dp K H v (F (k + j))) → DpAll K H vs ((List.range' k vs.length).map F)
  | [], _, _ => .nil
  | v :: vs, k, h => by
    rw [List.length_cons, List.range'_succ, List.map_cons]
    refine .cons (h 0 v rfl) (dp_from vs (k + 1) fun j u e => ?_)
    have := h (j + 1) u e
    rw [show k + (j + 1) = k + 1 + j by omega] at this
    exact this
theorem dp_all {K : PySem.W.Frag} {H : Hp} {l : Addr} {as : List Addr} (g : H l = some (.lst (as.map V.ref))) (n : as.length = 38) (h : ∀ j a, as[j]? = some a → H a = some (.lst (flagsOf j))) : Dp K H (.ref l) allD := by
  refine .lst (SqL.of g) ?_
  have := dp_from (K := K) (H := H) (F := rowD) (as.map V.ref) 0 fun j v e => by
    rw [List.getElem?_map] at e
    cases q : as[j]? with
    | none => rw [q] at e; cases e
    | some a =>
      rw [q] at e
      cases e
      rw [Nat.zero_add]
      have g2 := h j a q
      rw [flags_bits] at g2
      exact .lst (SqL.of g2) (dp_bools _)
  rw [List.length_map, n] at this
  rw [List.range_eq_range']
  exact this
theorem take_flags {k m : Nat} (h : m < 38) : (flagsOf k).take (m + 1) = (flagsOf k).take m ++ [.bl (decide (k = m))] := by
  rw [List.take_add_one]
  unfold flagsOf
  rw [List.getElem?_map, List.getElem?_range h]
  rfl
theorem flag_eq (m k : Nat) : decide (V.int (0 + (m : Int)) = V.int (0 + (k : Int))) = decide (k = m) := by
  apply decide_eq_decide.mpr
  constructor
  · intro h; have := V.int.inj h; omega
  · intro h; rw [h]
section
variable {P : Program} {w : World} {K : PySem.W.Frag} {mg : Str → Option Value} {base : Heap} {c : Nat → Addr}
abbrev s_law : Stmt := topS 49
abbrev N_law : List Str := ["_law_script", "_law_tape", "_law_turn", "_law_x", "_law_y", "_law_kept", "_law_flags_here", "_law_e", "_law_told", "_law_due", "_law_sort", "_law_alone", "_law_j", "_law_k"]
theorem sc_law : FnScope N_law ["_law_script"] (defScope s_law) := ⟨rfl, rfl, rfl, by decide +kernel, rfl, by decide +kernel, by decide +kernel⟩
def spLaw (K : PySem.W.Frag) : List V → Hp → VK → Prop := fun vs H Q => ∃ (a : Addr) (ns : List Int), vs = [.ref a] ∧ SqL K H a (ns.map V.int) ∧ ∀ H', Q (.bl true) H'
theorem law_run {f : Addr} {fd : FuncData} (F : Fun K "law" "law" s_law f fd) (B : Bl mg) (BM : mg "min" = none) (D__law_begin : Kn P w K mg base 1 "_law_begin" ["_law_script"] (spBegin K)) (D__law_odd : Kn P w K mg base 3 "_law_odd" ["_law_tape"] (spOdd K))
    (D__law_errors_a : Kn P w K mg base 3 "_law_errors_a" ["_law_x", "_law_y"] (spErr c speca)) (D__law_errors_b : Kn P w K mg base 3 "_law_errors_b" ["_law_x", "_law_y"] (spErr c specb)) (D__law_errors_c : Kn P w K mg base 3 "_law_errors_c" ["_law_x", "_law_y"] (spErr c specc))
    (D__law_flags : Kn P w K mg base 1 "_law_flags" ["_law_e"] (spFlags K c)) (D__law_sorts : Kn P w K mg base 1 "_law_sorts" ["_law_e"] (spSorts K c)) : LawRun P w K mg base f fd "_law_script" (spLaw K) := by
  refine lawRun_of F sc_law (k := 10) ⟨rfl, by decide, by decide⟩ (fun cdv s H v Q hr h => ?_)
  obtain ⟨a, ns, h, hS, k⟩ := h
  cases h
  have hgd : (callerA.deeper (PyProof.Rows.envOfC "law" (defScope s_law) s.heap.objs.size f cdv)).guards = some [] := rfl
  have hr__law_begin : Room 1 _ := hr.mono (by decide)
  have hr__law_odd : Room 3 _ := hr.mono (by decide)
  have hr__law_errors_a : Room 3 _ := hr.mono (by decide)
  have hr__law_errors_b : Room 3 _ := hr.mono (by decide)
  have hr__law_errors_c : Room 3 _ := hr.mono (by decide)
  have hr__law_flags : Room 1 _ := hr.mono (by decide)
  have hr__law_sorts : Room 1 _ := hr.mono (by decide)
  have hu64 := hr.units
  refine ⟨_, (pss_cons (ps_set (i := 1) sc_law.nd rfl (Or.inl rfl) (pe_kn D__law_begin hr__law_begin (pa_cons (pv 0) pa_nil)))
  (pss_cons (ps_for PassesOwn.never rfl (pi_range1 (by rfl) B.range (pa_cons (pe_op op_add pe_int (pe_callB (call_min2 rfl) (by rfl) BM PyProof.Rows.boot_min (pa_cons pe_int (pa_cons (pe_callB call_len (by rfl) B.len PySem.boot_len (pa_cons (pv 0) pa_nil)) pa_nil)))) pa_nil)) (pg_name (i := 2) sc_law.nd rfl (Or.inl rfl))
  (pss_cons (ps_par (i := 3) (j := 4) (by rfl) sc_law.nd rfl rfl (by decide) rfl rfl (pa_cons (pe_kn D__law_odd hr__law_odd (pa_cons (pv 1) pa_nil)) (pa_cons (pe_kn D__law_odd hr__law_odd (pa_cons (pv 1) pa_nil)) pa_nil)) (by rfl))
  (pss_cons (ps_asg (pe_tup (pa_cons (pe_callB (call_reprT hgd hu64) (by rfl) B.repr (by decide +kernel) (pa_cons (pe_lstN (pa_cons (pv 3) (pa_cons (pv 4) pa_nil))) pa_nil)) (pa_cons (pe_lst pa_nil) pa_nil))) (pg_tup (by rfl) (pgs_cons (pg_name (i := 5) sc_law.nd rfl (Or.inl rfl)) (pgs_cons (pg_name (i := 6) sc_law.nd rfl (Or.inr rfl)) pgs_nil))))
  (pss_cons (ps_for PassesOwn.never rfl (pi_list (pe_op op_cat (pe_op op_cat (pe_kn D__law_errors_a hr__law_errors_a (pa_cons (pv 3) (pa_cons (pv 4) pa_nil))) (pe_kn D__law_errors_b hr__law_errors_b (pa_cons (pv 3) (pa_cons (pv 4) pa_nil)))) (pe_kn D__law_errors_c hr__law_errors_c (pa_cons (pv 3) (pa_cons (pv 4) pa_nil))))) (pg_tup (by rfl) (pgs_cons (pg_name (i := 7) sc_law.nd rfl (Or.inl rfl)) (pgs_cons (pg_name (i := 8) sc_law.nd rfl (Or.inl rfl)) (pgs_cons (pg_name (i := 9) sc_law.nd rfl (Or.inl rfl)) (pgs_cons (pg_name (i := 10) sc_law.nd rfl (Or.inl rfl)) pgs_nil)))))
  (pss_cons (ps_if (PW.pt (pw_or (pt_cmpR op_ne (pe_callB (call_reprT hgd hu64) (by rfl) B.repr (by decide +kernel) (pa_cons (pv 8) pa_nil)) (pe_callB (call_reprT hgd hu64) (by rfl) B.repr (by decide +kernel) (pa_cons (pv 9) pa_nil)) (nomark _)) (pw_or1 (pt_cmpR (op_neD hu64) (pe_kn D__law_sorts hr__law_sorts (pa_cons (pv 7) pa_nil)) (pe_lst (pa_cons (pv 10) pa_nil)) (nomark _)))))
  (pss_one (ps_ret pe_bl))
  pss_nil)
  (pss_one (ps_expr (pe_bm PySem.F.plainAttrs_list PySem.F.slot_list_append PySem.F.type_list_append mt_append (pv 6) (pa_cons (pe_kn D__law_flags hr__law_flags (pa_cons (pv 7) pa_nil)) pa_nil))))))
  (pss_cons (ps_setLc (i := 11) (own := [("_law_k", 13)]) rfl sc_law.nd rfl rfl (sw_true rfl rfl rfl (by decide +kernel)) (pi_range1 (by rfl) B.range (pa_cons (pe_callB (show CallR _ (.builtin "len") (rLenK K) from call_len) (by rfl) B.len PySem.boot_len (pa_cons (pv 6) pa_nil)) pa_nil)) (blkOk_by (N := N_law) (sc := (defScope s_law)) (own := [("_law_k", 13)]) (by decide +kernel)) (fun _ _ _ _ _ => (pg_name (i := 13) sc_law.nd rfl (Or.inr rfl))) (fun _ _ _ _ _ => pts_nil) (fun _ _ _ _ _ => (pe_lc (own := [("_law_j", 12)]) rfl sc_law.nd (pi_range1 (by rfl) B.range (pa_cons (pe_callB (show CallR _ (.builtin "len") (rLenK K) from call_len) (by rfl) B.len PySem.boot_len (pa_cons (pv 6) pa_nil)) pa_nil)) (blkOk_by (N := N_law) (own := [("_law_j", 12)]) (by rfl)) (fun _ _ _ _ _ => (pg_name (i := 12) sc_law.nd rfl (Or.inl rfl))) (fun _ _ _ _ _ => pts_nil) (fun _ _ _ _ _ => (pe_cmpR op_eq (pv 12) (pv 13) (nomark _))))))
  (pss_one (ps_if (PW.pt (pw_or (pt_cmpR (op_neD hu64) (pv 6) (pv 11) (nomark _)) (pw_or1 (pt_cmpR op_ne (pe_callB (call_reprT hgd hu64) (by rfl) B.repr (by decide +kernel) (pa_cons (pe_lstN (pa_cons (pv 3) (pa_cons (pv 4) pa_nil))) pa_nil)) (pv 5) (nomark _)))))
  (pss_one (ps_ret pe_bl))
  pss_nil)))))))
  (pss_one (ps_ret pe_bl)))), ?_⟩
  refine ⟨_, rfl, a, ns, rfl, hS, fun H1 t c0 s1 nt T1 => ?_⟩
  obtain ⟨N, hN, lN⟩ : ∃ N : Nat, (3 + if (ns.length : Int) < 4 then (ns.length : Int) else 4) = (N : Int) ∧ N ≤ 7 := by
    by_cases q : ns.length < 4
    · exact ⟨3 + ns.length, by rw [if_pos (by omega)]; omega, by omega⟩
    · exact ⟨7, by rw [if_neg (by omega)]; rfl, by omega⟩
  refine ⟨_, rfl, .ref a, ns.length, rfl, .inl ⟨_, s1.seq hS, by rw [List.length_map]⟩, _, _, rfl, _, _, rfl, rfl, ?_⟩
  refine ⟨N, congrArg (fun z => [V.int z]) hN, by omega, by omega, ?_⟩
  refine for_range (lo := 0) (n := N) (fun i σ H' => ∃ (v2 v3 v4 v5 v6 v7 v8 v9 v10 v11 : Option V), σ = [some (.ref a), some (.ref t), v2, v3, v4, v5, v6, v7, v8, v9, v10, v11, none, none] ∧ Tape K H' t c0 ((N - i) * 100)) ⟨_, _, _, _, _, _, _, _, _, _, rfl, T1.less (by omega)⟩ (fun i σ H2 hi h => ?_) (fun σ H2 h => ?_)
  · obtain ⟨v2, v3, v4, v5, v6, v7, v8, v9, v10, v11, rfl, T2⟩ := h
    have cost : (N - i) * 100 = (N - (i + 1)) * 100 + 100 := by omega
    rw [cost] at T2
    generalize (N - (i + 1)) * 100 = b at T2 ⊢
    refine ⟨_, rfl, t, c0, b + 50, rfl, T2.less (by omega), fun H3 x dx e3 T3 hx ox => ⟨_, rfl, t, c0, b, rfl, T3.less (by omega), fun H4 y dy e4 T4 hy oy => ?_⟩⟩
    refine ⟨_, _, rfl, ?_⟩
    dsimp only
    replace hx := hx.kp (kp_ext e4 T3)
    replace ox := odds_ok _ ox
    replace oy := odds_ok _ oy
    have o2 : ∀ d ∈ [dx, dy], okO d := fun d hd => by
      rcases List.mem_cons.mp hd with rfl | hd
      · exact ox
      · rw [List.mem_singleton.mp hd]
        exact oy
    refine ⟨_, rfl, _, rfl, slz rfl, fun l1 h1 n1 => ?_⟩
    dsimp only [tNil]
    have s5 := same_new (o := .lst [x, y]) h1
    refine rep_list (t := t) upd_same n1 (.cons (hx.kp (kp_same s5)) (.cons (hy.kp (kp_same s5)) .nil)) o2 (Nat.le_of_ble_eq_true rfl) ?_
    refine ⟨slz rfl, fun fl hfl => ⟨slz rfl, fun q hq => ?_⟩⟩
    have s6 := same_new (o := .lst []) hfl
    have s7 := same_new (o := .tup [.str (PyData.list [dx, dy]).shown, .ref fl]) hq
    have S := s5.trans (s6.trans s7)
    have gf := s7 _ _ (upd_same (H := upd H4 l1 (.lst [x, y])) (a := fl) (o := .lst []))
    refine ⟨q, _, rfl, SqT.of upd_same, rfl, _, _, rfl, _, _, rfl, rfl, ?_⟩
    have nfl : H4 fl = none := s5.free hfl
    generalize upd (upd (upd H4 l1 (.lst [x, y])) fl (.lst [])) q (.tup [.str (PyData.list [dx, dy]).shown, .ref fl]) = H5 at S gf ⊢
    clear s5 s6 s7 h1 hfl hq
    refine ⟨_, rfl, _, rfl, x, y, rfl, fun H6 la Wa => ⟨_, rfl, _, rfl, x, y, rfl, fun H7 lb Wb => ?_⟩⟩
    obtain ⟨ra, ga, na, pa, ka⟩ := Wa
    have S6 : Same H5 H6 := fun b o q => ka b o (fun z => by rw [z, na] at q; cases q) q
    obtain ⟨rb, gb, nb, pb, kb⟩ := Wb
    have S7 : Same H6 H7 := fun b o q => kb b o (fun z => by rw [z, nb] at q; cases q) q
    have la1 : ra.length = 13 := Paired.length pa
    have lb1 : rb.length = 13 := Paired.length pb
    refine ⟨la, lb, ra, rb, rfl, rfl, S7 _ _ ga, gb, Nat.le_of_lt (size_lineX (by omega)), fun p1 hp1 => ⟨_, rfl, _, rfl, x, y, rfl, fun H8 lc Wc => ?_⟩⟩
    have sp1 := same_new (o := .lst (ra ++ rb)) hp1
    obtain ⟨rc, gc, nc, pc, kc⟩ := Wc
    have S8 : Same (upd H7 p1 (.lst (ra ++ rb))) H8 := fun b o q => kc b o (fun z => by rw [z, nc] at q; cases q) q
    have lc1 : rc.length = 12 := Paired.length pc
    refine ⟨p1, lc, _, rc, rfl, rfl, S8 _ _ upd_same, gc, Nat.le_of_lt (size_lineX (by rw [List.length_append]; omega)), fun p2 hp2 => ⟨p2, rfl, ⟨_, SqL.of upd_same⟩, ?_⟩⟩
    have sp2 := same_new (o := .lst (ra ++ rb ++ rc)) hp2
    have g2 : (upd H8 p2 (.lst (ra ++ rb ++ rc))) p2 = some (.lst (ra ++ rb ++ rc)) := upd_same
    have S7L := sp1.trans (S8.trans sp2)
    have gf6 := S6 _ _ gf
    have gf7 := S7 _ _ gf6
    have gfL := S7L _ _ gf7
    have nf2 : p2 ≠ fl := fun z => by
      have := (sp1.trans S8) _ _ gf7
      rw [← z, hp2] at this
      cases this
    generalize upd H8 p2 (.lst (ra ++ rb ++ rc)) = HL at sp2 g2 S7L gfL ⊢
    have S4L : Same H4 HL := S.trans (S6.trans (S7.trans S7L))
    have rows : Paired (fun r q => RowIn fl HL r (c q.1) (vsOf x y q.2.1) q.2.2) (ra ++ rb ++ rc) specAll :=
      paired_append (paired_append (L2.Paired.mapP pa fun r q h => h.inn gf gf6 (S7.trans S7L)) (L2.Paired.mapP pb fun r q h => h.inn gf6 gf7 S7L)) (L2.Paired.mapP pc fun r q h => h.inn (sp1 _ _ gf7) ((sp1.trans S8) _ _ gf7) sp2)
    have T5 := T4.same S4L
    have lr : (ra ++ rb ++ rc).length = 38 := by rw [List.length_append, List.length_append]; omega
    generalize ra ++ rb ++ rc = rs at g2 rows lr ⊢
    clear sp1 sp2 S7L S8 S7 S6 S ka kb kc pa pb pc ga gb gc na nb nc gf gf6 gf7 hp1 hp2
    refine for_list (K := K) (a := p2) (xs := rs) (fun n σ H' => ∃ v7 v8 v9 v10, σ = [some (.ref a), some (.ref t), some (.int (0 + (i : Int))), some x, some y, some (.str (PyData.list [dx, dy]).shown), some (.ref fl), v7, v8, v9, v10, v11, none, none] ∧ (∀ b o, b ≠ fl → HL b = some o → H' b = some o) ∧
      ∃ as : List Addr, H' fl = some (.lst (as.map V.ref)) ∧ as.length = n ∧ ∀ j a, as[j]? = some a → a ≠ fl ∧ H' a = some (.lst (flagsOf j))) ⟨v7, v8, v9, v10, rfl, fun _ _ _ q => q, [], gfL, rfl, fun _ _ z => by simp at z⟩ (fun n σ H' _ ⟨_, _, _, _, _, kp, _⟩ => SqL.of (kp _ _ nf2 g2)) ?_ ?_
    · rintro n r σ H' hr' ⟨v7, v8, v9, v10, rfl, kp, as, gfl, las, all⟩
      have hn : n < 38 := by
        have := (List.getElem?_eq_some_iff.mp hr').1
        omega
      have SS : Same H4 H' := fun b o q => kp b o (fun z => by rw [z, nfl] at q; cases q) (S4L _ _ q)
      obtain ⟨ar, es⟩ := spec_at n hn
      obtain ⟨q0, eq0, row⟩ := L3.paired_get rows hr'
      rw [es] at eq0
      cases eq0
      obtain ⟨T, e, l1', l2', d, rfl, gT, ge, gd, g1', g2', n1', n2', m1, m2, m3, m4⟩ := row.keep kp
      have da := da_of (hx.kp (kp_same SS)) (hy.kp (kp_same SS)) ar
      obtain ⟨oks, lds⟩ := ok_of ox oy ar
      refine ⟨T, _, rfl, SqT.of gT, rfl, _, _, rfl, _, _, rfl, _, _, rfl, _, _, rfl, rfl, ?_⟩
      refine ⟨_, rfl, ?_⟩
      dsimp only [tNil]
      refine rep_list (t := t) g1' n1' da oks lds ⟨_, rfl, ?_⟩
      dsimp only [tNil]
      refine rep_list (t := t) g2' n2' da oks lds ⟨rfl, _, rfl, ?_⟩
      refine iF (by rw [decide_eq_true rfl]; rfl) ?_
      refine ⟨_, rfl, e, n, rfl, hn, ⟨d, ge, fun z hz => (gd z hz).2⟩, fun H2 r2 s2 gr2 => ?_⟩
      refine ⟨_, rfl, slz rfl, fun q hq => ?_⟩
      have s3 := same_new (o := .lst [.str (sortOf n)]) hq
      refine ⟨_, _, .lst (SqL.of (s3 _ _ gr2)) (.cons (.str _) .nil), .lst (SqL.of upd_same) (.cons (.str _) .nil), sort_shaped n, sort_shaped n, _, rfl, iF (by rw [one_eqv]; rfl) ?_⟩
      have s23 := s2.trans s3
      refine ⟨_, rfl, .inl ⟨rfl, _, SqL.of (s23 _ _ gfl)⟩, _, rfl, e, n, rfl, hn, ⟨d, s23 _ _ ge, fun z hz => (gd z hz).2.imp fun fs q => s23 _ _ q⟩, fun H4' r4 s4 g4 => ⟨fl, _, _, rfl, rfl, (s23.trans s4) _ _ gfl, size_lineX (by rw [List.length_map]; omega), ?_⟩⟩
      have s24 := s23.trans s4
      refine ⟨_, _, _, _, rfl, fun b o nb q => by rw [upd_ne nb]; exact s24 _ _ (kp b o nb q), as ++ [r4], by rw [upd_same, List.map_append]; rfl, by rw [List.length_append, las]; rfl, fun j a ej => ?_⟩
      rcases Nat.lt_or_ge j as.length with hj | hj
      · rw [List.getElem?_append_left hj] at ej
        obtain ⟨na, ga⟩ := all j a ej
        exact ⟨na, by rw [upd_ne na]; exact s24 _ _ ga⟩
      · have ej2 : j = as.length := by
          have := (List.getElem?_eq_some_iff.mp ej).1
          rw [List.length_append, List.length_singleton] at this
          omega
        subst ej2
        rw [List.getElem?_append_right (Nat.le_refl _), Nat.sub_self] at ej
        cases ej
        have nr : r4 ≠ fl := fun z => by
          have q := s24 _ _ gfl
          rw [← z, g4] at q
          have q2 := congrArg List.length (HO.lst.inj (Option.some.inj q))
          simp at q2
          omega
        refine ⟨nr, ?_⟩
        rw [upd_ne nr, las]
        exact g4
    · rintro σ H' ⟨v7, v8, v9, v10, rfl, kp, as, gfl, las, all⟩
      rw [lr] at las
      have SS : Same H4 H' := fun b o q => kp b o (fun z => by rw [z, nfl] at q; cases q) (S4L _ _ q)
      refine ⟨_, rfl, .ref fl, 38, rfl, .inl ⟨_, SqL.of gfl, by rw [List.length_map]; exact las.symm⟩, (38 : Nat), rfl, by decide, by decide, fun D hD => lc_it (walk_range (lo := 0) (n := 38)) (fun k H2 => Same H' H2 ∧ ∃ bs : List Addr, H2 D = some (.lst (bs.map V.ref)) ∧ bs.length = k ∧ ∀ j a, bs[j]? = some a → a ≠ D ∧ H2 a = some (.lst (flagsOf j))) ⟨same_new hD, [], upd_same, rfl, fun _ _ z => by simp at z⟩ (fun _ _ _ _ => trivial) ?_ ?_⟩
      · rintro k y' H2 H3 hk ⟨s2, bs, gD, lbs, allb⟩ ⟨rfl, rfl⟩
        refine ⟨rfl, ?_⟩
        refine ⟨_, rfl, .ref fl, 38, rfl, .inl ⟨_, SqL.of (s2 _ _ gfl), by rw [List.length_map]; exact las.symm⟩, (38 : Nat), rfl, by decide, by decide, fun D2 hD2 => lc_it (walk_range (lo := 0) (n := 38)) (fun m H4' => Same H3 H4' ∧ H4' D2 = some (.lst ((flagsOf k).take m))) ⟨same_new hD2, upd_same⟩ (fun _ _ _ _ => trivial) ?_ ?_⟩
        · rintro m z H4' H5' hm ⟨s4, g4⟩ ⟨rfl, rfl⟩
          refine ⟨rfl, ?_⟩
          refine ⟨_, rfl, _, rfl, rfl, _, g4, size_lineX (by rw [List.length_take]; omega), (fun b o q => by rw [upd_ne (fun z => by rw [z, hD2] at q; cases q)]; exact s4 _ _ q), ?_⟩
          rw [upd_same, take_flags hm]
          exact congrArg (fun z => some (HO.lst (List.take m (flagsOf k) ++ [V.bl z]))) (flag_eq m k)
        · rintro H4' ⟨s4, g4⟩
          have gD4 := s4 _ _ gD
          have lf : (flagsOf k).length = 38 := by unfold flagsOf; rw [List.length_map, List.length_range]
          rw [List.take_of_length_le (by omega)] at g4
          have nD : D2 ≠ D := fun z => by rw [z, gD] at hD2; cases hD2
          refine ⟨_, gD4, size_lineX (by rw [List.length_map]; omega), fun b o q => ?_, bs ++ [D2], by rw [upd_same, List.map_append]; rfl, by rw [List.length_append, lbs]; rfl, fun j a ej => ?_⟩
          · rw [upd_ne (fun z => by rw [z, hD] at q; cases q)]
            exact s4 _ _ (s2 _ _ q)
          · rcases Nat.lt_or_ge j bs.length with hj | hj
            · rw [List.getElem?_append_left hj] at ej
              obtain ⟨na, ga⟩ := allb j a ej
              exact ⟨na, by rw [upd_ne na]; exact s4 _ _ ga⟩
            · have ej2 : j = bs.length := by
                have := (List.getElem?_eq_some_iff.mp ej).1
                rw [List.length_append, List.length_singleton] at this
                omega
              subst ej2
              rw [List.getElem?_append_right (Nat.le_refl _), Nat.sub_self] at ej
              cases ej
              refine ⟨nD, ?_⟩
              rw [upd_ne nD, lbs]
              exact g4
      · rintro H2 ⟨s2, bs, gD, lbs, allb⟩
        have S2 : Same H4 H2 := SS.trans s2
        unfold gName
        dsimp only
        refine ⟨_, rfl, _, rfl, _, _, dp_all (s2 _ _ gfl) las (fun j a e => s2 _ _ (all j a e).2), dp_all gD lbs (fun j a e => (allb j a e).2), all_shaped, all_shaped, _, rfl, ?_⟩
        refine iF (by rw [all_eqv]; rfl) ?_
        refine ⟨_, rfl, _, rfl, slz rfl, fun l3 h3 n3 => ?_⟩
        dsimp only [tNil]
        have s9 := same_new (o := .lst [x, y]) h3
        have S9 := S2.trans s9
        refine rep_list (t := t) upd_same n3 (.cons (hx.kp (kp_same S9)) (.cons (hy.kp (kp_same S9)) .nil)) o2 (Nat.le_of_ble_eq_true rfl) ?_
        refine ⟨_, rfl, rfl, _, rfl, ?_⟩
        refine iF (by rw [decide_eq_true rfl]; rfl) ?_
        exact ⟨_, _, _, _, _, _, _, _, _, _, rfl, T4.same S9⟩
  · exact k H2
end
end L3

namespace L3
open PySem L2
/-- a def stands at f -/
def HasFn (K : PySem.W.Frag) (f : Addr) (x q : Str) (st : Stmt) : Prop := ∃ (oc : Value) (od : Option Addr) (kV dc pm : Value) (an : Option Addr) (cd ct : Value) (sl : Array (Option Value)), K.lookup f = some ⟨oc, od, .func (PySem.W.fnOf x q (defArgs st) (defBody st) (defScope st) .none kV dc pm an cd ct), sl⟩ ∧ PySem.W.codeIn K cd q = true ∧ PySem.W.keepIn K (.ref f) = true
theorem fn_is {K : PySem.W.Frag} {f : Addr} {x q : Str} {st : Stmt} {oc : Value} {od : Option Addr} {kV dc pm : Value} {an : Option Addr} {cd ct : Value} {sl : Array (Option Value)} (l : K.lookup f = some ⟨oc, od, .func (PySem.W.fnOf x q (defArgs st) (defBody st) (defScope st) .none kV dc pm an cd ct), sl⟩) (c : PySem.W.codeIn K cd q = true) (k : PySem.W.keepIn K (.ref f) = true) : HasFn K f x q st := ⟨oc, od, kV, dc, pm, an, cd, ct, sl, l, c, k⟩
/-- what K says of a class of errors -/
structure Kc (K : PySem.W.Frag) (x : Str) (bm : List Value) (C : Addr) : Prop where
  ns : PySem.W.nsIn K mainGlobals x = some (some (.ref C))
  kC : PySem.W.keepIn K (.ref C) = true
  dct : PySem.W.hasDictIn K C = true
  ga : PySem.W.findIn K (.ref C) "__getattribute__" = some (some (.builtin "BaseException.__getattribute__"))
  gg : PySem.W.findIn K (.ref C) "__getattr__" = some none
  sb : PySem.W.subIn K (.ref C) (.type "BaseException") = some true
  cl : PySem.W.findIn K (.ref C) "__class__" = some (some (.builtin "object.__class__"))
  gs : PySem.W.specialIn K (.builtin "object.__class__") "__get__" = some (some (.builtin "getset_descriptor.__get__"))
  tk : PySem.W.takesIn K (.builtin "object.__class__") = some true
  ob : PySem.W.mroIn K C (.type "object") = some true
  cd : ∃ cd, PySem.W.clsIn K C = some cd ∧ cd.mro = .ref C :: bm
  ty : PySem.W.typeIn K (.ref C) = some (.type "type")
theorem kc_is {K : PySem.W.Frag} {x : Str} {bm : List Value} {C : Addr} {cd : ClassData} (a1 : PySem.W.nsIn K mainGlobals x = some (some (.ref C))) (a2 : PySem.W.keepIn K (.ref C) = true) (a3 : PySem.W.hasDictIn K C = true)
    (a4 : PySem.W.findIn K (.ref C) "__getattribute__" = some (some (.builtin "BaseException.__getattribute__"))) (a5 : PySem.W.findIn K (.ref C) "__getattr__" = some none) (a6 : PySem.W.subIn K (.ref C) (.type "BaseException") = some true) (a7 : PySem.W.findIn K (.ref C) "__class__" = some (some (.builtin "object.__class__")))
    (a8 : PySem.W.specialIn K (.builtin "object.__class__") "__get__" = some (some (.builtin "getset_descriptor.__get__"))) (a9 : PySem.W.takesIn K (.builtin "object.__class__") = some true) (a10 : PySem.W.mroIn K C (.type "object") = some true) (a11 : PySem.W.clsIn K C = some cd) (a12 : cd.mro = .ref C :: bm) (a13 : PySem.W.typeIn K (.ref C) = some (.type "type")) : Kc K x bm C :=
  ⟨a1, a2, a3, a4, a5, a6, a7, a8, a9, a10, ⟨cd, a11, a12⟩, a13⟩
theorem Kc.R {K : PySem.W.Frag} {x : Str} {bm : List Value} {C : Addr} (G : Kc K x bm C) : Xr K C := ⟨G.ga, G.gg, G.sb, G.dct, G.cl, G.gs, G.tk, G.ob⟩
/-- what it says of one with an own __init__ -/
structure Ki (K : PySem.W.Frag) (C : Addr) (bm : List Value) (nw : String) (fI : Addr) : Prop where
  ini : PySem.W.excInitIn K C bm nw = true
  ov : PySem.W.excOver K C bm = true
  sa : PySem.W.findIn K (.ref C) "__setattr__" = some (some (.builtin "object.__setattr__"))
  iC : PySem.W.findIn K (.ref C) "__init__" = some (some (.ref fI))
  tI : PySem.W.typeIn K (.ref fI) = some (.type "function")
theorem tk_of {K : PySem.W.Frag} {C : Addr} {f : Str} (h : PySem.W.findIn K (.ref C) f = some none) : PySem.W.takerIn K C f = some none := by
  unfold PySem.W.takerIn
  rw [h]
  rfl
section
variable {P : Program} {w : World} {K : PySem.W.Frag} {mg : Str → Option Value} {base : Heap}
theorem e1_of {x f : Str} {bm : List Value} {nw : String} {C fI : Addr} {fd : FuncData} (G : Kc K x bm C) (N : Ki K C bm nw fI) (hm : mg x = some (.ref C)) (no : PySem.W.findIn K (.ref C) f = some none) (ok : FnOk P w K mg base CX0 1 fI fd ["self", f] (spI1 K bm nw f)) (b : Binds K fd ["self", f] []) (kb : KBinds K fd ["self", f] [f] g1 gV1) : E1 P w K mg base x f bm nw C :=
  ⟨hm, ⟨N.ini, N.ov, N.sa, G.kC, G.dct⟩, G.R, tk_of no, no, ⟨fI, fd, ok, N.iC, N.tI, b⟩, ⟨fI, fd, ok, N.iC, N.tI, kb⟩, G.cd, G.ty⟩
theorem e2_of {x f g : Str} {bm : List Value} {nw : String} {C fI : Addr} {fd : FuncData} (G : Kc K x bm C) (N : Ki K C bm nw fI) (hm : mg x = some (.ref C)) (no : PySem.W.findIn K (.ref C) f = some none) (no2 : PySem.W.findIn K (.ref C) g = some none) (ok : FnOk P w K mg base CX0 1 fI fd ["self", f, g] (spI2 K bm nw f g)) (b : Binds K fd ["self", f, g] []) (kb : KBinds K fd ["self", f, g] [g, f] g2 gV2) : E2 P w K mg base x f g bm nw C :=
  ⟨hm, ⟨N.ini, N.ov, N.sa, G.kC, G.dct⟩, G.R, tk_of no, tk_of no2, no, no2, ⟨fI, fd, ok, N.iC, N.tI, b⟩, ⟨fI, fd, ok, N.iC, N.tI, kb⟩, G.cd, G.ty⟩
end
theorem inj_of {L : List Addr} (h : ((List.range 38).all fun i => (List.range 38).all fun j => decide (i = j) || !decide (L.getD i 0 = L.getD j 0)) = true) : ∀ i j, i < 38 → j < 38 → L.getD i 0 = L.getD j 0 → i = j := fun i j hi hj e => by
  have h1 := List.all_eq_true.mp (List.all_eq_true.mp h i (List.mem_range.mpr hi)) j (List.mem_range.mpr hj)
  rw [decide_eq_true e, Bool.not_true, Bool.or_false] at h1
  exact of_decide_eq_true h1
section
variable {P : Program} {w : World} {K : PySem.W.Frag} {mg : Str → Option Value} {base h : Heap} {C f : Addr}
theorem mk_InvalidForm (X : K.In h) (G : h.Ns mainGlobals mg) (q : Kc K "InvalidForm" mroV C) (p : Ki K C mroV "ValueError.__new__" f) (v : HasFn K f "__init__" "InvalidForm.__init__" s_InvalidForm___init__) (n0 : PySem.W.findIn K (.ref C) "word" = some none) : E1 P w K mg base "InvalidForm" "word" mroV "ValueError.__new__" C := by
  obtain ⟨_, _, kV, dc, pm, an, cd, ct, _, lk, ck, kk⟩ := v
  have F := fun_mk (st := s_InvalidForm___init__) lk ck kk
  exact e1_of q p (PySem.W.mg_of X G q.ns) n0 (i_InvalidForm F) (F.binds (fun _ _ _ _ _ _ us hl => match us, hl with | [_, _], _ => rfl)) (kb1 (fun s a b => .of_eq rfl))
theorem mk_InvalidDeclaration (X : K.In h) (G : h.Ns mainGlobals mg) (q : Kc K "InvalidDeclaration" mroV C) (p : Ki K C mroV "ValueError.__new__" f) (v : HasFn K f "__init__" "InvalidDeclaration.__init__" s_InvalidDeclaration___init__) (n0 : PySem.W.findIn K (.ref C) "index" = some none) : E1 P w K mg base "InvalidDeclaration" "index" mroV "ValueError.__new__" C := by
  obtain ⟨_, _, kV, dc, pm, an, cd, ct, _, lk, ck, kk⟩ := v
  have F := fun_mk (st := s_InvalidDeclaration___init__) lk ck kk
  exact e1_of q p (PySem.W.mg_of X G q.ns) n0 (i_InvalidDeclaration F) (F.binds (fun _ _ _ _ _ _ us hl => match us, hl with | [_, _], _ => rfl)) (kb1 (fun s a b => .of_eq rfl))
theorem mk_InvalidPicks (X : K.In h) (G : h.Ns mainGlobals mg) (q : Kc K "InvalidPicks" mroV C) (x : PySem.W.excIn K C mroV "ValueError.__new__" = true) : E0c K mg "InvalidPicks" mroV "ValueError.__new__" C := ⟨PySem.W.mg_of X G q.ns, x, q.kC, q.R, q.cd, q.ty⟩
theorem mk_Repeated (X : K.In h) (G : h.Ns mainGlobals mg) (q : Kc K "Repeated" mroV C) (p : Ki K C mroV "ValueError.__new__" f) (v : HasFn K f "__init__" "Repeated.__init__" s_Repeated___init__) (n0 : PySem.W.findIn K (.ref C) "index" = some none) : E1 P w K mg base "Repeated" "index" mroV "ValueError.__new__" C := by
  obtain ⟨_, _, kV, dc, pm, an, cd, ct, _, lk, ck, kk⟩ := v
  have F := fun_mk (st := s_Repeated___init__) lk ck kk
  exact e1_of q p (PySem.W.mg_of X G q.ns) n0 (i_Repeated F) (F.binds (fun _ _ _ _ _ _ us hl => match us, hl with | [_, _], _ => rfl)) (kb1 (fun s a b => .of_eq rfl))
theorem mk_BadArms (X : K.In h) (G : h.Ns mainGlobals mg) (q : Kc K "BadArms" mroV C) (p : Ki K C mroV "ValueError.__new__" f) (v : HasFn K f "__init__" "BadArms.__init__" s_BadArms___init__) (n0 : PySem.W.findIn K (.ref C) "index" = some none) : E1 P w K mg base "BadArms" "index" mroV "ValueError.__new__" C := by
  obtain ⟨_, _, kV, dc, pm, an, cd, ct, _, lk, ck, kk⟩ := v
  have F := fun_mk (st := s_BadArms___init__) lk ck kk
  exact e1_of q p (PySem.W.mg_of X G q.ns) n0 (i_BadArms F) (F.binds (fun _ _ _ _ _ _ us hl => match us, hl with | [_, _], _ => rfl)) (kb1 (fun s a b => .of_eq rfl))
theorem mk_Misshapen (X : K.In h) (G : h.Ns mainGlobals mg) (q : Kc K "Misshapen" mroV C) (p : Ki K C mroV "ValueError.__new__" f) (v : HasFn K f "__init__" "Misshapen.__init__" s_Misshapen___init__) (n0 : PySem.W.findIn K (.ref C) "index" = some none) : E1 P w K mg base "Misshapen" "index" mroV "ValueError.__new__" C := by
  obtain ⟨_, _, kV, dc, pm, an, cd, ct, _, lk, ck, kk⟩ := v
  have F := fun_mk (st := s_Misshapen___init__) lk ck kk
  exact e1_of q p (PySem.W.mg_of X G q.ns) n0 (i_Misshapen F) (F.binds (fun _ _ _ _ _ _ us hl => match us, hl with | [_, _], _ => rfl)) (kb1 (fun s a b => .of_eq rfl))
theorem mk_RoleRing (X : K.In h) (G : h.Ns mainGlobals mg) (q : Kc K "RoleRing" mroV C) (p : Ki K C mroV "ValueError.__new__" f) (v : HasFn K f "__init__" "RoleRing.__init__" s_RoleRing___init__) (n0 : PySem.W.findIn K (.ref C) "index" = some none) : E1 P w K mg base "RoleRing" "index" mroV "ValueError.__new__" C := by
  obtain ⟨_, _, kV, dc, pm, an, cd, ct, _, lk, ck, kk⟩ := v
  have F := fun_mk (st := s_RoleRing___init__) lk ck kk
  exact e1_of q p (PySem.W.mg_of X G q.ns) n0 (i_RoleRing F) (F.binds (fun _ _ _ _ _ _ us hl => match us, hl with | [_, _], _ => rfl)) (kb1 (fun s a b => .of_eq rfl))
theorem mk_BadMembers (X : K.In h) (G : h.Ns mainGlobals mg) (q : Kc K "BadMembers" mroV C) (p : Ki K C mroV "ValueError.__new__" f) (v : HasFn K f "__init__" "BadMembers.__init__" s_BadMembers___init__) (n0 : PySem.W.findIn K (.ref C) "index" = some none) : E1 P w K mg base "BadMembers" "index" mroV "ValueError.__new__" C := by
  obtain ⟨_, _, kV, dc, pm, an, cd, ct, _, lk, ck, kk⟩ := v
  have F := fun_mk (st := s_BadMembers___init__) lk ck kk
  exact e1_of q p (PySem.W.mg_of X G q.ns) n0 (i_BadMembers F) (F.binds (fun _ _ _ _ _ _ us hl => match us, hl with | [_, _], _ => rfl)) (kb1 (fun s a b => .of_eq rfl))
theorem mk_Grows (X : K.In h) (G : h.Ns mainGlobals mg) (q : Kc K "Grows" mroV C) (p : Ki K C mroV "ValueError.__new__" f) (v : HasFn K f "__init__" "Grows.__init__" s_Grows___init__) (n0 : PySem.W.findIn K (.ref C) "index" = some none) (n1 : PySem.W.findIn K (.ref C) "need" = some none) : E2 P w K mg base "Grows" "index" "need" mroV "ValueError.__new__" C := by
  obtain ⟨_, _, kV, dc, pm, an, cd, ct, _, lk, ck, kk⟩ := v
  have F := fun_mk (st := s_Grows___init__) lk ck kk
  exact e2_of q p (PySem.W.mg_of X G q.ns) n0 n1 (i_Grows F) (F.binds (fun _ _ _ _ _ _ us hl => match us, hl with | [_, _, _], _ => rfl)) (kb2 (fun s a b d => .of_eq rfl))
theorem mk_Uncovered (X : K.In h) (G : h.Ns mainGlobals mg) (q : Kc K "Uncovered" mroV C) (p : Ki K C mroV "ValueError.__new__" f) (v : HasFn K f "__init__" "Uncovered.__init__" s_Uncovered___init__) (n0 : PySem.W.findIn K (.ref C) "index" = some none) : E1 P w K mg base "Uncovered" "index" mroV "ValueError.__new__" C := by
  obtain ⟨_, _, kV, dc, pm, an, cd, ct, _, lk, ck, kk⟩ := v
  have F := fun_mk (st := s_Uncovered___init__) lk ck kk
  exact e1_of q p (PySem.W.mg_of X G q.ns) n0 (i_Uncovered F) (F.binds (fun _ _ _ _ _ _ us hl => match us, hl with | [_, _], _ => rfl)) (kb1 (fun s a b => .of_eq rfl))
theorem mk_Underivable (X : K.In h) (G : h.Ns mainGlobals mg) (q : Kc K "Underivable" mroV C) (p : Ki K C mroV "ValueError.__new__" f) (v : HasFn K f "__init__" "Underivable.__init__" s_Underivable___init__) (n0 : PySem.W.findIn K (.ref C) "word" = some none) (n1 : PySem.W.findIn K (.ref C) "need" = some none) : E2 P w K mg base "Underivable" "word" "need" mroV "ValueError.__new__" C := by
  obtain ⟨_, _, kV, dc, pm, an, cd, ct, _, lk, ck, kk⟩ := v
  have F := fun_mk (st := s_Underivable___init__) lk ck kk
  exact e2_of q p (PySem.W.mg_of X G q.ns) n0 n1 (i_Underivable F) (F.binds (fun _ _ _ _ _ _ us hl => match us, hl with | [_, _, _], _ => rfl)) (kb2 (fun s a b d => .of_eq rfl))
theorem mk_Clash (X : K.In h) (G : h.Ns mainGlobals mg) (q : Kc K "Clash" mroV C) (p : Ki K C mroV "ValueError.__new__" f) (v : HasFn K f "__init__" "Clash.__init__" s_Clash___init__) (n0 : PySem.W.findIn K (.ref C) "index" = some none) (n1 : PySem.W.findIn K (.ref C) "other" = some none) : E2 P w K mg base "Clash" "index" "other" mroV "ValueError.__new__" C := by
  obtain ⟨_, _, kV, dc, pm, an, cd, ct, _, lk, ck, kk⟩ := v
  have F := fun_mk (st := s_Clash___init__) lk ck kk
  exact e2_of q p (PySem.W.mg_of X G q.ns) n0 n1 (i_Clash F) (F.binds (fun _ _ _ _ _ _ us hl => match us, hl with | [_, _, _], _ => rfl)) (kb2 (fun s a b d => .of_eq rfl))
theorem mk_Unsupported (X : K.In h) (G : h.Ns mainGlobals mg) (q : Kc K "Unsupported" mroV C) (p : Ki K C mroV "ValueError.__new__" f) (v : HasFn K f "__init__" "Unsupported.__init__" s_Unsupported___init__) (n0 : PySem.W.findIn K (.ref C) "index" = some none) (n1 : PySem.W.findIn K (.ref C) "number" = some none) : E2 P w K mg base "Unsupported" "index" "number" mroV "ValueError.__new__" C := by
  obtain ⟨_, _, kV, dc, pm, an, cd, ct, _, lk, ck, kk⟩ := v
  have F := fun_mk (st := s_Unsupported___init__) lk ck kk
  exact e2_of q p (PySem.W.mg_of X G q.ns) n0 n1 (i_Unsupported F) (F.binds (fun _ _ _ _ _ _ us hl => match us, hl with | [_, _, _], _ => rfl)) (kb2 (fun s a b d => .of_eq rfl))
theorem mk_Improper (X : K.In h) (G : h.Ns mainGlobals mg) (q : Kc K "Improper" mroV C) (p : Ki K C mroV "ValueError.__new__" f) (v : HasFn K f "__init__" "Improper.__init__" s_Improper___init__) (n0 : PySem.W.findIn K (.ref C) "index" = some none) : E1 P w K mg base "Improper" "index" mroV "ValueError.__new__" C := by
  obtain ⟨_, _, kV, dc, pm, an, cd, ct, _, lk, ck, kk⟩ := v
  have F := fun_mk (st := s_Improper___init__) lk ck kk
  exact e1_of q p (PySem.W.mg_of X G q.ns) n0 (i_Improper F) (F.binds (fun _ _ _ _ _ _ us hl => match us, hl with | [_, _], _ => rfl)) (kb1 (fun s a b => .of_eq rfl))
theorem mk_InvalidKind (X : K.In h) (G : h.Ns mainGlobals mg) (q : Kc K "InvalidKind" mroV C) (p : Ki K C mroV "ValueError.__new__" f) (v : HasFn K f "__init__" "InvalidKind.__init__" s_InvalidKind___init__) (n0 : PySem.W.findIn K (.ref C) "value" = some none) : E1 P w K mg base "InvalidKind" "value" mroV "ValueError.__new__" C := by
  obtain ⟨_, _, kV, dc, pm, an, cd, ct, _, lk, ck, kk⟩ := v
  have F := fun_mk (st := s_InvalidKind___init__) lk ck kk
  exact e1_of q p (PySem.W.mg_of X G q.ns) n0 (i_InvalidKind F) (F.binds (fun _ _ _ _ _ _ us hl => match us, hl with | [_, _], _ => rfl)) (kb1 (fun s a b => .of_eq rfl))
theorem mk_InvalidNeed (X : K.In h) (G : h.Ns mainGlobals mg) (q : Kc K "InvalidNeed" mroV C) (p : Ki K C mroV "ValueError.__new__" f) (v : HasFn K f "__init__" "InvalidNeed.__init__" s_InvalidNeed___init__) (n0 : PySem.W.findIn K (.ref C) "value" = some none) : E1 P w K mg base "InvalidNeed" "value" mroV "ValueError.__new__" C := by
  obtain ⟨_, _, kV, dc, pm, an, cd, ct, _, lk, ck, kk⟩ := v
  have F := fun_mk (st := s_InvalidNeed___init__) lk ck kk
  exact e1_of q p (PySem.W.mg_of X G q.ns) n0 (i_InvalidNeed F) (F.binds (fun _ _ _ _ _ _ us hl => match us, hl with | [_, _], _ => rfl)) (kb1 (fun s a b => .of_eq rfl))
theorem mk_InvalidScheme (X : K.In h) (G : h.Ns mainGlobals mg) (q : Kc K "InvalidScheme" mroV C) (p : Ki K C mroV "ValueError.__new__" f) (v : HasFn K f "__init__" "InvalidScheme.__init__" s_InvalidScheme___init__) (n0 : PySem.W.findIn K (.ref C) "value" = some none) : E1 P w K mg base "InvalidScheme" "value" mroV "ValueError.__new__" C := by
  obtain ⟨_, _, kV, dc, pm, an, cd, ct, _, lk, ck, kk⟩ := v
  have F := fun_mk (st := s_InvalidScheme___init__) lk ck kk
  exact e1_of q p (PySem.W.mg_of X G q.ns) n0 (i_InvalidScheme F) (F.binds (fun _ _ _ _ _ _ us hl => match us, hl with | [_, _], _ => rfl)) (kb1 (fun s a b => .of_eq rfl))
theorem mk_InvalidCount (X : K.In h) (G : h.Ns mainGlobals mg) (q : Kc K "InvalidCount" mroV C) (p : Ki K C mroV "ValueError.__new__" f) (v : HasFn K f "__init__" "InvalidCount.__init__" s_InvalidCount___init__) (n0 : PySem.W.findIn K (.ref C) "number" = some none) : E1 P w K mg base "InvalidCount" "number" mroV "ValueError.__new__" C := by
  obtain ⟨_, _, kV, dc, pm, an, cd, ct, _, lk, ck, kk⟩ := v
  have F := fun_mk (st := s_InvalidCount___init__) lk ck kk
  exact e1_of q p (PySem.W.mg_of X G q.ns) n0 (i_InvalidCount F) (F.binds (fun _ _ _ _ _ _ us hl => match us, hl with | [_, _], _ => rfl)) (kb1 (fun s a b => .of_eq rfl))
theorem mk_InvalidValue (X : K.In h) (G : h.Ns mainGlobals mg) (q : Kc K "InvalidValue" mroV C) (p : Ki K C mroV "ValueError.__new__" f) (v : HasFn K f "__init__" "InvalidValue.__init__" s_InvalidValue___init__) (n0 : PySem.W.findIn K (.ref C) "index" = some none) : E1 P w K mg base "InvalidValue" "index" mroV "ValueError.__new__" C := by
  obtain ⟨_, _, kV, dc, pm, an, cd, ct, _, lk, ck, kk⟩ := v
  have F := fun_mk (st := s_InvalidValue___init__) lk ck kk
  exact e1_of q p (PySem.W.mg_of X G q.ns) n0 (i_InvalidValue F) (F.binds (fun _ _ _ _ _ _ us hl => match us, hl with | [_, _], _ => rfl)) (kb1 (fun s a b => .of_eq rfl))
theorem mk_InvalidLimit (X : K.In h) (G : h.Ns mainGlobals mg) (q : Kc K "InvalidLimit" mroV C) (p : Ki K C mroV "ValueError.__new__" f) (v : HasFn K f "__init__" "InvalidLimit.__init__" s_InvalidLimit___init__) (n0 : PySem.W.findIn K (.ref C) "limit" = some none) : E1 P w K mg base "InvalidLimit" "limit" mroV "ValueError.__new__" C := by
  obtain ⟨_, _, kV, dc, pm, an, cd, ct, _, lk, ck, kk⟩ := v
  have F := fun_mk (st := s_InvalidLimit___init__) lk ck kk
  exact e1_of q p (PySem.W.mg_of X G q.ns) n0 (i_InvalidLimit F) (F.binds (fun _ _ _ _ _ _ us hl => match us, hl with | [_, _], _ => rfl)) (kb1 (fun s a b => .of_eq rfl))
theorem mk_InvalidMarked (X : K.In h) (G : h.Ns mainGlobals mg) (q : Kc K "InvalidMarked" mroV C) (p : Ki K C mroV "ValueError.__new__" f) (v : HasFn K f "__init__" "InvalidMarked.__init__" s_InvalidMarked___init__) (n0 : PySem.W.findIn K (.ref C) "index" = some none) : E1 P w K mg base "InvalidMarked" "index" mroV "ValueError.__new__" C := by
  obtain ⟨_, _, kV, dc, pm, an, cd, ct, _, lk, ck, kk⟩ := v
  have F := fun_mk (st := s_InvalidMarked___init__) lk ck kk
  exact e1_of q p (PySem.W.mg_of X G q.ns) n0 (i_InvalidMarked F) (F.binds (fun _ _ _ _ _ _ us hl => match us, hl with | [_, _], _ => rfl)) (kb1 (fun s a b => .of_eq rfl))
theorem mk_InvalidText (X : K.In h) (G : h.Ns mainGlobals mg) (q : Kc K "InvalidText" mroV C) (p : Ki K C mroV "ValueError.__new__" f) (v : HasFn K f "__init__" "InvalidText.__init__" s_InvalidText___init__) (n0 : PySem.W.findIn K (.ref C) "line" = some none) (n1 : PySem.W.findIn K (.ref C) "piece" = some none) : E2 P w K mg base "InvalidText" "line" "piece" mroV "ValueError.__new__" C := by
  obtain ⟨_, _, kV, dc, pm, an, cd, ct, _, lk, ck, kk⟩ := v
  have F := fun_mk (st := s_InvalidText___init__) lk ck kk
  exact e2_of q p (PySem.W.mg_of X G q.ns) n0 n1 (i_InvalidText F) (F.binds (fun _ _ _ _ _ _ us hl => match us, hl with | [_, _, _], _ => rfl)) (kb2 (fun s a b d => .of_eq rfl))
theorem mk_InvalidDeed (X : K.In h) (G : h.Ns mainGlobals mg) (q : Kc K "InvalidDeed" mroV C) (p : Ki K C mroV "ValueError.__new__" f) (v : HasFn K f "__init__" "InvalidDeed.__init__" s_InvalidDeed___init__) (n0 : PySem.W.findIn K (.ref C) "index" = some none) : E1 P w K mg base "InvalidDeed" "index" mroV "ValueError.__new__" C := by
  obtain ⟨_, _, kV, dc, pm, an, cd, ct, _, lk, ck, kk⟩ := v
  have F := fun_mk (st := s_InvalidDeed___init__) lk ck kk
  exact e1_of q p (PySem.W.mg_of X G q.ns) n0 (i_InvalidDeed F) (F.binds (fun _ _ _ _ _ _ us hl => match us, hl with | [_, _], _ => rfl)) (kb1 (fun s a b => .of_eq rfl))
theorem mk_InvalidGuard (X : K.In h) (G : h.Ns mainGlobals mg) (q : Kc K "InvalidGuard" mroV C) (p : Ki K C mroV "ValueError.__new__" f) (v : HasFn K f "__init__" "InvalidGuard.__init__" s_InvalidGuard___init__) (n0 : PySem.W.findIn K (.ref C) "index" = some none) : E1 P w K mg base "InvalidGuard" "index" mroV "ValueError.__new__" C := by
  obtain ⟨_, _, kV, dc, pm, an, cd, ct, _, lk, ck, kk⟩ := v
  have F := fun_mk (st := s_InvalidGuard___init__) lk ck kk
  exact e1_of q p (PySem.W.mg_of X G q.ns) n0 (i_InvalidGuard F) (F.binds (fun _ _ _ _ _ _ us hl => match us, hl with | [_, _], _ => rfl)) (kb1 (fun s a b => .of_eq rfl))
theorem mk_NotClosed (X : K.In h) (G : h.Ns mainGlobals mg) (q : Kc K "NotClosed" mroV C) (p : Ki K C mroV "ValueError.__new__" f) (v : HasFn K f "__init__" "NotClosed.__init__" s_NotClosed___init__) (n0 : PySem.W.findIn K (.ref C) "word" = some none) : E1 P w K mg base "NotClosed" "word" mroV "ValueError.__new__" C := by
  obtain ⟨_, _, kV, dc, pm, an, cd, ct, _, lk, ck, kk⟩ := v
  have F := fun_mk (st := s_NotClosed___init__) lk ck kk
  exact e1_of q p (PySem.W.mg_of X G q.ns) n0 (i_NotClosed F) (F.binds (fun _ _ _ _ _ _ us hl => match us, hl with | [_, _], _ => rfl)) (kb1 (fun s a b => .of_eq rfl))
theorem mk_Unknown (X : K.In h) (G : h.Ns mainGlobals mg) (q : Kc K "Unknown" mroL C) (p : Ki K C mroL "LookupError.__new__" f) (v : HasFn K f "__init__" "Unknown.__init__" s_Unknown___init__) (n0 : PySem.W.findIn K (.ref C) "index" = some none) (n1 : PySem.W.findIn K (.ref C) "word" = some none) : E2 P w K mg base "Unknown" "index" "word" mroL "LookupError.__new__" C := by
  obtain ⟨_, _, kV, dc, pm, an, cd, ct, _, lk, ck, kk⟩ := v
  have F := fun_mk (st := s_Unknown___init__) lk ck kk
  exact e2_of q p (PySem.W.mg_of X G q.ns) n0 n1 (i_Unknown F) (F.binds (fun _ _ _ _ _ _ us hl => match us, hl with | [_, _, _], _ => rfl)) (kb2 (fun s a b d => .of_eq rfl))
theorem mk_UnknownName (X : K.In h) (G : h.Ns mainGlobals mg) (q : Kc K "UnknownName" mroL C) (p : Ki K C mroL "LookupError.__new__" f) (v : HasFn K f "__init__" "UnknownName.__init__" s_UnknownName___init__) (n0 : PySem.W.findIn K (.ref C) "value" = some none) : E1 P w K mg base "UnknownName" "value" mroL "LookupError.__new__" C := by
  obtain ⟨_, _, kV, dc, pm, an, cd, ct, _, lk, ck, kk⟩ := v
  have F := fun_mk (st := s_UnknownName___init__) lk ck kk
  exact e1_of q p (PySem.W.mg_of X G q.ns) n0 (i_UnknownName F) (F.binds (fun _ _ _ _ _ _ us hl => match us, hl with | [_, _], _ => rfl)) (kb1 (fun s a b => .of_eq rfl))
theorem mk_OutOfTerm (X : K.In h) (G : h.Ns mainGlobals mg) (q : Kc K "OutOfTerm" mroL C) (p : Ki K C mroL "LookupError.__new__" f) (v : HasFn K f "__init__" "OutOfTerm.__init__" s_OutOfTerm___init__) (n0 : PySem.W.findIn K (.ref C) "place" = some none) : E1 P w K mg base "OutOfTerm" "place" mroL "LookupError.__new__" C := by
  obtain ⟨_, _, kV, dc, pm, an, cd, ct, _, lk, ck, kk⟩ := v
  have F := fun_mk (st := s_OutOfTerm___init__) lk ck kk
  exact e1_of q p (PySem.W.mg_of X G q.ns) n0 (i_OutOfTerm F) (F.binds (fun _ _ _ _ _ _ us hl => match us, hl with | [_, _], _ => rfl)) (kb1 (fun s a b => .of_eq rfl))
theorem mk_NoPrimitive (X : K.In h) (G : h.Ns mainGlobals mg) (q : Kc K "NoPrimitive" mroL C) (p : Ki K C mroL "LookupError.__new__" f) (v : HasFn K f "__init__" "NoPrimitive.__init__" s_NoPrimitive___init__) (n0 : PySem.W.findIn K (.ref C) "word" = some none) : E1 P w K mg base "NoPrimitive" "word" mroL "LookupError.__new__" C := by
  obtain ⟨_, _, kV, dc, pm, an, cd, ct, _, lk, ck, kk⟩ := v
  have F := fun_mk (st := s_NoPrimitive___init__) lk ck kk
  exact e1_of q p (PySem.W.mg_of X G q.ns) n0 (i_NoPrimitive F) (F.binds (fun _ _ _ _ _ _ us hl => match us, hl with | [_, _], _ => rfl)) (kb1 (fun s a b => .of_eq rfl))
theorem mk_NoDefinition (X : K.In h) (G : h.Ns mainGlobals mg) (q : Kc K "NoDefinition" mroL C) (p : Ki K C mroL "LookupError.__new__" f) (v : HasFn K f "__init__" "NoDefinition.__init__" s_NoDefinition___init__) (n0 : PySem.W.findIn K (.ref C) "word" = some none) : E1 P w K mg base "NoDefinition" "word" mroL "LookupError.__new__" C := by
  obtain ⟨_, _, kV, dc, pm, an, cd, ct, _, lk, ck, kk⟩ := v
  have F := fun_mk (st := s_NoDefinition___init__) lk ck kk
  exact e1_of q p (PySem.W.mg_of X G q.ns) n0 (i_NoDefinition F) (F.binds (fun _ _ _ _ _ _ us hl => match us, hl with | [_, _], _ => rfl)) (kb1 (fun s a b => .of_eq rfl))
theorem mk_NoCore (X : K.In h) (G : h.Ns mainGlobals mg) (q : Kc K "NoCore" mroL C) (p : Ki K C mroL "LookupError.__new__" f) (v : HasFn K f "__init__" "NoCore.__init__" s_NoCore___init__) (n0 : PySem.W.findIn K (.ref C) "where" = some none) : E1 P w K mg base "NoCore" "where" mroL "LookupError.__new__" C := by
  obtain ⟨_, _, kV, dc, pm, an, cd, ct, _, lk, ck, kk⟩ := v
  have F := fun_mk (st := s_NoCore___init__) lk ck kk
  exact e1_of q p (PySem.W.mg_of X G q.ns) n0 (i_NoCore F) (F.binds (fun _ _ _ _ _ _ us hl => match us, hl with | [_, _], _ => rfl)) (kb1 (fun s a b => .of_eq rfl))
theorem mk_Unmet (X : K.In h) (G : h.Ns mainGlobals mg) (q : Kc K "Unmet" mroL C) (p : Ki K C mroL "LookupError.__new__" f) (v : HasFn K f "__init__" "Unmet.__init__" s_Unmet___init__) (n0 : PySem.W.findIn K (.ref C) "need" = some none) : E1 P w K mg base "Unmet" "need" mroL "LookupError.__new__" C := by
  obtain ⟨_, _, kV, dc, pm, an, cd, ct, _, lk, ck, kk⟩ := v
  have F := fun_mk (st := s_Unmet___init__) lk ck kk
  exact e1_of q p (PySem.W.mg_of X G q.ns) n0 (i_Unmet F) (F.binds (fun _ _ _ _ _ _ us hl => match us, hl with | [_, _], _ => rfl)) (kb1 (fun s a b => .of_eq rfl))
theorem mk_OutOfRange (X : K.In h) (G : h.Ns mainGlobals mg) (q : Kc K "OutOfRange" mroL C) (p : Ki K C mroL "LookupError.__new__" f) (v : HasFn K f "__init__" "OutOfRange.__init__" s_OutOfRange___init__) (n0 : PySem.W.findIn K (.ref C) "value" = some none) : E1 P w K mg base "OutOfRange" "value" mroL "LookupError.__new__" C := by
  obtain ⟨_, _, kV, dc, pm, an, cd, ct, _, lk, ck, kk⟩ := v
  have F := fun_mk (st := s_OutOfRange___init__) lk ck kk
  exact e1_of q p (PySem.W.mg_of X G q.ns) n0 (i_OutOfRange F) (F.binds (fun _ _ _ _ _ _ us hl => match us, hl with | [_, _], _ => rfl)) (kb1 (fun s a b => .of_eq rfl))
theorem mk_Known (X : K.In h) (G : h.Ns mainGlobals mg) (q : Kc K "Known" mroL C) (p : Ki K C mroL "LookupError.__new__" f) (v : HasFn K f "__init__" "Known.__init__" s_Known___init__) (n0 : PySem.W.findIn K (.ref C) "index" = some none) : E1 P w K mg base "Known" "index" mroL "LookupError.__new__" C := by
  obtain ⟨_, _, kV, dc, pm, an, cd, ct, _, lk, ck, kk⟩ := v
  have F := fun_mk (st := s_Known___init__) lk ck kk
  exact e1_of q p (PySem.W.mg_of X G q.ns) n0 (i_Known F) (F.binds (fun _ _ _ _ _ _ us hl => match us, hl with | [_, _], _ => rfl)) (kb1 (fun s a b => .of_eq rfl))
theorem mk_Missing (X : K.In h) (G : h.Ns mainGlobals mg) (q : Kc K "Missing" mroL C) (p : Ki K C mroL "LookupError.__new__" f) (v : HasFn K f "__init__" "Missing.__init__" s_Missing___init__) (n0 : PySem.W.findIn K (.ref C) "index" = some none) : E1 P w K mg base "Missing" "index" mroL "LookupError.__new__" C := by
  obtain ⟨_, _, kV, dc, pm, an, cd, ct, _, lk, ck, kk⟩ := v
  have F := fun_mk (st := s_Missing___init__) lk ck kk
  exact e1_of q p (PySem.W.mg_of X G q.ns) n0 (i_Missing F) (F.binds (fun _ _ _ _ _ _ us hl => match us, hl with | [_, _], _ => rfl)) (kb1 (fun s a b => .of_eq rfl))
theorem mk_Faulty (X : K.In h) (G : h.Ns mainGlobals mg) (q : Kc K "Faulty" mroR C) (p : Ki K C mroR "RuntimeError.__new__" f) (v : HasFn K f "__init__" "Faulty.__init__" s_Faulty___init__) (n0 : PySem.W.findIn K (.ref C) "where" = some none) : E1 P w K mg base "Faulty" "where" mroR "RuntimeError.__new__" C := by
  obtain ⟨_, _, kV, dc, pm, an, cd, ct, _, lk, ck, kk⟩ := v
  have F := fun_mk (st := s_Faulty___init__) lk ck kk
  exact e1_of q p (PySem.W.mg_of X G q.ns) n0 (i_Faulty F) (F.binds (fun _ _ _ _ _ _ us hl => match us, hl with | [_, _], _ => rfl)) (kb1 (fun s a b => .of_eq rfl))
theorem mk_Wrong (X : K.In h) (G : h.Ns mainGlobals mg) (q : Kc K "Wrong" mroR C) (p : Ki K C mroR "RuntimeError.__new__" f) (v : HasFn K f "__init__" "Wrong.__init__" s_Wrong___init__) (n0 : PySem.W.findIn K (.ref C) "found" = some none) : E1 P w K mg base "Wrong" "found" mroR "RuntimeError.__new__" C := by
  obtain ⟨_, _, kV, dc, pm, an, cd, ct, _, lk, ck, kk⟩ := v
  have F := fun_mk (st := s_Wrong___init__) lk ck kk
  exact e1_of q p (PySem.W.mg_of X G q.ns) n0 (i_Wrong F) (F.binds (fun _ _ _ _ _ _ us hl => match us, hl with | [_, _], _ => rfl)) (kb1 (fun s a b => .of_eq rfl))
theorem mk_Broken (X : K.In h) (G : h.Ns mainGlobals mg) (q : Kc K "Broken" mroR C) (p : Ki K C mroR "RuntimeError.__new__" f) (v : HasFn K f "__init__" "Broken.__init__" s_Broken___init__) (n0 : PySem.W.findIn K (.ref C) "index" = some none) : E1 P w K mg base "Broken" "index" mroR "RuntimeError.__new__" C := by
  obtain ⟨_, _, kV, dc, pm, an, cd, ct, _, lk, ck, kk⟩ := v
  have F := fun_mk (st := s_Broken___init__) lk ck kk
  exact e1_of q p (PySem.W.mg_of X G q.ns) n0 (i_Broken F) (F.binds (fun _ _ _ _ _ _ us hl => match us, hl with | [_, _], _ => rfl)) (kb1 (fun s a b => .of_eq rfl))
end
theorem all_mk {l : PySem.W.OpenLaw} {w : World} {K : PySem.W.Frag} {h : Heap} {mg : Str → Option Value} {fa f1 f2 f3 f4 f5 f6 f7 f8 f9 f10 C0 C1 C2 C3 C4 C5 C6 C7 C8 C9 C10 C11 C12 C13 C14 C15 C16 C17 C18 C19 C20 C21 C22 C23 C24 C25 C26 C27 C28 C29 C30 C31 C32 C33 C34 C35 C36 C37 g0 g1 g3 g4 g5 g6 g7 g8 g9 g10 g11 g12 g13 g14 g15 g16 g17 g18 g19 g20 g21 g22 g23 g24 g25 g26 g27 g28 g29 g30 g31 g32 g33 g34 g35 g36 g37 : Addr} (X : K.In h) (G : h.Ns mainGlobals mg) (hfa : mg "law" = some (.ref fa))
    (a1 : PySem.W.nsIn K mainGlobals "_law_begin" = some (some (.ref f1))) (u1 : HasFn K f1 "_law_begin" "_law_begin" s__law_begin)
    (a2 : PySem.W.nsIn K mainGlobals "_law_draw" = some (some (.ref f2))) (u2 : HasFn K f2 "_law_draw" "_law_draw" s__law_draw)
    (a3 : PySem.W.nsIn K mainGlobals "_law_pick" = some (some (.ref f3))) (u3 : HasFn K f3 "_law_pick" "_law_pick" s__law_pick)
    (a4 : PySem.W.nsIn K mainGlobals "_law_odd" = some (some (.ref f4))) (u4 : HasFn K f4 "_law_odd" "_law_odd" s__law_odd)
    (a5 : PySem.W.nsIn K mainGlobals "_law_errors_a" = some (some (.ref f5))) (u5 : HasFn K f5 "_law_errors_a" "_law_errors_a" s__law_errors_a)
    (a6 : PySem.W.nsIn K mainGlobals "_law_errors_b" = some (some (.ref f6))) (u6 : HasFn K f6 "_law_errors_b" "_law_errors_b" s__law_errors_b)
    (a7 : PySem.W.nsIn K mainGlobals "_law_errors_c" = some (some (.ref f7))) (u7 : HasFn K f7 "_law_errors_c" "_law_errors_c" s__law_errors_c)
    (a8 : PySem.W.nsIn K mainGlobals "_law_flags" = some (some (.ref f8))) (u8 : HasFn K f8 "_law_flags" "_law_flags" s__law_flags)
    (a9 : PySem.W.nsIn K mainGlobals "_law_sorts" = some (some (.ref f9))) (u9 : HasFn K f9 "_law_sorts" "_law_sorts" s__law_sorts)
    (a10 : PySem.W.nsIn K mainGlobals "law" = some (some (.ref f10))) (u10 : HasFn K f10 "law" "law" s_law)
    (z0 : PySem.W.nsIn K mainGlobals "len" = some none) (z1 : PySem.W.nsIn K mainGlobals "int" = some none) (z2 : PySem.W.nsIn K mainGlobals "list" = some none) (z3 : PySem.W.nsIn K mainGlobals "tuple" = some none) (z4 : PySem.W.nsIn K mainGlobals "dict" = some none) (z5 : PySem.W.nsIn K mainGlobals "repr" = some none) (z6 : PySem.W.nsIn K mainGlobals "range" = some none) (z7 : PySem.W.nsIn K mainGlobals "zip" = some none) (z8 : PySem.W.nsIn K mainGlobals "sorted" = some none) (z9 : PySem.W.nsIn K mainGlobals "isinstance" = some none) (z10 : PySem.W.nsIn K mainGlobals "all" = some none) (z11 : PySem.W.nsIn K mainGlobals "str" = some none) (z12 : PySem.W.nsIn K mainGlobals "tuple" = some none) (z13 : PySem.W.nsIn K mainGlobals "bool" = some none) (z14 : PySem.W.nsIn K mainGlobals "int" = some none) (z15 : PySem.W.nsIn K mainGlobals "ord" = some none) (z16 : PySem.W.nsIn K mainGlobals "abs" = some none) (z17 : PySem.W.nsIn K mainGlobals "max" = some none) (z18 : PySem.W.nsIn K mainGlobals "ValueError" = some none) (z19 : PySem.W.nsIn K mainGlobals "LookupError" = some none) (z20 : PySem.W.nsIn K mainGlobals "RuntimeError" = some none) (z21 : PySem.W.nsIn K mainGlobals "min" = some none)
    (q0 : Kc K "InvalidForm" mroV C0) (p0 : Ki K C0 mroV "ValueError.__new__" g0) (v0 : HasFn K g0 "__init__" "InvalidForm.__init__" s_InvalidForm___init__) (n0_0 : PySem.W.findIn K (.ref C0) "word" = some none)
    (q1 : Kc K "InvalidDeclaration" mroV C1) (p1 : Ki K C1 mroV "ValueError.__new__" g1) (v1 : HasFn K g1 "__init__" "InvalidDeclaration.__init__" s_InvalidDeclaration___init__) (n1_0 : PySem.W.findIn K (.ref C1) "index" = some none)
    (q2 : Kc K "InvalidPicks" mroV C2) (x2 : PySem.W.excIn K C2 mroV "ValueError.__new__" = true)
    (q3 : Kc K "Repeated" mroV C3) (p3 : Ki K C3 mroV "ValueError.__new__" g3) (v3 : HasFn K g3 "__init__" "Repeated.__init__" s_Repeated___init__) (n3_0 : PySem.W.findIn K (.ref C3) "index" = some none)
    (q4 : Kc K "BadArms" mroV C4) (p4 : Ki K C4 mroV "ValueError.__new__" g4) (v4 : HasFn K g4 "__init__" "BadArms.__init__" s_BadArms___init__) (n4_0 : PySem.W.findIn K (.ref C4) "index" = some none)
    (q5 : Kc K "Misshapen" mroV C5) (p5 : Ki K C5 mroV "ValueError.__new__" g5) (v5 : HasFn K g5 "__init__" "Misshapen.__init__" s_Misshapen___init__) (n5_0 : PySem.W.findIn K (.ref C5) "index" = some none)
    (q6 : Kc K "RoleRing" mroV C6) (p6 : Ki K C6 mroV "ValueError.__new__" g6) (v6 : HasFn K g6 "__init__" "RoleRing.__init__" s_RoleRing___init__) (n6_0 : PySem.W.findIn K (.ref C6) "index" = some none)
    (q7 : Kc K "BadMembers" mroV C7) (p7 : Ki K C7 mroV "ValueError.__new__" g7) (v7 : HasFn K g7 "__init__" "BadMembers.__init__" s_BadMembers___init__) (n7_0 : PySem.W.findIn K (.ref C7) "index" = some none)
    (q8 : Kc K "Grows" mroV C8) (p8 : Ki K C8 mroV "ValueError.__new__" g8) (v8 : HasFn K g8 "__init__" "Grows.__init__" s_Grows___init__) (n8_0 : PySem.W.findIn K (.ref C8) "index" = some none) (n8_1 : PySem.W.findIn K (.ref C8) "need" = some none)
    (q9 : Kc K "Uncovered" mroV C9) (p9 : Ki K C9 mroV "ValueError.__new__" g9) (v9 : HasFn K g9 "__init__" "Uncovered.__init__" s_Uncovered___init__) (n9_0 : PySem.W.findIn K (.ref C9) "index" = some none)
    (q10 : Kc K "Underivable" mroV C10) (p10 : Ki K C10 mroV "ValueError.__new__" g10) (v10 : HasFn K g10 "__init__" "Underivable.__init__" s_Underivable___init__) (n10_0 : PySem.W.findIn K (.ref C10) "word" = some none) (n10_1 : PySem.W.findIn K (.ref C10) "need" = some none)
    (q11 : Kc K "Clash" mroV C11) (p11 : Ki K C11 mroV "ValueError.__new__" g11) (v11 : HasFn K g11 "__init__" "Clash.__init__" s_Clash___init__) (n11_0 : PySem.W.findIn K (.ref C11) "index" = some none) (n11_1 : PySem.W.findIn K (.ref C11) "other" = some none)
    (q12 : Kc K "Unsupported" mroV C12) (p12 : Ki K C12 mroV "ValueError.__new__" g12) (v12 : HasFn K g12 "__init__" "Unsupported.__init__" s_Unsupported___init__) (n12_0 : PySem.W.findIn K (.ref C12) "index" = some none) (n12_1 : PySem.W.findIn K (.ref C12) "number" = some none)
    (q13 : Kc K "Improper" mroV C13) (p13 : Ki K C13 mroV "ValueError.__new__" g13) (v13 : HasFn K g13 "__init__" "Improper.__init__" s_Improper___init__) (n13_0 : PySem.W.findIn K (.ref C13) "index" = some none)
    (q14 : Kc K "InvalidKind" mroV C14) (p14 : Ki K C14 mroV "ValueError.__new__" g14) (v14 : HasFn K g14 "__init__" "InvalidKind.__init__" s_InvalidKind___init__) (n14_0 : PySem.W.findIn K (.ref C14) "value" = some none)
    (q15 : Kc K "InvalidNeed" mroV C15) (p15 : Ki K C15 mroV "ValueError.__new__" g15) (v15 : HasFn K g15 "__init__" "InvalidNeed.__init__" s_InvalidNeed___init__) (n15_0 : PySem.W.findIn K (.ref C15) "value" = some none)
    (q16 : Kc K "InvalidScheme" mroV C16) (p16 : Ki K C16 mroV "ValueError.__new__" g16) (v16 : HasFn K g16 "__init__" "InvalidScheme.__init__" s_InvalidScheme___init__) (n16_0 : PySem.W.findIn K (.ref C16) "value" = some none)
    (q17 : Kc K "InvalidCount" mroV C17) (p17 : Ki K C17 mroV "ValueError.__new__" g17) (v17 : HasFn K g17 "__init__" "InvalidCount.__init__" s_InvalidCount___init__) (n17_0 : PySem.W.findIn K (.ref C17) "number" = some none)
    (q18 : Kc K "InvalidValue" mroV C18) (p18 : Ki K C18 mroV "ValueError.__new__" g18) (v18 : HasFn K g18 "__init__" "InvalidValue.__init__" s_InvalidValue___init__) (n18_0 : PySem.W.findIn K (.ref C18) "index" = some none)
    (q19 : Kc K "InvalidLimit" mroV C19) (p19 : Ki K C19 mroV "ValueError.__new__" g19) (v19 : HasFn K g19 "__init__" "InvalidLimit.__init__" s_InvalidLimit___init__) (n19_0 : PySem.W.findIn K (.ref C19) "limit" = some none)
    (q20 : Kc K "InvalidMarked" mroV C20) (p20 : Ki K C20 mroV "ValueError.__new__" g20) (v20 : HasFn K g20 "__init__" "InvalidMarked.__init__" s_InvalidMarked___init__) (n20_0 : PySem.W.findIn K (.ref C20) "index" = some none)
    (q21 : Kc K "InvalidText" mroV C21) (p21 : Ki K C21 mroV "ValueError.__new__" g21) (v21 : HasFn K g21 "__init__" "InvalidText.__init__" s_InvalidText___init__) (n21_0 : PySem.W.findIn K (.ref C21) "line" = some none) (n21_1 : PySem.W.findIn K (.ref C21) "piece" = some none)
    (q22 : Kc K "InvalidDeed" mroV C22) (p22 : Ki K C22 mroV "ValueError.__new__" g22) (v22 : HasFn K g22 "__init__" "InvalidDeed.__init__" s_InvalidDeed___init__) (n22_0 : PySem.W.findIn K (.ref C22) "index" = some none)
    (q23 : Kc K "InvalidGuard" mroV C23) (p23 : Ki K C23 mroV "ValueError.__new__" g23) (v23 : HasFn K g23 "__init__" "InvalidGuard.__init__" s_InvalidGuard___init__) (n23_0 : PySem.W.findIn K (.ref C23) "index" = some none)
    (q24 : Kc K "NotClosed" mroV C24) (p24 : Ki K C24 mroV "ValueError.__new__" g24) (v24 : HasFn K g24 "__init__" "NotClosed.__init__" s_NotClosed___init__) (n24_0 : PySem.W.findIn K (.ref C24) "word" = some none)
    (q25 : Kc K "Unknown" mroL C25) (p25 : Ki K C25 mroL "LookupError.__new__" g25) (v25 : HasFn K g25 "__init__" "Unknown.__init__" s_Unknown___init__) (n25_0 : PySem.W.findIn K (.ref C25) "index" = some none) (n25_1 : PySem.W.findIn K (.ref C25) "word" = some none)
    (q26 : Kc K "UnknownName" mroL C26) (p26 : Ki K C26 mroL "LookupError.__new__" g26) (v26 : HasFn K g26 "__init__" "UnknownName.__init__" s_UnknownName___init__) (n26_0 : PySem.W.findIn K (.ref C26) "value" = some none)
    (q27 : Kc K "OutOfTerm" mroL C27) (p27 : Ki K C27 mroL "LookupError.__new__" g27) (v27 : HasFn K g27 "__init__" "OutOfTerm.__init__" s_OutOfTerm___init__) (n27_0 : PySem.W.findIn K (.ref C27) "place" = some none)
    (q28 : Kc K "NoPrimitive" mroL C28) (p28 : Ki K C28 mroL "LookupError.__new__" g28) (v28 : HasFn K g28 "__init__" "NoPrimitive.__init__" s_NoPrimitive___init__) (n28_0 : PySem.W.findIn K (.ref C28) "word" = some none)
    (q29 : Kc K "NoDefinition" mroL C29) (p29 : Ki K C29 mroL "LookupError.__new__" g29) (v29 : HasFn K g29 "__init__" "NoDefinition.__init__" s_NoDefinition___init__) (n29_0 : PySem.W.findIn K (.ref C29) "word" = some none)
    (q30 : Kc K "NoCore" mroL C30) (p30 : Ki K C30 mroL "LookupError.__new__" g30) (v30 : HasFn K g30 "__init__" "NoCore.__init__" s_NoCore___init__) (n30_0 : PySem.W.findIn K (.ref C30) "where" = some none)
    (q31 : Kc K "Unmet" mroL C31) (p31 : Ki K C31 mroL "LookupError.__new__" g31) (v31 : HasFn K g31 "__init__" "Unmet.__init__" s_Unmet___init__) (n31_0 : PySem.W.findIn K (.ref C31) "need" = some none)
    (q32 : Kc K "OutOfRange" mroL C32) (p32 : Ki K C32 mroL "LookupError.__new__" g32) (v32 : HasFn K g32 "__init__" "OutOfRange.__init__" s_OutOfRange___init__) (n32_0 : PySem.W.findIn K (.ref C32) "value" = some none)
    (q33 : Kc K "Known" mroL C33) (p33 : Ki K C33 mroL "LookupError.__new__" g33) (v33 : HasFn K g33 "__init__" "Known.__init__" s_Known___init__) (n33_0 : PySem.W.findIn K (.ref C33) "index" = some none)
    (q34 : Kc K "Missing" mroL C34) (p34 : Ki K C34 mroL "LookupError.__new__" g34) (v34 : HasFn K g34 "__init__" "Missing.__init__" s_Missing___init__) (n34_0 : PySem.W.findIn K (.ref C34) "index" = some none)
    (q35 : Kc K "Faulty" mroR C35) (p35 : Ki K C35 mroR "RuntimeError.__new__" g35) (v35 : HasFn K g35 "__init__" "Faulty.__init__" s_Faulty___init__) (n35_0 : PySem.W.findIn K (.ref C35) "where" = some none)
    (q36 : Kc K "Wrong" mroR C36) (p36 : Ki K C36 mroR "RuntimeError.__new__" g36) (v36 : HasFn K g36 "__init__" "Wrong.__init__" s_Wrong___init__) (n36_0 : PySem.W.findIn K (.ref C36) "found" = some none)
    (q37 : Kc K "Broken" mroR C37) (p37 : Ki K C37 mroR "RuntimeError.__new__" g37) (v37 : HasFn K g37 "__init__" "Broken.__init__" s_Broken___init__) (n37_0 : PySem.W.findIn K (.ref C37) "index" = some none)
    (inj : ((List.range 38).all fun i => (List.range 38).all fun j => decide (i = j) || !decide (((C0 :: C1 :: C2 :: C3 :: C4 :: C5 :: C6 :: C7 :: C8 :: C9 :: C10 :: C11 :: C12 :: C13 :: C14 :: C15 :: C16 :: C17 :: C18 :: C19 :: C20 :: C21 :: C22 :: C23 :: C24 :: C25 :: C26 :: C27 :: C28 :: C29 :: C30 :: C31 :: C32 :: C33 :: C34 :: C35 :: C36 :: C37 :: []) : List Addr).getD i 0 = ((C0 :: C1 :: C2 :: C3 :: C4 :: C5 :: C6 :: C7 :: C8 :: C9 :: C10 :: C11 :: C12 :: C13 :: C14 :: C15 :: C16 :: C17 :: C18 :: C19 :: C20 :: C21 :: C22 :: C23 :: C24 :: C25 :: C26 :: C27 :: C28 :: C29 :: C30 :: C31 :: C32 :: C33 :: C34 :: C35 :: C36 :: C37 :: []) : List Addr).getD j 0)) = true) :
    ∃ fd : FuncData, (∀ (s : Shared) (v : Value), BindsTo s fd ⟨[v], []⟩ [("_law_script", v)]) ∧ ∀ base : Heap, K.In base → base.Ns mainGlobals mg → LawRun l.prog w K mg base fa fd "_law_script" (spLaw K) := by
  have e := hfa.symm.trans (PySem.W.mg_of X G a10)
  cases e
  have B : Bl mg := ⟨PySem.W.mg_none_of X G z0, PySem.W.mg_none_of X G z1, PySem.W.mg_none_of X G z2, PySem.W.mg_none_of X G z3, PySem.W.mg_none_of X G z4, PySem.W.mg_none_of X G z5, PySem.W.mg_none_of X G z6, PySem.W.mg_none_of X G z7, PySem.W.mg_none_of X G z8⟩
  have B9 : Bl9 mg := ⟨PySem.W.mg_none_of X G z9, PySem.W.mg_none_of X G z10, PySem.W.mg_none_of X G z11, PySem.W.mg_none_of X G z12, PySem.W.mg_none_of X G z13, PySem.W.mg_none_of X G z14, PySem.W.mg_none_of X G z15, PySem.W.mg_none_of X G z16, PySem.W.mg_none_of X G z17⟩
  have BE : BlE mg := ⟨PySem.W.mg_none_of X G z18, PySem.W.mg_none_of X G z19, PySem.W.mg_none_of X G z20⟩
  have BM : mg "min" = none := PySem.W.mg_none_of X G z21
  obtain ⟨oc1, od1, kV1, dc1, pm1, an1, cd1, ct1, sl1, l1, c1, k1⟩ := u1
  have F1 := fun_mk (st := s__law_begin) l1 c1 k1
  have m1 := PySem.W.mg_of X G a1
  obtain ⟨oc2, od2, kV2, dc2, pm2, an2, cd2, ct2, sl2, l2, c2, k2⟩ := u2
  have F2 := fun_mk (st := s__law_draw) l2 c2 k2
  have m2 := PySem.W.mg_of X G a2
  obtain ⟨oc3, od3, kV3, dc3, pm3, an3, cd3, ct3, sl3, l3, c3, k3⟩ := u3
  have F3 := fun_mk (st := s__law_pick) l3 c3 k3
  have m3 := PySem.W.mg_of X G a3
  obtain ⟨oc4, od4, kV4, dc4, pm4, an4, cd4, ct4, sl4, l4, c4, k4⟩ := u4
  have F4 := fun_mk (st := s__law_odd) l4 c4 k4
  have m4 := PySem.W.mg_of X G a4
  obtain ⟨oc5, od5, kV5, dc5, pm5, an5, cd5, ct5, sl5, l5, c5, k5⟩ := u5
  have F5 := fun_mk (st := s__law_errors_a) l5 c5 k5
  have m5 := PySem.W.mg_of X G a5
  obtain ⟨oc6, od6, kV6, dc6, pm6, an6, cd6, ct6, sl6, l6, c6, k6⟩ := u6
  have F6 := fun_mk (st := s__law_errors_b) l6 c6 k6
  have m6 := PySem.W.mg_of X G a6
  obtain ⟨oc7, od7, kV7, dc7, pm7, an7, cd7, ct7, sl7, l7, c7, k7⟩ := u7
  have F7 := fun_mk (st := s__law_errors_c) l7 c7 k7
  have m7 := PySem.W.mg_of X G a7
  obtain ⟨oc8, od8, kV8, dc8, pm8, an8, cd8, ct8, sl8, l8, c8, k8⟩ := u8
  have F8 := fun_mk (st := s__law_flags) l8 c8 k8
  have m8 := PySem.W.mg_of X G a8
  obtain ⟨oc9, od9, kV9, dc9, pm9, an9, cd9, ct9, sl9, l9, c9, k9⟩ := u9
  have F9 := fun_mk (st := s__law_sorts) l9 c9 k9
  have m9 := PySem.W.mg_of X G a9
  obtain ⟨oc10, od10, kV10, dc10, pm10, an10, cd10, ct10, sl10, l10, c10, k10⟩ := u10
  have F10 := fun_mk (st := s_law) l10 c10 k10
  have m10 := PySem.W.mg_of X G a10
  refine ⟨PySem.W.fnOf "law" "law" (defArgs s_law) (defBody s_law) (defScope s_law) .none kV10 dc10 pm10 an10 cd10 ct10, fun s v => .of_eq rfl, fun base _ _ => ?_⟩
  have es : Es l.prog w K mg base (fun i => ((C0 :: C1 :: C2 :: C3 :: C4 :: C5 :: C6 :: C7 :: C8 :: C9 :: C10 :: C11 :: C12 :: C13 :: C14 :: C15 :: C16 :: C17 :: C18 :: C19 :: C20 :: C21 :: C22 :: C23 :: C24 :: C25 :: C26 :: C27 :: C28 :: C29 :: C30 :: C31 :: C32 :: C33 :: C34 :: C35 :: C36 :: C37 :: []) : List Addr).getD i 0) := ⟨mk_InvalidForm X G q0 p0 v0 n0_0, mk_InvalidDeclaration X G q1 p1 v1 n1_0, mk_InvalidPicks X G q2 x2, mk_Repeated X G q3 p3 v3 n3_0, mk_BadArms X G q4 p4 v4 n4_0, mk_Misshapen X G q5 p5 v5 n5_0, mk_RoleRing X G q6 p6 v6 n6_0, mk_BadMembers X G q7 p7 v7 n7_0, mk_Grows X G q8 p8 v8 n8_0 n8_1, mk_Uncovered X G q9 p9 v9 n9_0, mk_Underivable X G q10 p10 v10 n10_0 n10_1, mk_Clash X G q11 p11 v11 n11_0 n11_1, mk_Unsupported X G q12 p12 v12 n12_0 n12_1, mk_Improper X G q13 p13 v13 n13_0, mk_InvalidKind X G q14 p14 v14 n14_0, mk_InvalidNeed X G q15 p15 v15 n15_0, mk_InvalidScheme X G q16 p16 v16 n16_0, mk_InvalidCount X G q17 p17 v17 n17_0, mk_InvalidValue X G q18 p18 v18 n18_0, mk_InvalidLimit X G q19 p19 v19 n19_0, mk_InvalidMarked X G q20 p20 v20 n20_0, mk_InvalidText X G q21 p21 v21 n21_0 n21_1, mk_InvalidDeed X G q22 p22 v22 n22_0, mk_InvalidGuard X G q23 p23 v23 n23_0, mk_NotClosed X G q24 p24 v24 n24_0, mk_Unknown X G q25 p25 v25 n25_0 n25_1, mk_UnknownName X G q26 p26 v26 n26_0, mk_OutOfTerm X G q27 p27 v27 n27_0, mk_NoPrimitive X G q28 p28 v28 n28_0, mk_NoDefinition X G q29 p29 v29 n29_0, mk_NoCore X G q30 p30 v30 n30_0, mk_Unmet X G q31 p31 v31 n31_0, mk_OutOfRange X G q32 p32 v32 n32_0, mk_Known X G q33 p33 v33 n33_0, mk_Missing X G q34 p34 v34 n34_0, mk_Faulty X G q35 p35 v35 n35_0, mk_Wrong X G q36 p36 v36 n36_0, mk_Broken X G q37 p37 v37 n37_0⟩
  have ij := inj_of inj
  have Dbegin := Fun.kn (P := l.prog) (w := w) (base := base) (k := 1) F1 m1 (ok_begin F1) (fun _ _ _ _ _ _ us hl => match us, hl with | [_], _ => rfl)
  have Ddraw := Fun.kn (P := l.prog) (w := w) (base := base) (k := 1) F2 m2 (ok_draw F2 B) (fun _ _ _ _ _ _ us hl => match us, hl with | [_, _], _ => rfl)
  have Dpick := Fun.kn (P := l.prog) (w := w) (base := base) (k := 2) F3 m3 (ok_pick F3 B Ddraw) (fun _ _ _ _ _ _ us hl => match us, hl with | [_, _], _ => rfl)
  have Dodd := Fun.kn (P := l.prog) (w := w) (base := base) (k := 3) F4 m4 (ok_odd F4 Dpick) (fun _ _ _ _ _ _ us hl => match us, hl with | [_], _ => rfl)
  have Dea := Fun.kn (P := l.prog) (w := w) (base := base) (k := 3) F5 m5 (ok_ea F5 es) (fun _ _ _ _ _ _ us hl => match us, hl with | [_, _], _ => rfl)
  have Deb := Fun.kn (P := l.prog) (w := w) (base := base) (k := 3) F6 m6 (ok_eb F6 es) (fun _ _ _ _ _ _ us hl => match us, hl with | [_, _], _ => rfl)
  have Dec := Fun.kn (P := l.prog) (w := w) (base := base) (k := 3) F7 m7 (ok_ec F7 es) (fun _ _ _ _ _ _ us hl => match us, hl with | [_, _], _ => rfl)
  have Dflags := Fun.kn (P := l.prog) (w := w) (base := base) (k := 1) F8 m8 (ok_flags F8 B9 es ij) (fun _ _ _ _ _ _ us hl => match us, hl with | [_], _ => rfl)
  have Dsorts := Fun.kn (P := l.prog) (w := w) (base := base) (k := 1) F9 m9 (ok_sorts F9 B B9 BE es) (fun _ _ _ _ _ _ us hl => match us, hl with | [_], _ => rfl)
  exact law_run F10 B BM Dbegin Dodd Dea Deb Dec Dflags Dsorts
end L3


set_option maxHeartbeats 4000000
namespace L3
open PySem L2
theorem walkX {l : PySem.W.OpenLaw} {n : Nat} {q : Program} {loose : List Str} {XP : (Str → Option Value) → Heap → Prop} {YP : World → Heap → Prop} {d : DefRec} {sp : PySem.W.Frag → List V → Hp → VK → Prop} {x : Str}
    (hn : l.most = some n) (hn2 : n ≤ sizeLine) (hdf : d.params.defaults = [])
    (F : ∀ (w : World) (mg : Str → Option Value) (fa : Addr) (h : Heap), YP w h → h.Ns mainGlobals mg → mg d.name = some (.ref fa) →
      ∃ (K : PySem.W.Frag) (fd : FuncData), K.In h ∧ (∀ (s : Shared) (u : Value), BindsTo s fd ⟨[u], []⟩ [(x, u)]) ∧ ∀ base : Heap, K.In base → base.Ns mainGlobals mg → LawRun l.prog w K mg base fa fd x (sp K))
    (want : ∀ (K : PySem.W.Frag) (H : Hp) (a : Addr) (ns : List Int), ns.length ≤ n → SqL K H a (ns.map V.int) → sp K [.ref a] H (fun v _ => v = .bl true)) : PySem.W.WalkO q loose XP YP l.row.toRowW d [] (fun f vs => PySem.call f vs) := by
  refine Att.attach_call hn hdf ?_
  intro w s0 s1 mg mb fa o pm cd doc a vs ns G Y ho hd hcd hmg hobj hints hlen hg
  obtain ⟨K, fd, KX, hb, run⟩ := F w mg fa _ Y G.T.g hmg
  exact law_callG KX G.T.g G.T.b G.T.builtins G.T.nolimit hg hobj hints (Nat.le_trans hlen hn2) run hb (fun H _ hS => want _ H a ns hlen hS)
theorem fn_of {K : PySem.W.Frag} {x q : Str} {st : Stmt} {f : Addr} (h : ∃ fd, FunD K x q (defArgs st) (defBody st) (defScope st) [] [] f fd) : HasFn K f x q st := by
  obtain ⟨fd, ⟨oc, od, dV, kV, doc, pm, an, cdv, ct, osl, e, lk, cc, d0, k0⟩, kp⟩ := h
  have dn : dV = .none := by
    rcases d0 with ⟨_, e⟩ | ⟨z, _⟩
    · exact e
    · exact absurd rfl z
  subst dn
  subst e
  exact ⟨oc, od, kV, doc, pm, an, cdv, ct, osl, lk, cc, kp⟩
/-! the facts of a class, as a question -/
def kcB (K : PySem.W.Frag) (x : Str) (bm : List Value) (C : Addr) : Bool :=
  He.eqO (PySem.W.nsIn K mainGlobals x) (some (some (.ref C))) && (PySem.W.keepIn K (.ref C) && (PySem.W.hasDictIn K C && (He.eqO (PySem.W.findIn K (.ref C) "__getattribute__") (some (some (.builtin "BaseException.__getattribute__"))) && (He.eqO (PySem.W.findIn K (.ref C) "__getattr__") (some none) &&
  (decide (PySem.W.subIn K (.ref C) (.type "BaseException") = some true) && (He.eqO (PySem.W.findIn K (.ref C) "__class__") (some (some (.builtin "object.__class__"))) && (He.eqO (PySem.W.specialIn K (.builtin "object.__class__") "__get__") (some (some (.builtin "getset_descriptor.__get__"))) &&
  (decide (PySem.W.takesIn K (.builtin "object.__class__") = some true) && (decide (PySem.W.mroIn K C (.type "object") = some true) && ((match PySem.W.clsIn K C with
    | some cd => decide (cd.mro = .ref C :: bm)
    | none => false) && decide (PySem.W.typeIn K (.ref C) = some (.type "type"))))))))))))
theorem kcB_ok {K : PySem.W.Frag} {x : Str} {bm : List Value} {C : Addr} (h : kcB K x bm C = true) : Kc K x bm C := by
  obtain ⟨h1, h⟩ := He.ba h
  obtain ⟨h2, h⟩ := He.ba h
  obtain ⟨h3, h⟩ := He.ba h
  obtain ⟨h4, h⟩ := He.ba h
  obtain ⟨h5, h⟩ := He.ba h
  obtain ⟨h6, h⟩ := He.ba h
  obtain ⟨h7, h⟩ := He.ba h
  obtain ⟨h8, h⟩ := He.ba h
  obtain ⟨h9, h⟩ := He.ba h
  obtain ⟨h10, h⟩ := He.ba h
  obtain ⟨h11, h12⟩ := He.ba h
  refine ⟨He.eqO_ok h1, h2, h3, He.eqO_ok h4, He.eqO_ok h5, of_decide_eq_true h6, He.eqO_ok h7, He.eqO_ok h8, of_decide_eq_true h9, of_decide_eq_true h10, ?_, of_decide_eq_true h12⟩
  cases e : PySem.W.clsIn K C with
  | none =>
    rw [e] at h11
    cases h11
  | some cd =>
    rw [e] at h11
    exact ⟨cd, rfl, of_decide_eq_true h11⟩
def kiB (K : PySem.W.Frag) (C : Addr) (bm : List Value) (nw : String) (fI : Addr) : Bool :=
  PySem.W.excInitIn K C bm nw && (PySem.W.excOver K C bm && (He.eqO (PySem.W.findIn K (.ref C) "__setattr__") (some (some (.builtin "object.__setattr__"))) && (He.eqO (PySem.W.findIn K (.ref C) "__init__") (some (some (.ref fI))) && decide (PySem.W.typeIn K (.ref fI) = some (.type "function")))))
theorem kiB_ok {K : PySem.W.Frag} {bm : List Value} {nw : String} {C fI : Addr} (h : kiB K C bm nw fI = true) : Ki K C bm nw fI := by
  obtain ⟨h1, h⟩ := He.ba h
  obtain ⟨h2, h⟩ := He.ba h
  obtain ⟨h3, h⟩ := He.ba h
  obtain ⟨h4, h5⟩ := He.ba h
  exact ⟨h1, h2, He.eqO_ok h3, He.eqO_ok h4, of_decide_eq_true h5⟩
def rising : List Addr → Bool
  | a :: b :: r => decide (a < b) && rising (b :: r)
  | _ => true
theorem rising_ok : ∀ {L : List Addr} {i j : Nat}, rising L = true → i < j → j < L.length → L.getD i 0 < L.getD j 0
  | [], _, _, _, _, h => by simp at h
  | [_], i, j, _, h1, h2 => by simp at h2; omega
  | a :: b :: r, i, j, h, hij, hj => by
    obtain ⟨h1, h2⟩ := He.ba h
    have lt := of_decide_eq_true h1
    match i, j, hij, hj with
    | 0, 1, _, _ => exact lt
    | 0, j + 2, _, hj => exact Nat.lt_trans lt (rising_ok (i := 0) (j := j + 1) h2 (by omega) (by simpa using hj))
    | i + 1, j + 1, hij, hj => exact rising_ok (i := i) (j := j) h2 (by omega) (by simpa using hj)
theorem inj_rising {L : List Addr} (h : rising L = true) (n : L.length = 38) : ((List.range 38).all fun i => (List.range 38).all fun j => decide (i = j) || !decide (L.getD i 0 = L.getD j 0)) = true := by
  refine List.all_eq_true.mpr fun i hi => List.all_eq_true.mpr fun j hj => ?_
  have hi := List.mem_range.mp hi
  have hj := List.mem_range.mp hj
  by_cases e : i = j
  · rw [decide_eq_true e]
    rfl
  · rw [decide_eq_false e, decide_eq_false (fun z => by
      rcases Nat.lt_or_gt_of_ne e with q | q
      · exact absurd z (Nat.ne_of_lt (rising_ok h q (by omega)))
      · exact absurd z (Nat.ne_of_gt (rising_ok h q (by omega))))]
    rfl
def cls0 (K : PySem.W.Frag) (x : Str) (bm : List Value) (nw : String) : Bool := kcB K x bm (He.ga K x) && PySem.W.excIn K (He.ga K x) bm nw
def cls1 (K : PySem.W.Frag) (x : Str) (bm : List Value) (nw : String) (f : Str) : Bool := kcB K x bm (He.ga K x) && (kiB K (He.ga K x) bm nw (He.fAd K (x, some "__init__")) && He.eqO (PySem.W.findIn K (.ref (He.ga K x)) f) (some none))
def cls2 (K : PySem.W.Frag) (x : Str) (bm : List Value) (nw : String) (f g : Str) : Bool := kcB K x bm (He.ga K x) && (kiB K (He.ga K x) bm nw (He.fAd K (x, some "__init__")) && (He.eqO (PySem.W.findIn K (.ref (He.ga K x)) f) (some none) && He.eqO (PySem.W.findIn K (.ref (He.ga K x)) g) (some none)))
def csE (K : PySem.W.Frag) : List Addr := (He.ga K "InvalidForm" :: He.ga K "InvalidDeclaration" :: He.ga K "InvalidPicks" :: He.ga K "Repeated" :: He.ga K "BadArms" :: He.ga K "Misshapen" :: He.ga K "RoleRing" :: He.ga K "BadMembers" :: He.ga K "Grows" :: He.ga K "Uncovered" :: He.ga K "Underivable" :: He.ga K "Clash" :: He.ga K "Unsupported" :: He.ga K "Improper" :: He.ga K "InvalidKind" :: He.ga K "InvalidNeed" :: He.ga K "InvalidScheme" :: He.ga K "InvalidCount" :: He.ga K "InvalidValue" :: He.ga K "InvalidLimit" :: He.ga K "InvalidMarked" :: He.ga K "InvalidText" :: He.ga K "InvalidDeed" :: He.ga K "InvalidGuard" :: He.ga K "NotClosed" :: He.ga K "Unknown" :: He.ga K "UnknownName" :: He.ga K "OutOfTerm" :: He.ga K "NoPrimitive" :: He.ga K "NoDefinition" :: He.ga K "NoCore" :: He.ga K "Unmet" :: He.ga K "OutOfRange" :: He.ga K "Known" :: He.ga K "Missing" :: He.ga K "Faulty" :: He.ga K "Wrong" :: He.ga K "Broken" :: [])
def e0 (K : PySem.W.Frag) : Bool := cls1 K "InvalidForm" mroV "ValueError.__new__" "word"
def e1 (K : PySem.W.Frag) : Bool := cls1 K "InvalidDeclaration" mroV "ValueError.__new__" "index"
def e2 (K : PySem.W.Frag) : Bool := cls0 K "InvalidPicks" mroV "ValueError.__new__" 
def e3 (K : PySem.W.Frag) : Bool := cls1 K "Repeated" mroV "ValueError.__new__" "index"
def e4 (K : PySem.W.Frag) : Bool := cls1 K "BadArms" mroV "ValueError.__new__" "index"
def e5 (K : PySem.W.Frag) : Bool := cls1 K "Misshapen" mroV "ValueError.__new__" "index"
def e6 (K : PySem.W.Frag) : Bool := cls1 K "RoleRing" mroV "ValueError.__new__" "index"
def e7 (K : PySem.W.Frag) : Bool := cls1 K "BadMembers" mroV "ValueError.__new__" "index"
def e8 (K : PySem.W.Frag) : Bool := cls2 K "Grows" mroV "ValueError.__new__" "index" "need"
def e9 (K : PySem.W.Frag) : Bool := cls1 K "Uncovered" mroV "ValueError.__new__" "index"
def e10 (K : PySem.W.Frag) : Bool := cls2 K "Underivable" mroV "ValueError.__new__" "word" "need"
def e11 (K : PySem.W.Frag) : Bool := cls2 K "Clash" mroV "ValueError.__new__" "index" "other"
def e12 (K : PySem.W.Frag) : Bool := cls2 K "Unsupported" mroV "ValueError.__new__" "index" "number"
def e13 (K : PySem.W.Frag) : Bool := cls1 K "Improper" mroV "ValueError.__new__" "index"
def e14 (K : PySem.W.Frag) : Bool := cls1 K "InvalidKind" mroV "ValueError.__new__" "value"
def e15 (K : PySem.W.Frag) : Bool := cls1 K "InvalidNeed" mroV "ValueError.__new__" "value"
def e16 (K : PySem.W.Frag) : Bool := cls1 K "InvalidScheme" mroV "ValueError.__new__" "value"
def e17 (K : PySem.W.Frag) : Bool := cls1 K "InvalidCount" mroV "ValueError.__new__" "number"
def e18 (K : PySem.W.Frag) : Bool := cls1 K "InvalidValue" mroV "ValueError.__new__" "index"
def e19 (K : PySem.W.Frag) : Bool := cls1 K "InvalidLimit" mroV "ValueError.__new__" "limit"
def e20 (K : PySem.W.Frag) : Bool := cls1 K "InvalidMarked" mroV "ValueError.__new__" "index"
def e21 (K : PySem.W.Frag) : Bool := cls2 K "InvalidText" mroV "ValueError.__new__" "line" "piece"
def e22 (K : PySem.W.Frag) : Bool := cls1 K "InvalidDeed" mroV "ValueError.__new__" "index"
def e23 (K : PySem.W.Frag) : Bool := cls1 K "InvalidGuard" mroV "ValueError.__new__" "index"
def e24 (K : PySem.W.Frag) : Bool := cls1 K "NotClosed" mroV "ValueError.__new__" "word"
def e25 (K : PySem.W.Frag) : Bool := cls2 K "Unknown" mroL "LookupError.__new__" "index" "word"
def e26 (K : PySem.W.Frag) : Bool := cls1 K "UnknownName" mroL "LookupError.__new__" "value"
def e27 (K : PySem.W.Frag) : Bool := cls1 K "OutOfTerm" mroL "LookupError.__new__" "place"
def e28 (K : PySem.W.Frag) : Bool := cls1 K "NoPrimitive" mroL "LookupError.__new__" "word"
def e29 (K : PySem.W.Frag) : Bool := cls1 K "NoDefinition" mroL "LookupError.__new__" "word"
def e30 (K : PySem.W.Frag) : Bool := cls1 K "NoCore" mroL "LookupError.__new__" "where"
def e31 (K : PySem.W.Frag) : Bool := cls1 K "Unmet" mroL "LookupError.__new__" "need"
def e32 (K : PySem.W.Frag) : Bool := cls1 K "OutOfRange" mroL "LookupError.__new__" "value"
def e33 (K : PySem.W.Frag) : Bool := cls1 K "Known" mroL "LookupError.__new__" "index"
def e34 (K : PySem.W.Frag) : Bool := cls1 K "Missing" mroL "LookupError.__new__" "index"
def e35 (K : PySem.W.Frag) : Bool := cls1 K "Faulty" mroR "RuntimeError.__new__" "where"
def e36 (K : PySem.W.Frag) : Bool := cls1 K "Wrong" mroR "RuntimeError.__new__" "found"
def e37 (K : PySem.W.Frag) : Bool := cls1 K "Broken" mroR "RuntimeError.__new__" "index"
def eg0 (K : PySem.W.Frag) : Bool := e0 K && (e1 K && (e2 K && (e3 K && (e4 K && (e5 K && (e6 K && (e7 K && (e8 K && (e9 K)))))))))
def eg1 (K : PySem.W.Frag) : Bool := e10 K && (e11 K && (e12 K && (e13 K && (e14 K && (e15 K && (e16 K && (e17 K && (e18 K && (e19 K)))))))))
def eg2 (K : PySem.W.Frag) : Bool := e20 K && (e21 K && (e22 K && (e23 K && (e24 K && (e25 K && (e26 K && (e27 K && (e28 K && (e29 K)))))))))
def eg3 (K : PySem.W.Frag) : Bool := e30 K && (e31 K && (e32 K && (e33 K && (e34 K && (e35 K && (e36 K && (e37 K)))))))
def exE (K : PySem.W.Frag) : Bool := rising (csE K) && (eg0 K && (eg1 K && (eg2 K && (eg3 K))))
def fn0 : List He.DefD := [⟨("_law_begin", none), "_law_begin", "_law_begin", defArgs s__law_begin, defBody s__law_begin, defScope s__law_begin, [], []⟩,
  ⟨("_law_draw", none), "_law_draw", "_law_draw", defArgs s__law_draw, defBody s__law_draw, defScope s__law_draw, [], []⟩,
  ⟨("_law_pick", none), "_law_pick", "_law_pick", defArgs s__law_pick, defBody s__law_pick, defScope s__law_pick, [], []⟩,
  ⟨("_law_odd", none), "_law_odd", "_law_odd", defArgs s__law_odd, defBody s__law_odd, defScope s__law_odd, [], []⟩,
  ⟨("_law_errors_a", none), "_law_errors_a", "_law_errors_a", defArgs s__law_errors_a, defBody s__law_errors_a, defScope s__law_errors_a, [], []⟩,
  ⟨("_law_errors_b", none), "_law_errors_b", "_law_errors_b", defArgs s__law_errors_b, defBody s__law_errors_b, defScope s__law_errors_b, [], []⟩,
  ⟨("_law_errors_c", none), "_law_errors_c", "_law_errors_c", defArgs s__law_errors_c, defBody s__law_errors_c, defScope s__law_errors_c, [], []⟩,
  ⟨("_law_flags", none), "_law_flags", "_law_flags", defArgs s__law_flags, defBody s__law_flags, defScope s__law_flags, [], []⟩,
  ⟨("_law_sorts", none), "_law_sorts", "_law_sorts", defArgs s__law_sorts, defBody s__law_sorts, defScope s__law_sorts, [], []⟩,
  ⟨("law", none), "law", "law", defArgs s_law, defBody s_law, defScope s_law, [], []⟩,
  ⟨("InvalidForm", some "__init__"), "__init__", "InvalidForm.__init__", defArgs s_InvalidForm___init__, defBody s_InvalidForm___init__, defScope s_InvalidForm___init__, [], []⟩,
  ⟨("InvalidDeclaration", some "__init__"), "__init__", "InvalidDeclaration.__init__", defArgs s_InvalidDeclaration___init__, defBody s_InvalidDeclaration___init__, defScope s_InvalidDeclaration___init__, [], []⟩]
def fn1 : List He.DefD := [⟨("Repeated", some "__init__"), "__init__", "Repeated.__init__", defArgs s_Repeated___init__, defBody s_Repeated___init__, defScope s_Repeated___init__, [], []⟩,
  ⟨("BadArms", some "__init__"), "__init__", "BadArms.__init__", defArgs s_BadArms___init__, defBody s_BadArms___init__, defScope s_BadArms___init__, [], []⟩,
  ⟨("Misshapen", some "__init__"), "__init__", "Misshapen.__init__", defArgs s_Misshapen___init__, defBody s_Misshapen___init__, defScope s_Misshapen___init__, [], []⟩,
  ⟨("RoleRing", some "__init__"), "__init__", "RoleRing.__init__", defArgs s_RoleRing___init__, defBody s_RoleRing___init__, defScope s_RoleRing___init__, [], []⟩,
  ⟨("BadMembers", some "__init__"), "__init__", "BadMembers.__init__", defArgs s_BadMembers___init__, defBody s_BadMembers___init__, defScope s_BadMembers___init__, [], []⟩,
  ⟨("Grows", some "__init__"), "__init__", "Grows.__init__", defArgs s_Grows___init__, defBody s_Grows___init__, defScope s_Grows___init__, [], []⟩,
  ⟨("Uncovered", some "__init__"), "__init__", "Uncovered.__init__", defArgs s_Uncovered___init__, defBody s_Uncovered___init__, defScope s_Uncovered___init__, [], []⟩,
  ⟨("Underivable", some "__init__"), "__init__", "Underivable.__init__", defArgs s_Underivable___init__, defBody s_Underivable___init__, defScope s_Underivable___init__, [], []⟩,
  ⟨("Clash", some "__init__"), "__init__", "Clash.__init__", defArgs s_Clash___init__, defBody s_Clash___init__, defScope s_Clash___init__, [], []⟩,
  ⟨("Unsupported", some "__init__"), "__init__", "Unsupported.__init__", defArgs s_Unsupported___init__, defBody s_Unsupported___init__, defScope s_Unsupported___init__, [], []⟩,
  ⟨("Improper", some "__init__"), "__init__", "Improper.__init__", defArgs s_Improper___init__, defBody s_Improper___init__, defScope s_Improper___init__, [], []⟩,
  ⟨("InvalidKind", some "__init__"), "__init__", "InvalidKind.__init__", defArgs s_InvalidKind___init__, defBody s_InvalidKind___init__, defScope s_InvalidKind___init__, [], []⟩]
def fn2 : List He.DefD := [⟨("InvalidNeed", some "__init__"), "__init__", "InvalidNeed.__init__", defArgs s_InvalidNeed___init__, defBody s_InvalidNeed___init__, defScope s_InvalidNeed___init__, [], []⟩,
  ⟨("InvalidScheme", some "__init__"), "__init__", "InvalidScheme.__init__", defArgs s_InvalidScheme___init__, defBody s_InvalidScheme___init__, defScope s_InvalidScheme___init__, [], []⟩,
  ⟨("InvalidCount", some "__init__"), "__init__", "InvalidCount.__init__", defArgs s_InvalidCount___init__, defBody s_InvalidCount___init__, defScope s_InvalidCount___init__, [], []⟩,
  ⟨("InvalidValue", some "__init__"), "__init__", "InvalidValue.__init__", defArgs s_InvalidValue___init__, defBody s_InvalidValue___init__, defScope s_InvalidValue___init__, [], []⟩,
  ⟨("InvalidLimit", some "__init__"), "__init__", "InvalidLimit.__init__", defArgs s_InvalidLimit___init__, defBody s_InvalidLimit___init__, defScope s_InvalidLimit___init__, [], []⟩,
  ⟨("InvalidMarked", some "__init__"), "__init__", "InvalidMarked.__init__", defArgs s_InvalidMarked___init__, defBody s_InvalidMarked___init__, defScope s_InvalidMarked___init__, [], []⟩,
  ⟨("InvalidText", some "__init__"), "__init__", "InvalidText.__init__", defArgs s_InvalidText___init__, defBody s_InvalidText___init__, defScope s_InvalidText___init__, [], []⟩,
  ⟨("InvalidDeed", some "__init__"), "__init__", "InvalidDeed.__init__", defArgs s_InvalidDeed___init__, defBody s_InvalidDeed___init__, defScope s_InvalidDeed___init__, [], []⟩,
  ⟨("InvalidGuard", some "__init__"), "__init__", "InvalidGuard.__init__", defArgs s_InvalidGuard___init__, defBody s_InvalidGuard___init__, defScope s_InvalidGuard___init__, [], []⟩,
  ⟨("NotClosed", some "__init__"), "__init__", "NotClosed.__init__", defArgs s_NotClosed___init__, defBody s_NotClosed___init__, defScope s_NotClosed___init__, [], []⟩,
  ⟨("Unknown", some "__init__"), "__init__", "Unknown.__init__", defArgs s_Unknown___init__, defBody s_Unknown___init__, defScope s_Unknown___init__, [], []⟩,
  ⟨("UnknownName", some "__init__"), "__init__", "UnknownName.__init__", defArgs s_UnknownName___init__, defBody s_UnknownName___init__, defScope s_UnknownName___init__, [], []⟩]
def fn3 : List He.DefD := [⟨("OutOfTerm", some "__init__"), "__init__", "OutOfTerm.__init__", defArgs s_OutOfTerm___init__, defBody s_OutOfTerm___init__, defScope s_OutOfTerm___init__, [], []⟩,
  ⟨("NoPrimitive", some "__init__"), "__init__", "NoPrimitive.__init__", defArgs s_NoPrimitive___init__, defBody s_NoPrimitive___init__, defScope s_NoPrimitive___init__, [], []⟩,
  ⟨("NoDefinition", some "__init__"), "__init__", "NoDefinition.__init__", defArgs s_NoDefinition___init__, defBody s_NoDefinition___init__, defScope s_NoDefinition___init__, [], []⟩,
  ⟨("NoCore", some "__init__"), "__init__", "NoCore.__init__", defArgs s_NoCore___init__, defBody s_NoCore___init__, defScope s_NoCore___init__, [], []⟩,
  ⟨("Unmet", some "__init__"), "__init__", "Unmet.__init__", defArgs s_Unmet___init__, defBody s_Unmet___init__, defScope s_Unmet___init__, [], []⟩,
  ⟨("OutOfRange", some "__init__"), "__init__", "OutOfRange.__init__", defArgs s_OutOfRange___init__, defBody s_OutOfRange___init__, defScope s_OutOfRange___init__, [], []⟩,
  ⟨("Known", some "__init__"), "__init__", "Known.__init__", defArgs s_Known___init__, defBody s_Known___init__, defScope s_Known___init__, [], []⟩,
  ⟨("Missing", some "__init__"), "__init__", "Missing.__init__", defArgs s_Missing___init__, defBody s_Missing___init__, defScope s_Missing___init__, [], []⟩,
  ⟨("Faulty", some "__init__"), "__init__", "Faulty.__init__", defArgs s_Faulty___init__, defBody s_Faulty___init__, defScope s_Faulty___init__, [], []⟩,
  ⟨("Wrong", some "__init__"), "__init__", "Wrong.__init__", defArgs s_Wrong___init__, defBody s_Wrong___init__, defScope s_Wrong___init__, [], []⟩,
  ⟨("Broken", some "__init__"), "__init__", "Broken.__init__", defArgs s_Broken___init__, defBody s_Broken___init__, defScope s_Broken___init__, [], []⟩]
def fnL : List He.DefD := fn0 ++ fn1 ++ fn2 ++ fn3
def faL : List He.Fa := [.glo "_law_begin", .glo "_law_draw", .glo "_law_pick", .glo "_law_odd", .glo "_law_errors_a", .glo "_law_errors_b", .glo "_law_errors_c", .glo "_law_flags", .glo "_law_sorts", .glo "law"] ++ [.free "len", .free "int", .free "list", .free "tuple", .free "dict", .free "repr", .free "range", .free "zip", .free "sorted", .free "isinstance", .free "all", .free "str", .free "tuple", .free "bool", .free "int", .free "ord", .free "abs", .free "max", .free "ValueError", .free "LookupError", .free "RuntimeError", .free "min"]
def nm0 : List Str := ["InvalidForm", "InvalidDeclaration", "InvalidPicks", "Repeated", "BadArms", "Misshapen", "RoleRing", "BadMembers", "Grows", "Uncovered", "Underivable", "Clash", "Unsupported", "Improper", "InvalidKind", "InvalidNeed", "InvalidScheme", "InvalidCount", "InvalidValue", "InvalidLimit"]
def nm1 : List Str := ["InvalidMarked", "InvalidText", "InvalidDeed", "InvalidGuard", "NotClosed", "Unknown", "UnknownName", "OutOfTerm", "NoPrimitive", "NoDefinition", "NoCore", "Unmet", "OutOfRange", "Known", "Missing", "Faulty", "Wrong", "Broken", "_law_begin", "_law_draw"]
def nm2 : List Str := ["_law_pick", "_law_odd", "_law_errors_a", "_law_errors_b", "_law_errors_c", "_law_flags", "_law_sorts"]
def nmL : List Str := nm0 ++ nm1 ++ nm2
abbrev RR : PySem.W.OpenRow := PySem.W.OpenLaw.row PySem.Challenge.rw_leastneeds_k01_errors
abbrev hk : PySem.W.Hook := He.hookX 5 faL fnL [] [] exE
def obK (s : PySem.W.SharedT) : He.AlX := He.obsX 5 faL fnL [] [] exE (HandSHeadRun.getT s)
theorem obK_eq (s : PySem.W.SharedT) : obK s = hk.obs s.abs := He.obsX_eq (HandSHeadRun.getT_eq s)
theorem run01 (w : World) : HandSHeadRun.RunEq RR (PySem.W.view RR.prog [49]) hk obK 12000 nmL w := by
  intro os
  kernel_rfl
end L3

namespace L3
open PySem L2
theorem facts01 {w : World} {h : Heap} {mg : Str → Option Value} {fa : Addr} (Y : hk.says w h) (G : h.Ns mainGlobals mg) (hfa : mg "law" = some (.ref fa)) :
    ∃ (K : PySem.W.Frag) (fd : FuncData), K.In h ∧ (∀ (s : Shared) (v : Value), BindsTo s fd ⟨[v], []⟩ [("_law_script", v)]) ∧ ∀ base : Heap, K.In base → base.Ns mainGlobals mg → LawRun PySem.Challenge.rw_leastneeds_k01_errors.prog w K mg base fa fd "_law_script" (spLaw K) := by
  obtain ⟨K, KX, c⟩ := Y
  have d := c.t.d
  have hr : exE K = true := c.more
  obtain ⟨hR, hr⟩ := He.ba hr
  obtain ⟨hG0, hr⟩ := He.ba hr
  obtain ⟨hG1, hr⟩ := He.ba hr
  obtain ⟨hG2, hr⟩ := He.ba hr
  have hG3 := hr
  obtain ⟨hE0, hG0⟩ := He.ba hG0
  obtain ⟨hE1, hG0⟩ := He.ba hG0
  obtain ⟨hE2, hG0⟩ := He.ba hG0
  obtain ⟨hE3, hG0⟩ := He.ba hG0
  obtain ⟨hE4, hG0⟩ := He.ba hG0
  obtain ⟨hE5, hG0⟩ := He.ba hG0
  obtain ⟨hE6, hG0⟩ := He.ba hG0
  obtain ⟨hE7, hG0⟩ := He.ba hG0
  obtain ⟨hE8, hG0⟩ := He.ba hG0
  have hE9 := hG0
  obtain ⟨hE10, hG1⟩ := He.ba hG1
  obtain ⟨hE11, hG1⟩ := He.ba hG1
  obtain ⟨hE12, hG1⟩ := He.ba hG1
  obtain ⟨hE13, hG1⟩ := He.ba hG1
  obtain ⟨hE14, hG1⟩ := He.ba hG1
  obtain ⟨hE15, hG1⟩ := He.ba hG1
  obtain ⟨hE16, hG1⟩ := He.ba hG1
  obtain ⟨hE17, hG1⟩ := He.ba hG1
  obtain ⟨hE18, hG1⟩ := He.ba hG1
  have hE19 := hG1
  obtain ⟨hE20, hG2⟩ := He.ba hG2
  obtain ⟨hE21, hG2⟩ := He.ba hG2
  obtain ⟨hE22, hG2⟩ := He.ba hG2
  obtain ⟨hE23, hG2⟩ := He.ba hG2
  obtain ⟨hE24, hG2⟩ := He.ba hG2
  obtain ⟨hE25, hG2⟩ := He.ba hG2
  obtain ⟨hE26, hG2⟩ := He.ba hG2
  obtain ⟨hE27, hG2⟩ := He.ba hG2
  obtain ⟨hE28, hG2⟩ := He.ba hG2
  have hE29 := hG2
  obtain ⟨hE30, hG3⟩ := He.ba hG3
  obtain ⟨hE31, hG3⟩ := He.ba hG3
  obtain ⟨hE32, hG3⟩ := He.ba hG3
  obtain ⟨hE33, hG3⟩ := He.ba hG3
  obtain ⟨hE34, hG3⟩ := He.ba hG3
  obtain ⟨hE35, hG3⟩ := He.ba hG3
  obtain ⟨hE36, hG3⟩ := He.ba hG3
  have hE37 := hG3
  obtain ⟨q0, hE0⟩ := He.ba hE0
  obtain ⟨p0, hE0⟩ := He.ba hE0
  obtain ⟨q1, hE1⟩ := He.ba hE1
  obtain ⟨p1, hE1⟩ := He.ba hE1
  obtain ⟨q2, hE2⟩ := He.ba hE2
  obtain ⟨q3, hE3⟩ := He.ba hE3
  obtain ⟨p3, hE3⟩ := He.ba hE3
  obtain ⟨q4, hE4⟩ := He.ba hE4
  obtain ⟨p4, hE4⟩ := He.ba hE4
  obtain ⟨q5, hE5⟩ := He.ba hE5
  obtain ⟨p5, hE5⟩ := He.ba hE5
  obtain ⟨q6, hE6⟩ := He.ba hE6
  obtain ⟨p6, hE6⟩ := He.ba hE6
  obtain ⟨q7, hE7⟩ := He.ba hE7
  obtain ⟨p7, hE7⟩ := He.ba hE7
  obtain ⟨q8, hE8⟩ := He.ba hE8
  obtain ⟨p8, hE8⟩ := He.ba hE8
  obtain ⟨n8, hE8⟩ := He.ba hE8
  obtain ⟨q9, hE9⟩ := He.ba hE9
  obtain ⟨p9, hE9⟩ := He.ba hE9
  obtain ⟨q10, hE10⟩ := He.ba hE10
  obtain ⟨p10, hE10⟩ := He.ba hE10
  obtain ⟨n10, hE10⟩ := He.ba hE10
  obtain ⟨q11, hE11⟩ := He.ba hE11
  obtain ⟨p11, hE11⟩ := He.ba hE11
  obtain ⟨n11, hE11⟩ := He.ba hE11
  obtain ⟨q12, hE12⟩ := He.ba hE12
  obtain ⟨p12, hE12⟩ := He.ba hE12
  obtain ⟨n12, hE12⟩ := He.ba hE12
  obtain ⟨q13, hE13⟩ := He.ba hE13
  obtain ⟨p13, hE13⟩ := He.ba hE13
  obtain ⟨q14, hE14⟩ := He.ba hE14
  obtain ⟨p14, hE14⟩ := He.ba hE14
  obtain ⟨q15, hE15⟩ := He.ba hE15
  obtain ⟨p15, hE15⟩ := He.ba hE15
  obtain ⟨q16, hE16⟩ := He.ba hE16
  obtain ⟨p16, hE16⟩ := He.ba hE16
  obtain ⟨q17, hE17⟩ := He.ba hE17
  obtain ⟨p17, hE17⟩ := He.ba hE17
  obtain ⟨q18, hE18⟩ := He.ba hE18
  obtain ⟨p18, hE18⟩ := He.ba hE18
  obtain ⟨q19, hE19⟩ := He.ba hE19
  obtain ⟨p19, hE19⟩ := He.ba hE19
  obtain ⟨q20, hE20⟩ := He.ba hE20
  obtain ⟨p20, hE20⟩ := He.ba hE20
  obtain ⟨q21, hE21⟩ := He.ba hE21
  obtain ⟨p21, hE21⟩ := He.ba hE21
  obtain ⟨n21, hE21⟩ := He.ba hE21
  obtain ⟨q22, hE22⟩ := He.ba hE22
  obtain ⟨p22, hE22⟩ := He.ba hE22
  obtain ⟨q23, hE23⟩ := He.ba hE23
  obtain ⟨p23, hE23⟩ := He.ba hE23
  obtain ⟨q24, hE24⟩ := He.ba hE24
  obtain ⟨p24, hE24⟩ := He.ba hE24
  obtain ⟨q25, hE25⟩ := He.ba hE25
  obtain ⟨p25, hE25⟩ := He.ba hE25
  obtain ⟨n25, hE25⟩ := He.ba hE25
  obtain ⟨q26, hE26⟩ := He.ba hE26
  obtain ⟨p26, hE26⟩ := He.ba hE26
  obtain ⟨q27, hE27⟩ := He.ba hE27
  obtain ⟨p27, hE27⟩ := He.ba hE27
  obtain ⟨q28, hE28⟩ := He.ba hE28
  obtain ⟨p28, hE28⟩ := He.ba hE28
  obtain ⟨q29, hE29⟩ := He.ba hE29
  obtain ⟨p29, hE29⟩ := He.ba hE29
  obtain ⟨q30, hE30⟩ := He.ba hE30
  obtain ⟨p30, hE30⟩ := He.ba hE30
  obtain ⟨q31, hE31⟩ := He.ba hE31
  obtain ⟨p31, hE31⟩ := He.ba hE31
  obtain ⟨q32, hE32⟩ := He.ba hE32
  obtain ⟨p32, hE32⟩ := He.ba hE32
  obtain ⟨q33, hE33⟩ := He.ba hE33
  obtain ⟨p33, hE33⟩ := He.ba hE33
  obtain ⟨q34, hE34⟩ := He.ba hE34
  obtain ⟨p34, hE34⟩ := He.ba hE34
  obtain ⟨q35, hE35⟩ := He.ba hE35
  obtain ⟨p35, hE35⟩ := He.ba hE35
  obtain ⟨q36, hE36⟩ := He.ba hE36
  obtain ⟨p36, hE36⟩ := He.ba hE36
  obtain ⟨q37, hE37⟩ := He.ba hE37
  obtain ⟨p37, hE37⟩ := He.ba hE37
  obtain ⟨fd, hb, run⟩ := all_mk (l := PySem.Challenge.rw_leastneeds_k01_errors) (w := w) KX G hfa
    (He.eqO_ok (d.fact 0 (f := .glo "_law_begin") rfl))
    (fn_of (x := "_law_begin") (q := "_law_begin") (st := s__law_begin) (f := He.ga K "_law_begin") (d.def_ 0 (d := ⟨("_law_begin", none), "_law_begin", "_law_begin", defArgs s__law_begin, defBody s__law_begin, defScope s__law_begin, [], []⟩) rfl))
    (He.eqO_ok (d.fact 1 (f := .glo "_law_draw") rfl))
    (fn_of (x := "_law_draw") (q := "_law_draw") (st := s__law_draw) (f := He.ga K "_law_draw") (d.def_ 1 (d := ⟨("_law_draw", none), "_law_draw", "_law_draw", defArgs s__law_draw, defBody s__law_draw, defScope s__law_draw, [], []⟩) rfl))
    (He.eqO_ok (d.fact 2 (f := .glo "_law_pick") rfl))
    (fn_of (x := "_law_pick") (q := "_law_pick") (st := s__law_pick) (f := He.ga K "_law_pick") (d.def_ 2 (d := ⟨("_law_pick", none), "_law_pick", "_law_pick", defArgs s__law_pick, defBody s__law_pick, defScope s__law_pick, [], []⟩) rfl))
    (He.eqO_ok (d.fact 3 (f := .glo "_law_odd") rfl))
    (fn_of (x := "_law_odd") (q := "_law_odd") (st := s__law_odd) (f := He.ga K "_law_odd") (d.def_ 3 (d := ⟨("_law_odd", none), "_law_odd", "_law_odd", defArgs s__law_odd, defBody s__law_odd, defScope s__law_odd, [], []⟩) rfl))
    (He.eqO_ok (d.fact 4 (f := .glo "_law_errors_a") rfl))
    (fn_of (x := "_law_errors_a") (q := "_law_errors_a") (st := s__law_errors_a) (f := He.ga K "_law_errors_a") (d.def_ 4 (d := ⟨("_law_errors_a", none), "_law_errors_a", "_law_errors_a", defArgs s__law_errors_a, defBody s__law_errors_a, defScope s__law_errors_a, [], []⟩) rfl))
    (He.eqO_ok (d.fact 5 (f := .glo "_law_errors_b") rfl))
    (fn_of (x := "_law_errors_b") (q := "_law_errors_b") (st := s__law_errors_b) (f := He.ga K "_law_errors_b") (d.def_ 5 (d := ⟨("_law_errors_b", none), "_law_errors_b", "_law_errors_b", defArgs s__law_errors_b, defBody s__law_errors_b, defScope s__law_errors_b, [], []⟩) rfl))
    (He.eqO_ok (d.fact 6 (f := .glo "_law_errors_c") rfl))
    (fn_of (x := "_law_errors_c") (q := "_law_errors_c") (st := s__law_errors_c) (f := He.ga K "_law_errors_c") (d.def_ 6 (d := ⟨("_law_errors_c", none), "_law_errors_c", "_law_errors_c", defArgs s__law_errors_c, defBody s__law_errors_c, defScope s__law_errors_c, [], []⟩) rfl))
    (He.eqO_ok (d.fact 7 (f := .glo "_law_flags") rfl))
    (fn_of (x := "_law_flags") (q := "_law_flags") (st := s__law_flags) (f := He.ga K "_law_flags") (d.def_ 7 (d := ⟨("_law_flags", none), "_law_flags", "_law_flags", defArgs s__law_flags, defBody s__law_flags, defScope s__law_flags, [], []⟩) rfl))
    (He.eqO_ok (d.fact 8 (f := .glo "_law_sorts") rfl))
    (fn_of (x := "_law_sorts") (q := "_law_sorts") (st := s__law_sorts) (f := He.ga K "_law_sorts") (d.def_ 8 (d := ⟨("_law_sorts", none), "_law_sorts", "_law_sorts", defArgs s__law_sorts, defBody s__law_sorts, defScope s__law_sorts, [], []⟩) rfl))
    (He.eqO_ok (d.fact 9 (f := .glo "law") rfl))
    (fn_of (x := "law") (q := "law") (st := s_law) (f := He.ga K "law") (d.def_ 9 (d := ⟨("law", none), "law", "law", defArgs s_law, defBody s_law, defScope s_law, [], []⟩) rfl))
    (He.eqO_ok (d.fact 10 (f := .free "len") rfl))
    (He.eqO_ok (d.fact 11 (f := .free "int") rfl))
    (He.eqO_ok (d.fact 12 (f := .free "list") rfl))
    (He.eqO_ok (d.fact 13 (f := .free "tuple") rfl))
    (He.eqO_ok (d.fact 14 (f := .free "dict") rfl))
    (He.eqO_ok (d.fact 15 (f := .free "repr") rfl))
    (He.eqO_ok (d.fact 16 (f := .free "range") rfl))
    (He.eqO_ok (d.fact 17 (f := .free "zip") rfl))
    (He.eqO_ok (d.fact 18 (f := .free "sorted") rfl))
    (He.eqO_ok (d.fact 19 (f := .free "isinstance") rfl))
    (He.eqO_ok (d.fact 20 (f := .free "all") rfl))
    (He.eqO_ok (d.fact 21 (f := .free "str") rfl))
    (He.eqO_ok (d.fact 22 (f := .free "tuple") rfl))
    (He.eqO_ok (d.fact 23 (f := .free "bool") rfl))
    (He.eqO_ok (d.fact 24 (f := .free "int") rfl))
    (He.eqO_ok (d.fact 25 (f := .free "ord") rfl))
    (He.eqO_ok (d.fact 26 (f := .free "abs") rfl))
    (He.eqO_ok (d.fact 27 (f := .free "max") rfl))
    (He.eqO_ok (d.fact 28 (f := .free "ValueError") rfl))
    (He.eqO_ok (d.fact 29 (f := .free "LookupError") rfl))
    (He.eqO_ok (d.fact 30 (f := .free "RuntimeError") rfl))
    (He.eqO_ok (d.fact 31 (f := .free "min") rfl))
    (kcB_ok q0)
    (kiB_ok p0)
    (fn_of (x := "__init__") (q := "InvalidForm.__init__") (st := s_InvalidForm___init__) (f := He.fAd K ("InvalidForm", some "__init__")) (d.def_ 10 (d := ⟨("InvalidForm", some "__init__"), "__init__", "InvalidForm.__init__", defArgs s_InvalidForm___init__, defBody s_InvalidForm___init__, defScope s_InvalidForm___init__, [], []⟩) rfl))
    (He.eqO_ok hE0)
    (kcB_ok q1)
    (kiB_ok p1)
    (fn_of (x := "__init__") (q := "InvalidDeclaration.__init__") (st := s_InvalidDeclaration___init__) (f := He.fAd K ("InvalidDeclaration", some "__init__")) (d.def_ 11 (d := ⟨("InvalidDeclaration", some "__init__"), "__init__", "InvalidDeclaration.__init__", defArgs s_InvalidDeclaration___init__, defBody s_InvalidDeclaration___init__, defScope s_InvalidDeclaration___init__, [], []⟩) rfl))
    (He.eqO_ok hE1)
    (kcB_ok q2)
    hE2
    (kcB_ok q3)
    (kiB_ok p3)
    (fn_of (x := "__init__") (q := "Repeated.__init__") (st := s_Repeated___init__) (f := He.fAd K ("Repeated", some "__init__")) (d.def_ 12 (d := ⟨("Repeated", some "__init__"), "__init__", "Repeated.__init__", defArgs s_Repeated___init__, defBody s_Repeated___init__, defScope s_Repeated___init__, [], []⟩) rfl))
    (He.eqO_ok hE3)
    (kcB_ok q4)
    (kiB_ok p4)
    (fn_of (x := "__init__") (q := "BadArms.__init__") (st := s_BadArms___init__) (f := He.fAd K ("BadArms", some "__init__")) (d.def_ 13 (d := ⟨("BadArms", some "__init__"), "__init__", "BadArms.__init__", defArgs s_BadArms___init__, defBody s_BadArms___init__, defScope s_BadArms___init__, [], []⟩) rfl))
    (He.eqO_ok hE4)
    (kcB_ok q5)
    (kiB_ok p5)
    (fn_of (x := "__init__") (q := "Misshapen.__init__") (st := s_Misshapen___init__) (f := He.fAd K ("Misshapen", some "__init__")) (d.def_ 14 (d := ⟨("Misshapen", some "__init__"), "__init__", "Misshapen.__init__", defArgs s_Misshapen___init__, defBody s_Misshapen___init__, defScope s_Misshapen___init__, [], []⟩) rfl))
    (He.eqO_ok hE5)
    (kcB_ok q6)
    (kiB_ok p6)
    (fn_of (x := "__init__") (q := "RoleRing.__init__") (st := s_RoleRing___init__) (f := He.fAd K ("RoleRing", some "__init__")) (d.def_ 15 (d := ⟨("RoleRing", some "__init__"), "__init__", "RoleRing.__init__", defArgs s_RoleRing___init__, defBody s_RoleRing___init__, defScope s_RoleRing___init__, [], []⟩) rfl))
    (He.eqO_ok hE6)
    (kcB_ok q7)
    (kiB_ok p7)
    (fn_of (x := "__init__") (q := "BadMembers.__init__") (st := s_BadMembers___init__) (f := He.fAd K ("BadMembers", some "__init__")) (d.def_ 16 (d := ⟨("BadMembers", some "__init__"), "__init__", "BadMembers.__init__", defArgs s_BadMembers___init__, defBody s_BadMembers___init__, defScope s_BadMembers___init__, [], []⟩) rfl))
    (He.eqO_ok hE7)
    (kcB_ok q8)
    (kiB_ok p8)
    (fn_of (x := "__init__") (q := "Grows.__init__") (st := s_Grows___init__) (f := He.fAd K ("Grows", some "__init__")) (d.def_ 17 (d := ⟨("Grows", some "__init__"), "__init__", "Grows.__init__", defArgs s_Grows___init__, defBody s_Grows___init__, defScope s_Grows___init__, [], []⟩) rfl))
    (He.eqO_ok n8)
    (He.eqO_ok hE8)
    (kcB_ok q9)
    (kiB_ok p9)
    (fn_of (x := "__init__") (q := "Uncovered.__init__") (st := s_Uncovered___init__) (f := He.fAd K ("Uncovered", some "__init__")) (d.def_ 18 (d := ⟨("Uncovered", some "__init__"), "__init__", "Uncovered.__init__", defArgs s_Uncovered___init__, defBody s_Uncovered___init__, defScope s_Uncovered___init__, [], []⟩) rfl))
    (He.eqO_ok hE9)
    (kcB_ok q10)
    (kiB_ok p10)
    (fn_of (x := "__init__") (q := "Underivable.__init__") (st := s_Underivable___init__) (f := He.fAd K ("Underivable", some "__init__")) (d.def_ 19 (d := ⟨("Underivable", some "__init__"), "__init__", "Underivable.__init__", defArgs s_Underivable___init__, defBody s_Underivable___init__, defScope s_Underivable___init__, [], []⟩) rfl))
    (He.eqO_ok n10)
    (He.eqO_ok hE10)
    (kcB_ok q11)
    (kiB_ok p11)
    (fn_of (x := "__init__") (q := "Clash.__init__") (st := s_Clash___init__) (f := He.fAd K ("Clash", some "__init__")) (d.def_ 20 (d := ⟨("Clash", some "__init__"), "__init__", "Clash.__init__", defArgs s_Clash___init__, defBody s_Clash___init__, defScope s_Clash___init__, [], []⟩) rfl))
    (He.eqO_ok n11)
    (He.eqO_ok hE11)
    (kcB_ok q12)
    (kiB_ok p12)
    (fn_of (x := "__init__") (q := "Unsupported.__init__") (st := s_Unsupported___init__) (f := He.fAd K ("Unsupported", some "__init__")) (d.def_ 21 (d := ⟨("Unsupported", some "__init__"), "__init__", "Unsupported.__init__", defArgs s_Unsupported___init__, defBody s_Unsupported___init__, defScope s_Unsupported___init__, [], []⟩) rfl))
    (He.eqO_ok n12)
    (He.eqO_ok hE12)
    (kcB_ok q13)
    (kiB_ok p13)
    (fn_of (x := "__init__") (q := "Improper.__init__") (st := s_Improper___init__) (f := He.fAd K ("Improper", some "__init__")) (d.def_ 22 (d := ⟨("Improper", some "__init__"), "__init__", "Improper.__init__", defArgs s_Improper___init__, defBody s_Improper___init__, defScope s_Improper___init__, [], []⟩) rfl))
    (He.eqO_ok hE13)
    (kcB_ok q14)
    (kiB_ok p14)
    (fn_of (x := "__init__") (q := "InvalidKind.__init__") (st := s_InvalidKind___init__) (f := He.fAd K ("InvalidKind", some "__init__")) (d.def_ 23 (d := ⟨("InvalidKind", some "__init__"), "__init__", "InvalidKind.__init__", defArgs s_InvalidKind___init__, defBody s_InvalidKind___init__, defScope s_InvalidKind___init__, [], []⟩) rfl))
    (He.eqO_ok hE14)
    (kcB_ok q15)
    (kiB_ok p15)
    (fn_of (x := "__init__") (q := "InvalidNeed.__init__") (st := s_InvalidNeed___init__) (f := He.fAd K ("InvalidNeed", some "__init__")) (d.def_ 24 (d := ⟨("InvalidNeed", some "__init__"), "__init__", "InvalidNeed.__init__", defArgs s_InvalidNeed___init__, defBody s_InvalidNeed___init__, defScope s_InvalidNeed___init__, [], []⟩) rfl))
    (He.eqO_ok hE15)
    (kcB_ok q16)
    (kiB_ok p16)
    (fn_of (x := "__init__") (q := "InvalidScheme.__init__") (st := s_InvalidScheme___init__) (f := He.fAd K ("InvalidScheme", some "__init__")) (d.def_ 25 (d := ⟨("InvalidScheme", some "__init__"), "__init__", "InvalidScheme.__init__", defArgs s_InvalidScheme___init__, defBody s_InvalidScheme___init__, defScope s_InvalidScheme___init__, [], []⟩) rfl))
    (He.eqO_ok hE16)
    (kcB_ok q17)
    (kiB_ok p17)
    (fn_of (x := "__init__") (q := "InvalidCount.__init__") (st := s_InvalidCount___init__) (f := He.fAd K ("InvalidCount", some "__init__")) (d.def_ 26 (d := ⟨("InvalidCount", some "__init__"), "__init__", "InvalidCount.__init__", defArgs s_InvalidCount___init__, defBody s_InvalidCount___init__, defScope s_InvalidCount___init__, [], []⟩) rfl))
    (He.eqO_ok hE17)
    (kcB_ok q18)
    (kiB_ok p18)
    (fn_of (x := "__init__") (q := "InvalidValue.__init__") (st := s_InvalidValue___init__) (f := He.fAd K ("InvalidValue", some "__init__")) (d.def_ 27 (d := ⟨("InvalidValue", some "__init__"), "__init__", "InvalidValue.__init__", defArgs s_InvalidValue___init__, defBody s_InvalidValue___init__, defScope s_InvalidValue___init__, [], []⟩) rfl))
    (He.eqO_ok hE18)
    (kcB_ok q19)
    (kiB_ok p19)
    (fn_of (x := "__init__") (q := "InvalidLimit.__init__") (st := s_InvalidLimit___init__) (f := He.fAd K ("InvalidLimit", some "__init__")) (d.def_ 28 (d := ⟨("InvalidLimit", some "__init__"), "__init__", "InvalidLimit.__init__", defArgs s_InvalidLimit___init__, defBody s_InvalidLimit___init__, defScope s_InvalidLimit___init__, [], []⟩) rfl))
    (He.eqO_ok hE19)
    (kcB_ok q20)
    (kiB_ok p20)
    (fn_of (x := "__init__") (q := "InvalidMarked.__init__") (st := s_InvalidMarked___init__) (f := He.fAd K ("InvalidMarked", some "__init__")) (d.def_ 29 (d := ⟨("InvalidMarked", some "__init__"), "__init__", "InvalidMarked.__init__", defArgs s_InvalidMarked___init__, defBody s_InvalidMarked___init__, defScope s_InvalidMarked___init__, [], []⟩) rfl))
    (He.eqO_ok hE20)
    (kcB_ok q21)
    (kiB_ok p21)
    (fn_of (x := "__init__") (q := "InvalidText.__init__") (st := s_InvalidText___init__) (f := He.fAd K ("InvalidText", some "__init__")) (d.def_ 30 (d := ⟨("InvalidText", some "__init__"), "__init__", "InvalidText.__init__", defArgs s_InvalidText___init__, defBody s_InvalidText___init__, defScope s_InvalidText___init__, [], []⟩) rfl))
    (He.eqO_ok n21)
    (He.eqO_ok hE21)
    (kcB_ok q22)
    (kiB_ok p22)
    (fn_of (x := "__init__") (q := "InvalidDeed.__init__") (st := s_InvalidDeed___init__) (f := He.fAd K ("InvalidDeed", some "__init__")) (d.def_ 31 (d := ⟨("InvalidDeed", some "__init__"), "__init__", "InvalidDeed.__init__", defArgs s_InvalidDeed___init__, defBody s_InvalidDeed___init__, defScope s_InvalidDeed___init__, [], []⟩) rfl))
    (He.eqO_ok hE22)
    (kcB_ok q23)
    (kiB_ok p23)
    (fn_of (x := "__init__") (q := "InvalidGuard.__init__") (st := s_InvalidGuard___init__) (f := He.fAd K ("InvalidGuard", some "__init__")) (d.def_ 32 (d := ⟨("InvalidGuard", some "__init__"), "__init__", "InvalidGuard.__init__", defArgs s_InvalidGuard___init__, defBody s_InvalidGuard___init__, defScope s_InvalidGuard___init__, [], []⟩) rfl))
    (He.eqO_ok hE23)
    (kcB_ok q24)
    (kiB_ok p24)
    (fn_of (x := "__init__") (q := "NotClosed.__init__") (st := s_NotClosed___init__) (f := He.fAd K ("NotClosed", some "__init__")) (d.def_ 33 (d := ⟨("NotClosed", some "__init__"), "__init__", "NotClosed.__init__", defArgs s_NotClosed___init__, defBody s_NotClosed___init__, defScope s_NotClosed___init__, [], []⟩) rfl))
    (He.eqO_ok hE24)
    (kcB_ok q25)
    (kiB_ok p25)
    (fn_of (x := "__init__") (q := "Unknown.__init__") (st := s_Unknown___init__) (f := He.fAd K ("Unknown", some "__init__")) (d.def_ 34 (d := ⟨("Unknown", some "__init__"), "__init__", "Unknown.__init__", defArgs s_Unknown___init__, defBody s_Unknown___init__, defScope s_Unknown___init__, [], []⟩) rfl))
    (He.eqO_ok n25)
    (He.eqO_ok hE25)
    (kcB_ok q26)
    (kiB_ok p26)
    (fn_of (x := "__init__") (q := "UnknownName.__init__") (st := s_UnknownName___init__) (f := He.fAd K ("UnknownName", some "__init__")) (d.def_ 35 (d := ⟨("UnknownName", some "__init__"), "__init__", "UnknownName.__init__", defArgs s_UnknownName___init__, defBody s_UnknownName___init__, defScope s_UnknownName___init__, [], []⟩) rfl))
    (He.eqO_ok hE26)
    (kcB_ok q27)
    (kiB_ok p27)
    (fn_of (x := "__init__") (q := "OutOfTerm.__init__") (st := s_OutOfTerm___init__) (f := He.fAd K ("OutOfTerm", some "__init__")) (d.def_ 36 (d := ⟨("OutOfTerm", some "__init__"), "__init__", "OutOfTerm.__init__", defArgs s_OutOfTerm___init__, defBody s_OutOfTerm___init__, defScope s_OutOfTerm___init__, [], []⟩) rfl))
    (He.eqO_ok hE27)
    (kcB_ok q28)
    (kiB_ok p28)
    (fn_of (x := "__init__") (q := "NoPrimitive.__init__") (st := s_NoPrimitive___init__) (f := He.fAd K ("NoPrimitive", some "__init__")) (d.def_ 37 (d := ⟨("NoPrimitive", some "__init__"), "__init__", "NoPrimitive.__init__", defArgs s_NoPrimitive___init__, defBody s_NoPrimitive___init__, defScope s_NoPrimitive___init__, [], []⟩) rfl))
    (He.eqO_ok hE28)
    (kcB_ok q29)
    (kiB_ok p29)
    (fn_of (x := "__init__") (q := "NoDefinition.__init__") (st := s_NoDefinition___init__) (f := He.fAd K ("NoDefinition", some "__init__")) (d.def_ 38 (d := ⟨("NoDefinition", some "__init__"), "__init__", "NoDefinition.__init__", defArgs s_NoDefinition___init__, defBody s_NoDefinition___init__, defScope s_NoDefinition___init__, [], []⟩) rfl))
    (He.eqO_ok hE29)
    (kcB_ok q30)
    (kiB_ok p30)
    (fn_of (x := "__init__") (q := "NoCore.__init__") (st := s_NoCore___init__) (f := He.fAd K ("NoCore", some "__init__")) (d.def_ 39 (d := ⟨("NoCore", some "__init__"), "__init__", "NoCore.__init__", defArgs s_NoCore___init__, defBody s_NoCore___init__, defScope s_NoCore___init__, [], []⟩) rfl))
    (He.eqO_ok hE30)
    (kcB_ok q31)
    (kiB_ok p31)
    (fn_of (x := "__init__") (q := "Unmet.__init__") (st := s_Unmet___init__) (f := He.fAd K ("Unmet", some "__init__")) (d.def_ 40 (d := ⟨("Unmet", some "__init__"), "__init__", "Unmet.__init__", defArgs s_Unmet___init__, defBody s_Unmet___init__, defScope s_Unmet___init__, [], []⟩) rfl))
    (He.eqO_ok hE31)
    (kcB_ok q32)
    (kiB_ok p32)
    (fn_of (x := "__init__") (q := "OutOfRange.__init__") (st := s_OutOfRange___init__) (f := He.fAd K ("OutOfRange", some "__init__")) (d.def_ 41 (d := ⟨("OutOfRange", some "__init__"), "__init__", "OutOfRange.__init__", defArgs s_OutOfRange___init__, defBody s_OutOfRange___init__, defScope s_OutOfRange___init__, [], []⟩) rfl))
    (He.eqO_ok hE32)
    (kcB_ok q33)
    (kiB_ok p33)
    (fn_of (x := "__init__") (q := "Known.__init__") (st := s_Known___init__) (f := He.fAd K ("Known", some "__init__")) (d.def_ 42 (d := ⟨("Known", some "__init__"), "__init__", "Known.__init__", defArgs s_Known___init__, defBody s_Known___init__, defScope s_Known___init__, [], []⟩) rfl))
    (He.eqO_ok hE33)
    (kcB_ok q34)
    (kiB_ok p34)
    (fn_of (x := "__init__") (q := "Missing.__init__") (st := s_Missing___init__) (f := He.fAd K ("Missing", some "__init__")) (d.def_ 43 (d := ⟨("Missing", some "__init__"), "__init__", "Missing.__init__", defArgs s_Missing___init__, defBody s_Missing___init__, defScope s_Missing___init__, [], []⟩) rfl))
    (He.eqO_ok hE34)
    (kcB_ok q35)
    (kiB_ok p35)
    (fn_of (x := "__init__") (q := "Faulty.__init__") (st := s_Faulty___init__) (f := He.fAd K ("Faulty", some "__init__")) (d.def_ 44 (d := ⟨("Faulty", some "__init__"), "__init__", "Faulty.__init__", defArgs s_Faulty___init__, defBody s_Faulty___init__, defScope s_Faulty___init__, [], []⟩) rfl))
    (He.eqO_ok hE35)
    (kcB_ok q36)
    (kiB_ok p36)
    (fn_of (x := "__init__") (q := "Wrong.__init__") (st := s_Wrong___init__) (f := He.fAd K ("Wrong", some "__init__")) (d.def_ 45 (d := ⟨("Wrong", some "__init__"), "__init__", "Wrong.__init__", defArgs s_Wrong___init__, defBody s_Wrong___init__, defScope s_Wrong___init__, [], []⟩) rfl))
    (He.eqO_ok hE36)
    (kcB_ok q37)
    (kiB_ok p37)
    (fn_of (x := "__init__") (q := "Broken.__init__") (st := s_Broken___init__) (f := He.fAd K ("Broken", some "__init__")) (d.def_ 46 (d := ⟨("Broken", some "__init__"), "__init__", "Broken.__init__", defArgs s_Broken___init__, defBody s_Broken___init__, defScope s_Broken___init__, [], []⟩) rfl))
    (He.eqO_ok hE37)
    (inj_rising (L := csE K) hR rfl)
  exact ⟨K, fd, KX, hb, run⟩
end L3
open PySem PySem.W PySem.Calls PyProof.Rows in
set_option maxRecDepth 100000 in
set_option maxHeartbeats 0 in
theorem PySem.Challenge.cw_leastneeds_k01_errors_holds : PySem.Challenge.rw_leastneeds_k01_errors.Holds := by
  w_on; o_law
  refine HandSHeadRun.head_any (r := OpenLaw.row PySem.Challenge.rw_leastneeds_k01_errors) (q := PySem.W.view L3.RR.prog [49]) (H := L3.hk) (ob := L3.obK) (M := 12000) (loose := L3.nmL) (d := HandSHeadRun.topDef L3.RR.prog 49) (kwd := []) L3.obK_eq
    (by kernel_rfl) (fun s => by kernel_rfl) L3.run01 (by kernel_rfl) (by kernel_rfl) (by kernel_rfl) (by rfl) (by first | assumption | decide +kernel) (by decide +kernel) ⟨rfl, rfl, rfl, rfl, rfl, by decide +kernel⟩ ?hw ?hc
  case hw => w_witness2
  case hc =>
    refine L3.walkX (l := PySem.Challenge.rw_leastneeds_k01_errors) (n := 63) (x := "_law_script") (sp := L3.spLaw) rfl (by decide) (by kernel_rfl) ?F (fun K H a ns _ hS => ⟨a, ns, rfl, hS, fun _ => rfl⟩)
    intro w mg fa h Y G hmg0
    have hmg : mg ("law" : PySem.Str) = some (.ref fa) := by
      have e : (HandSHeadRun.topDef L3.RR.prog 49).name = ("law" : PySem.Str) := by kernel_rfl
      rw [← e]
      exact hmg0
    exact L3.facts01 Y G hmg
