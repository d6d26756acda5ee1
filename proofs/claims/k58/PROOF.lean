import PyProof.Rows.All
import Wide.All
import OpenK.AllK
import Wide.FinOn
import HandS.ForMost
import HandS.Flow
import HandS.Small
import HandS.SetKeys
import HandS.Zip
import HandS.Style
import HandS.More
import HandS.Deep
import KE.KDictZip
import HandS.ListItems
import HandS.DictComp
import PyProof.ReprLen
import PyProof.StrLawsRepr
import HandS.Dict
import PyProof.EqKinds
import HandS.IsInst
import PyProof.CallFns
import PyProof.NeKinds
import HandS.StrMore
import HandS.HeadHook3
import PyProof.AutoSeq1
import HandS.Star
import HandS.TupMul
import PyProof.StrOps2
import HandS.TupAny
import PySem.Challenge.RW_leastneeds_k58_values_by_form
import HandS.Steps
import HandS.Walk
set_option Elab.async false
set_option linter.all false
set_option maxRecDepth 100000
set_option maxHeartbeats 4000000
namespace L3
open PySem L2
/-! ### a def that is known by its name -/
section
variable {P : Program} {w : World} {K : PySem.W.Frag} {mg : Str → Option Value} {base : Heap}
structure Kn (P : Program) (w : World) (K : PySem.W.Frag) (mg : Str → Option Value) (base : Heap) (k : Nat) (x : Str) (ps : List Str) (sp : Sp) : Prop where
  ex : ∃ (f : Addr) (fd : FuncData), FnOk P w K mg base CX0 k f fd ps sp ∧ mg x = some (.ref f) ∧ PySem.W.keepIn K (.ref f) = true ∧ Binds K fd ps []
end
section
variable {X : Cx} {x : Str} {k : Nat} {ps : List Str} {sp : Sp} {e : Expr} {es : List Expr} {t : TA} {p pos : Pos}
theorem pe_kn (D : Kn X.prog X.w X.K X.mg X.base k x ps sp) (hr : Room k X.A) (ha : PA X (e :: es) t) (hg : Gl X x := by rfl) (hdb : (x == ("__debug__" : Str)) = false := by decide)
    (he : starEach (e :: es) X.env = (false, eval e X.env) :: starEach es X.env := by rfl) (hpl : (backTo pos (starEach es X.env)).any (·.1) = false := by rfl) :
    PE X (.Call (.Name x p) (e :: es) [] pos) (tCall sp [] E0 t) := by
  obtain ⟨f, fd, F, hm, hk, hb⟩ := D.ex
  exact pe_call F hr hg hm hk hb .nil pass0 ha hdb he hpl
theorem pe_kn0 (D : Kn X.prog X.w X.K X.mg X.base k x ps sp) (hr : Room k X.A) (hg : Gl X x := by rfl) (hdb : (x == ("__debug__" : Str)) = false := by decide) :
    PE X (.Call (.Name x p) [] [] pos) (tCall sp [] E0 tNil) := by
  obtain ⟨f, fd, F, hm, hk, hb⟩ := D.ex
  exact pe_call0 F hr hg hm hk hb .nil pass0 hdb
end
/-- built-in names that the text leaves alone -/
structure Bl (mg : Str → Option Value) : Prop where
  len : mg "len" = none
  int : mg "int" = none
  list : mg "list" = none
  tuple : mg "tuple" = none
  dict : mg "dict" = none
  repr : mg "repr" = none
  range : mg "range" = none
  zip : mg "zip" = none
  sorted : mg "sorted" = none

/-! ### the tape -/
/-- all but the object at t is kept -/
def Ext (t : Addr) (H H' : Hp) : Prop := ∀ b o, b ≠ t → H b = some o → H' b = some o
theorem Ext.refl (t : Addr) (H : Hp) : Ext t H H := fun _ _ _ h => h
theorem Ext.trans {t : Addr} {H H1 H2 : Hp} (a : Ext t H H1) (b : Ext t H1 H2) : Ext t H H2 := fun c o n h => b c o n (a c o n h)
theorem Ext.new {t p : Addr} {H : Hp} {o : HO} (h : H p = none) : Ext t H (upd H p o) := fun b u _ e => by
  rw [upd_ne (ne_of_none e h)]
  exact e
theorem Ext.put {t : Addr} {H : Hp} {o : HO} : Ext t H (upd H t o) := fun b u n e => by
  rw [upd_ne n]
  exact e
theorem same_ext {t : Addr} {H H' : Hp} (h : Same H H') : Ext t H H' := fun b o _ e => h b o e
theorem same_new {p : Addr} {H : Hp} {o : HO} (h : H p = none) : Same H (upd H p o) := fun b u e => by
  rw [upd_ne (ne_of_none e h)]
  exact e
def tp (c : Addr) (p l : Int) : List (Key × V) := [(.inr "cells", .ref c), (.inr "place", .int p), (.inr "left", .int l)]
theorem tp_cells (c : Addr) (p l : Int) : valV (tp c p l) (.inr "cells") = some (.ref c) := by rfl
theorem tp_place (c : Addr) (p l : Int) : valV (tp c p l) (.inr "place") = some (.int p) := by rfl
theorem tp_left (c : Addr) (p l : Int) : valV (tp c p l) (.inr "left") = some (.int l) := by rfl
theorem tp_putP (c : Addr) (p l q : Int) : putK (tp c p l) (.inr "place") (.int q) = tp c q l := by rfl
theorem tp_putL (c : Addr) (p l q : Int) : putK (tp c p l) (.inr "left") (.int q) = tp c p q := by rfl
/-- at t a tape stands, its cells at c, from which b more cells may be taken -/
def Tape (K : PySem.W.Frag) (H : Hp) (t c : Addr) (b : Nat) : Prop :=
  ∃ (p l : Int) (ns : List Int), H t = some (.dK (tp c p l)) ∧ SqL K H c (ns.map V.int) ∧ c ≠ t ∧ 0 < ns.length ∧ ns.length ≤ 63 ∧ 0 ≤ p ∧ p + b ≤ 1000000 ∧ 0 ≤ l
theorem Tape.less {K : PySem.W.Frag} {H : Hp} {t c : Addr} {b b' : Nat} (h : Tape K H t c b) (hb : b' ≤ b) : Tape K H t c b' := by
  obtain ⟨p, l, ns, h1, h2, h3, h4, h5, h6, h7, h8⟩ := h
  exact ⟨p, l, ns, h1, h2, h3, h4, h5, h6, by omega, h8⟩
theorem SqL.same {K : PySem.W.Frag} {H H' : Hp} {a : Addr} {xs : List V} (h : SqL K H a xs) (k : ∀ o, H a = some o → H' a = some o) : SqL K H' a xs := by
  rcases h with (h | ⟨o, h⟩) | h
  · exact .inl (.inl (k _ h))
  · exact .inl (.inr ⟨o, k _ h⟩)
  · exact .inr h
theorem SqL.ext {K : PySem.W.Frag} {t : Addr} {H H' : Hp} {a : Addr} {xs : List V} (h : SqL K H a xs) (e : Ext t H H') (n : a ≠ t) : SqL K H' a xs := SqL.same h fun o q => e a o n q
/-- the tape is untouched -/
theorem Tape.same {K : PySem.W.Frag} {H H' : Hp} {t c : Addr} {b : Nat} (h : Tape K H t c b) (k : Same H H') : Tape K H' t c b := by
  obtain ⟨p, l, ns, h1, h2, h3, h4, h5, h6, h7, h8⟩ := h
  exact ⟨p, l, ns, k _ _ h1, k.seq h2, h3, h4, h5, h6, h7, h8⟩
theorem Tape.new {K : PySem.W.Frag} {H : Hp} {t c : Addr} {b : Nat} {q : Addr} {o : HO} (h : Tape K H t c b) (n : H q = none) : Tape K (upd H q o) t c b := h.same (same_new n)
theorem Tape.dict {K : PySem.W.Frag} {H : Hp} {t c : Addr} {b : Nat} (h : Tape K H t c b) : ∃ kvs, H t = some (.dK kvs) := by
  obtain ⟨p, l, ns, h1, _⟩ := h
  exact ⟨_, h1⟩
theorem Tape.ne {K : PySem.W.Frag} {H : Hp} {t c : Addr} {b : Nat} (h : Tape K H t c b) {l : Addr} (n : H l = none) : l ≠ t := fun e => by
  obtain ⟨kvs, q⟩ := h.dict
  rw [e, q] at n
  cases n
theorem Ext.free {t : Addr} {H H' : Hp} (e : Ext t H H') {l : Addr} (n : l ≠ t) (h : H' l = none) : H l = none := by
  cases q : H l with
  | none => rfl
  | some o =>
    rw [e l o n q] at h
    cases h
/-- an object D that was not there at H0 is stored into -/
theorem Tape.put {K : PySem.W.Frag} {H0 H : Hp} {t c : Addr} {b0 b : Nat} {D : Addr} {o : HO} (h0 : Tape K H0 t c b0) (e : Ext t H0 H) (h : Tape K H t c b) (n : H0 D = none) : Tape K (upd H D o) t c b := by
  have nt : t ≠ D := (h0.ne n).symm
  obtain ⟨_, _, ns, _, g2, g3, g4, g5, _⟩ := h0
  obtain ⟨p, l, _, h1, _, _, _, _, h6, h7, h8⟩ := h
  refine ⟨p, l, ns, by rw [upd_ne nt]; exact h1, SqL.same g2 fun u q => ?_, g3, g4, g5, h6, h7, h8⟩
  rw [upd_ne (ne_of_none q n)]
  exact e _ _ g3 q
theorem Ext.upd {t : Addr} {H0 H : Hp} {D : Addr} {o : HO} (e : Ext t H0 H) (n : H0 D = none) : Ext t H0 (upd H D o) := fun q u h1 h2 => by
  rw [upd_ne (ne_of_none h2 n)]
  exact e q u h1 h2
end L3

namespace L3
open PySem L2
theorem slz {n : Nat} (h : Nat.ble n 1000 = true) : n ≤ sizeLine := Nat.le_of_lt (small1000 (Nat.le_of_ble_eq_true h))
theorem iT {c : Bool} {A B : Prop} (h : c = true) (a : A) : if c = true then A else B := by
  rw [if_pos h]
  exact a
theorem iF {c : Bool} {A B : Prop} (h : c = false) (b : B) : if c = true then A else B := by
  rw [h]
  exact iteF b
theorem tg_aa : decide (V.str ("apply" : Str) = V.str ("apply" : Str)) = true := decide_eq_true rfl
theorem tg_va : decide (V.str ("var" : Str) = V.str ("apply" : Str)) = false := by decide +kernel
theorem tg_ca : decide (V.str ("con" : Str) = V.str ("apply" : Str)) = false := by decide +kernel
theorem tg_vv : decide (V.str ("var" : Str) = V.str ("var" : Str)) = true := decide_eq_true rfl
theorem tg_cv : decide (V.str ("con" : Str) = V.str ("var" : Str)) = false := by decide +kernel
theorem tg_av : decide (V.str ("apply" : Str) = V.str ("var" : Str)) = false := by decide +kernel
theorem tg_ac : decide (V.str ("apply" : Str) = V.str ("con" : Str)) = false := by decide +kernel
theorem tg_vc : decide (V.str ("var" : Str) = V.str ("con" : Str)) = false := by decide +kernel
theorem tg_cc : decide (V.str ("con" : Str) = V.str ("con" : Str)) = true := decide_eq_true rfl
/-! ### kinds -/
inductive Kd where
  | var (x : Str) | con (x : Str) | app (a b : Kd)
  deriving DecidableEq
def Kd.tag : Kd → Str
  | .var _ => "var" | .con _ => "con" | .app _ _ => "apply"
/-- a word of 1 to 8 letters from a to z -/
def Wok (x : Str) : Prop := 1 ≤ x.length ∧ x.length ≤ 8 ∧ ∀ c ∈ x.cps.toList, 97 ≤ c ∧ c ≤ 122
/-- at most n deep, of words -/
def Kd.fit : Nat → Kd → Prop
  | _, .var x => Wok x
  | _, .con x => Wok x
  | 0, .app _ _ => False
  | n + 1, .app a b => Kd.fit n a ∧ Kd.fit n b
theorem Kd.fit_mono : ∀ {k : Kd} {n m : Nat}, n ≤ m → Kd.fit n k → Kd.fit m k
  | .var _, n, m, _, h => by cases n <;> cases m <;> exact h
  | .con _, n, m, _, h => by cases n <;> cases m <;> exact h
  | .app a b, 0, _, _, h => h.elim
  | .app a b, n + 1, 0, e, _ => absurd e (by omega)
  | .app a b, n + 1, m + 1, e, h => ⟨Kd.fit_mono (by omega) h.1, Kd.fit_mono (by omega) h.2⟩
theorem Kd.fit_app {n : Nat} {a b : Kd} (h : Kd.fit n (.app a b)) : ∃ m, n = m + 1 ∧ Kd.fit m a ∧ Kd.fit m b := by
  cases n with
  | zero => exact h.elim
  | succ m => exact ⟨m, rfl, h.1, h.2⟩
def KdAt (H : Hp) : V → Kd → Prop
  | v, .var x => ∃ a, v = .ref a ∧ H a = some (.tup [.str "var", .str x])
  | v, .con x => ∃ a, v = .ref a ∧ H a = some (.tup [.str "con", .str x])
  | v, .app k l => ∃ a u z, v = .ref a ∧ H a = some (.tup [.str "apply", u, z]) ∧ KdAt H u k ∧ KdAt H z l
/-- tuples stay -/
def Tups (H H' : Hp) : Prop := ∀ b xs, H b = some (.tup xs) → H' b = some (.tup xs)
theorem same_tups {H H' : Hp} (h : Same H H') : Tups H H' := fun b xs e => h b _ e
theorem Tups.trans {H H1 H2 : Hp} (a : Tups H H1) (b : Tups H1 H2) : Tups H H2 := fun c xs e => b c xs (a c xs e)
theorem Tups.put {H : Hp} {d : Addr} {o u : HO} (h : H d = some o) (n : ∀ xs, o ≠ .tup xs) : Tups H (upd H d u) := fun b xs e => by
  rw [upd_ne (fun q => by rw [q, h] at e; exact n xs (Option.some.inj e))]
  exact e
theorem Tups.new {H : Hp} {d : Addr} {u : HO} (h : H d = none) : Tups H (upd H d u) := same_tups (same_new h)
theorem Ext.tups {K : PySem.W.Frag} {t c : Addr} {b : Nat} {H H' : Hp} (e : Ext t H H') (h : Tape K H t c b) : Tups H H' := fun q xs z => by
  obtain ⟨kvs, hk⟩ := h.dict
  exact e q _ (ne_of z hk (by intro r; cases r)) z
theorem KdAt.tups {H H' : Hp} (h : Tups H H') : ∀ {k : Kd} {v : V}, KdAt H v k → KdAt H' v k
  | .var _, _, ⟨a, e, q⟩ => ⟨a, e, h _ _ q⟩
  | .con _, _, ⟨a, e, q⟩ => ⟨a, e, h _ _ q⟩
  | .app _ _, _, ⟨a, u, z, e, q, h1, h2⟩ => ⟨a, u, z, e, h _ _ q, KdAt.tups h h1, KdAt.tups h h2⟩
/-- the tuple of a kind, and its first item -/
theorem KdAt.top {H : Hp} : ∀ {k : Kd} {v : V}, KdAt H v k → ∃ a xs, v = .ref a ∧ H a = some (.tup xs) ∧ xs[0]? = some (.str k.tag)
  | .var _, _, ⟨a, e, q⟩ => ⟨a, _, e, q, rfl⟩
  | .con _, _, ⟨a, e, q⟩ => ⟨a, _, e, q, rfl⟩
  | .app _ _, _, ⟨a, u, z, e, q, _⟩ => ⟨a, _, e, q, rfl⟩
def Kd.dat : Kd → PyData
  | .var x => .tuple [.str "var", .str x]
  | .con x => .tuple [.str "con", .str x]
  | .app a b => .tuple [.str "apply", a.dat, b.dat]
theorem KdAt.dp {K : PySem.W.Frag} {H : Hp} : ∀ {k : Kd} {v : V}, KdAt H v k → Dp K H v k.dat
  | .var x, _, ⟨a, e, q⟩ => by subst e; exact .tup (SqT.of q) (.cons (.str _) (.cons (.str _) .nil))
  | .con x, _, ⟨a, e, q⟩ => by subst e; exact .tup (SqT.of q) (.cons (.str _) (.cons (.str _) .nil))
  | .app _ _, _, ⟨a, u, z, e, q, h1, h2⟩ => by subst e; exact .tup (SqT.of q) (.cons (.str _) (.cons h1.dp (.cons h2.dp .nil)))
theorem ne_vc : ¬ (("var" : Str) = "con") := by decide +kernel
theorem ne_cv : ¬ (("con" : Str) = "var") := by decide +kernel
theorem ne_va : ¬ (("var" : Str) = "apply") := by decide +kernel
theorem ne_av : ¬ (("apply" : Str) = "var") := by decide +kernel
theorem ne_ca : ¬ (("con" : Str) = "apply") := by decide +kernel
theorem ne_ac : ¬ (("apply" : Str) = "con") := by decide +kernel
theorem str_beq (x y : Str) : (x == y) = decide (x = y) := by
  rw [Bool.eq_iff_iff]
  simp
theorem eqv_tt (xs ys : List PyData) : PyData.eqv (.tuple xs) (.tuple ys) = PyData.eqvAll xs ys := by rw [PyData.eqv]
theorem eqv_cc (x y : PyData) (xs ys : List PyData) : PyData.eqvAll (x :: xs) (y :: ys) = (PyData.eqv x y && PyData.eqvAll xs ys) := by rw [PyData.eqvAll]
theorem eqv_nn : PyData.eqvAll [] [] = true := by rw [PyData.eqvAll]
theorem eqv_nc (y : PyData) (ys : List PyData) : PyData.eqvAll [] (y :: ys) = false := by rw [PyData.eqvAll]
theorem eqv_cn (y : PyData) (ys : List PyData) : PyData.eqvAll (y :: ys) [] = false := by rw [PyData.eqvAll]
theorem eqv_ss (x y : Str) : PyData.eqv (.str x) (.str y) = decide (x = y) := by rw [PyData.eqv]; exact str_beq x y
theorem Kd.eqv (a b : Kd) : PyData.eqv a.dat b.dat = decide (a = b) := by
  induction a generalizing b with
  | var x =>
    cases b with
    | var y => simp only [Kd.dat, eqv_tt, eqv_cc, eqv_ss, eqv_nn, decide_true, Bool.true_and, Bool.and_true, Kd.var.injEq]
    | con y => simp only [Kd.dat, eqv_tt, eqv_cc, eqv_ss, decide_eq_false ne_vc, Bool.false_and, reduceCtorEq, decide_false]
    | app c d => simp only [Kd.dat, eqv_tt, eqv_cc, eqv_ss, decide_eq_false ne_va, Bool.false_and, reduceCtorEq, decide_false]
  | con x =>
    cases b with
    | con y => simp only [Kd.dat, eqv_tt, eqv_cc, eqv_ss, eqv_nn, decide_true, Bool.true_and, Bool.and_true, Kd.con.injEq]
    | var y => simp only [Kd.dat, eqv_tt, eqv_cc, eqv_ss, decide_eq_false ne_cv, Bool.false_and, reduceCtorEq, decide_false]
    | app c d => simp only [Kd.dat, eqv_tt, eqv_cc, eqv_ss, decide_eq_false ne_ca, Bool.false_and, reduceCtorEq, decide_false]
  | app a1 a2 h1 h2 =>
    cases b with
    | var y => simp only [Kd.dat, eqv_tt, eqv_cc, eqv_ss, decide_eq_false ne_av, Bool.false_and, reduceCtorEq, decide_false]
    | con y => simp only [Kd.dat, eqv_tt, eqv_cc, eqv_ss, decide_eq_false ne_ac, Bool.false_and, reduceCtorEq, decide_false]
    | app c d =>
      simp only [Kd.dat, eqv_tt, eqv_cc, eqv_ss, eqv_nn, h1, h2, decide_true, Bool.true_and, Bool.and_true, Kd.app.injEq, Bool.decide_and]
theorem SqL.extT {K : PySem.W.Frag} {t c : Addr} {b : Nat} {H H' : Hp} {a : Addr} {xs : List V} (h : SqL K H a xs) (hT : Tape K H t c b) (e : Ext t H H') : SqL K H' a xs := by
  obtain ⟨kvs, hk⟩ := hT.dict
  rcases h with (h | ⟨o, h⟩) | h
  · exact .inl (.inl (e _ _ (ne_of h hk (by intro r; cases r)) h))
  · exact .inl (.inr ⟨o, e _ _ (ne_of h hk (by intro r; cases r)) h⟩)
  · exact .inr h
theorem Wok.str {x : Str} (h : Wok x) : PyData.strOk x = true := by
  unfold PyData.strOk
  rw [Array.all_eq_true']
  intro c hc
  have := h.2.2 c (by simpa using hc)
  exact decide_eq_true (by omega)
theorem Kd.lay : ∀ {k : Kd} {n : Nat}, Kd.fit n k → k.dat.canLay0 = true ∧ k.dat.depth ≤ n + 1
  | .var x, n, h => by
    have w : Wok x := by cases n <;> exact h
    refine ⟨?_, ?_⟩
    · simp only [Kd.dat, PyData.canLay0, PyData.canLayAll0, w.str, Bool.and_true]
      decide +kernel
    · simp [Kd.dat, PyData.depth, PyData.depthAll]
  | .con x, n, h => by
    have w : Wok x := by cases n <;> exact h
    refine ⟨?_, ?_⟩
    · simp only [Kd.dat, PyData.canLay0, PyData.canLayAll0, w.str, Bool.and_true]
      decide +kernel
    · simp [Kd.dat, PyData.depth, PyData.depthAll]
  | .app a b, n, h => by
    obtain ⟨m, rfl, h1, h2⟩ := Kd.fit_app h
    obtain ⟨a1, a2⟩ := Kd.lay h1
    obtain ⟨b1, b2⟩ := Kd.lay h2
    refine ⟨?_, ?_⟩
    · simp only [Kd.dat, PyData.canLay0, PyData.canLayAll0, a1, b1, Bool.and_true]
      decide +kernel
    · simp only [Kd.dat, PyData.depth, PyData.depthAll]
      omega
theorem Kd.shaped {k : Kd} {n : Nat} (h : Kd.fit n k) (hn : n ≤ 60) : SeqAt.shaped k.dat = true := by
  obtain ⟨h1, h2⟩ := Kd.lay h
  unfold SeqAt.shaped
  rw [h1, Bool.true_and]
  exact decide_eq_true (by omega)
/-- a list of words -/
theorem dp_words {K : PySem.W.Frag} {H : Hp} : ∀ ws : List Str, DpAll K H (ws.map V.str) (ws.map PyData.str)
  | [] => .nil
  | _ :: r => .cons (.str _) (dp_words r)
theorem lay_words : ∀ {ws : List Str}, (∀ x ∈ ws, Wok x) → PyData.canLayAll0 (ws.map PyData.str) = true ∧ PyData.depthAll (ws.map PyData.str) = 0
  | [], _ => ⟨by simp [PyData.canLayAll0], by simp [PyData.depthAll]⟩
  | x :: r, h => by
    obtain ⟨h1, h2⟩ := lay_words (ws := r) fun y hy => h y (List.mem_cons_of_mem _ hy)
    refine ⟨?_, ?_⟩
    · simp only [List.map_cons, PyData.canLayAll0, PyData.canLay0, (h x List.mem_cons_self).str, h1, Bool.true_and]
    · simp only [List.map_cons, PyData.depthAll, PyData.depth, h2]; rfl
theorem shaped_words {ws : List Str} (h : ∀ x ∈ ws, Wok x) : SeqAt.shaped (.list (ws.map PyData.str)) = true := by
  obtain ⟨h1, h2⟩ := lay_words h
  unfold SeqAt.shaped
  simp only [PyData.canLay0, h1, PyData.depth, h2]
  decide
theorem shaped_nil : SeqAt.shaped (.list []) = true := by decide
/-! ### rows of kinds, dicts of kinds -/
abbrev KdsAt (H : Hp) : List V → List Kd → Prop := Paired (KdAt H)
theorem paired_get {α β : Type} {F : α → β → Prop} : ∀ {xs : List α} {ys : List β} {i : Nat} {x : α}, Paired F xs ys → xs[i]? = some x → ∃ y, ys[i]? = some y ∧ F x y
  | _, _, _, _, .nil, e => by simp at e
  | _, _, 0, _, .cons r _, e => by simp at e; subst e; exact ⟨_, rfl, r⟩
  | _, _, i + 1, x, .cons _ t, e => by
    obtain ⟨y, h1, h2⟩ := paired_get (i := i) (x := x) t (by simpa using e)
    exact ⟨y, by simpa using h1, h2⟩
theorem paired_map {α β : Type} {F G : α → β → Prop} (h : ∀ a b, F a b → G a b) : ∀ {xs : List α} {ys : List β}, Paired F xs ys → Paired G xs ys
  | _, _, .nil => .nil
  | _, _, .cons r t => .cons (h _ _ r) (paired_map h t)
theorem KdsAt.tups {H H' : Hp} (h : Tups H H') {xs : List V} {ks : List Kd} (r : KdsAt H xs ks) : KdsAt H' xs ks := paired_map (fun _ _ q => KdAt.tups h q) r
theorem KdsAt.dp {K : PySem.W.Frag} {H : Hp} : ∀ {xs : List V} {ks : List Kd}, KdsAt H xs ks → DpAll K H xs (ks.map Kd.dat)
  | _, _, .nil => .nil
  | _, _, .cons r t => .cons r.dp (KdsAt.dp t)
abbrev By := List (Str × Kd)
def lk (by' : By) (x : Str) : Option Kd := (by'.find? fun p => decide (p.1 = x)).map (·.2)
theorem lk_nil (x : Str) : lk [] x = none := rfl
theorem lk_pos {p : Str × Kd} {r : By} {x : Str} (e : p.1 = x) : lk (p :: r) x = some p.2 := by simp [lk, List.find?_cons, e]
theorem lk_neg {p : Str × Kd} {r : By} {x : Str} (e : ¬ p.1 = x) : lk (p :: r) x = lk r x := by simp [lk, List.find?_cons, e]
abbrev ByAt (H : Hp) : List (Key × V) → By → Prop := Paired fun p q => p.1 = .inr q.1 ∧ KdAt H p.2 q.2
theorem ByAt.tups {H H' : Hp} (h : Tups H H') {kvs : List (Key × V)} {by' : By} (r : ByAt H kvs by') : ByAt H' kvs by' := paired_map (fun _ _ q => ⟨q.1, KdAt.tups h q.2⟩) r
theorem ByAt.get {H : Hp} (x : Str) : ∀ {kvs : List (Key × V)} {by' : By}, ByAt H kvs by' → (valV kvs (.inr x) = none ∧ lk by' x = none) ∨ ∃ v k, valV kvs (.inr x) = some v ∧ lk by' x = some k ∧ KdAt H v k
  | _, _, .nil => .inl ⟨rfl, rfl⟩
  | p :: kvs, q :: by', .cons r t => by
    by_cases e : q.1 = x
    · exact .inr ⟨p.2, q.2, valV_pos (by rw [r.1, e]), lk_pos e, r.2⟩
    · have e' : ¬ p.1 = (.inr x : Key) := by
        rw [r.1]
        intro z
        exact e (Sum.inr.inj z)
      rw [valV_neg e', lk_neg e]
      exact ByAt.get x t
def Kd.put (by' : By) : Kd → Kd
  | .var x => (lk by' x).getD (.var x)
  | .con x => .con x
  | .app a b => .app (a.put by') (b.put by')
def conK (x : Str) (ks : List Kd) : Kd := ks.foldl Kd.app (.con x)
theorem conK_snoc (x : Str) (ks : List Kd) (k : Kd) : conK x (ks ++ [k]) = .app (conK x ks) k := by
  unfold conK
  rw [List.foldl_append]
  rfl
theorem Kd.fit_put {by' : By} {m : Nat} (hb : ∀ x k, lk by' x = some k → Kd.fit m k) : ∀ {k : Kd} {n : Nat}, Kd.fit n k → Kd.fit (n + m) (k.put by')
  | .var x, n, h => by
    have w : Wok x := by cases n <;> exact h
    show Kd.fit (n + m) ((lk by' x).getD (.var x))
    cases e : lk by' x with
    | none =>
      show Kd.fit (n + m) (.var x)
      generalize n + m = j
      cases j <;> exact w
    | some k => exact Kd.fit_mono (by omega) (hb x k e)
  | .con x, n, h => by
    have w : Wok x := by cases n <;> exact h
    show Kd.fit (n + m) (.con x)
    generalize n + m = j
    cases j <;> exact w
  | .app a b, n, h => by
    obtain ⟨j, rfl, h1, h2⟩ := Kd.fit_app h
    show Kd.fit (j + 1 + m) (.app (a.put by') (b.put by'))
    rw [show j + 1 + m = j + m + 1 by omega]
    exact ⟨Kd.fit_put hb h1, Kd.fit_put hb h2⟩
theorem fitV {n : Nat} {x : Str} (w : Wok x) : Kd.fit n (.var x) := by cases n <;> exact w
theorem fitC {n : Nat} {x : Str} (w : Wok x) : Kd.fit n (.con x) := by cases n <;> exact w
theorem wok_of_var {n : Nat} {x : Str} (h : Kd.fit n (.var x)) : Wok x := by cases n <;> exact h
theorem wok_of_con {n : Nat} {x : Str} (h : Kd.fit n (.con x)) : Wok x := by cases n <;> exact h
theorem fit_fold {j : Nat} : ∀ {ks : List Kd} {h : Kd} {i : Nat}, Kd.fit i h → (∀ k ∈ ks, Kd.fit j k) → j ≤ i → Kd.fit (i + ks.length) (ks.foldl Kd.app h)
  | [], h, i, h1, _, _ => h1
  | k :: r, h, i, h1, h2, h3 => by
    have q : Kd.fit (i + 1) (.app h k) := ⟨h1, Kd.fit_mono h3 (h2 k List.mem_cons_self)⟩
    have z := fit_fold (ks := r) q (fun y hy => h2 y (List.mem_cons_of_mem _ hy)) (by omega)
    rw [List.length_cons, show i + (r.length + 1) = i + 1 + r.length by omega]
    exact z
theorem fit_conK {j : Nat} {x : Str} {ks : List Kd} (w : Wok x) (h : ∀ k ∈ ks, Kd.fit j k) : Kd.fit (j + ks.length) (conK x ks) := fit_fold (fitC w) h (Nat.le_refl _)
theorem eqv_ll (xs ys : List PyData) : PyData.eqv (.list xs) (.list ys) = PyData.eqvAll xs ys := by rw [PyData.eqv]
theorem words_ne {ws : List Str} : (!PyData.eqv (.list (ws.map PyData.str)) (.list [])) = !ws.isEmpty := by
  rw [eqv_ll]
  cases ws with
  | nil => rw [List.map_nil, eqv_nn]; rfl
  | cons x r => rw [List.map_cons, eqv_cn]; rfl
/-- rows (word, how many parts) -/
def ConsAt (K : PySem.W.Frag) (H : Hp) (l : Addr) : Prop := ∃ xs, SqL K H l xs ∧ 0 < xs.length ∧ xs.length < 1000 ∧ ∀ v ∈ xs, ∃ (a : Addr) (x : Str) (m : Nat), v = .ref a ∧ H a = some (.tup [.str x, .int (m : Int)]) ∧ m ≤ 2 ∧ Wok x
theorem ConsAt.ext {K : PySem.W.Frag} {t c : Addr} {b : Nat} {H H' : Hp} {l : Addr} (h : ConsAt K H l) (hT : Tape K H t c b) (e : Ext t H H') : ConsAt K H' l := by
  obtain ⟨xs, h1, h2, h3, h4⟩ := h
  refine ⟨xs, SqL.extT h1 hT e, h2, h3, fun v hv => ?_⟩
  obtain ⟨a, x, m, e1, e2, e3, e4⟩ := h4 v hv
  exact ⟨a, x, m, e1, Ext.tups e hT _ _ e2, e3, e4⟩
/-- the variables of kinds are among some words -/
def Kd.of (ws : List Str) : Kd → Prop
  | .var x => x ∈ ws
  | .con _ => True
  | .app a b => Kd.of ws a ∧ Kd.of ws b
theorem of_fold {ws : List Str} : ∀ {ks : List Kd} {h : Kd}, Kd.of ws h → (∀ k ∈ ks, Kd.of ws k) → Kd.of ws (ks.foldl Kd.app h)
  | [], _, h1, _ => h1
  | k :: r, h, h1, h2 => of_fold (ks := r) (h := .app h k) ⟨h1, h2 k List.mem_cons_self⟩ fun y hy => h2 y (List.mem_cons_of_mem _ hy)
theorem of_conK {ws : List Str} {x : Str} {ks : List Kd} (h : ∀ k ∈ ks, Kd.of ws k) : Kd.of ws (conK x ks) := of_fold (h := .con x) trivial h
/-! ### recursion -/
theorem fn_false {P : Program} {w : World} {K : PySem.W.Frag} {mg : Str → Option Value} {base : Heap} {f : Addr} {fd : FuncData} {ps : List Str} : FnOk P w K mg base CX0 0 f fd ps (fun _ _ _ _ => False) :=
  ⟨fun _ _ _ _ h => h.elim, fun _ _ _ _ _ _ _ _ _ _ _ _ _ h => h.elim⟩
end L3

namespace L3
open PySem L2
/-! ### variables in order -/
def addV (fs : List Str) (x : Str) : List Str := if x ∈ fs then fs else fs ++ [x]
def Kd.vs : Kd → List Str → List Str
  | .var x, fs => addV fs x
  | .con _, fs => fs
  | .app a b, fs => b.vs (a.vs fs)
def vsL : List Kd → List Str → List Str
  | [], fs => fs
  | k :: r, fs => vsL r (k.vs fs)
def Kd.size : Kd → Nat
  | .var _ => 1
  | .con _ => 1
  | .app a b => a.size + b.size + 1
def sizeL : List Kd → Nat
  | [] => 0
  | k :: r => k.size + sizeL r
theorem Kd.size_pos (k : Kd) : 0 < k.size := by cases k <;> simp [Kd.size]
theorem eqV_str (x y : Str) : eqV (.str y) (.str x) = decide (y = x) := str_beq y x
theorem inV_words (x : Str) : ∀ fs : List Str, inV (.str x) (fs.map V.str) = decide (x ∈ fs)
  | [] => rfl
  | y :: r => by
    have ih := inV_words x r
    unfold inV at ih ⊢
    rw [List.map_cons, List.any_cons, ih, eqV_str]
    by_cases h : y = x
    · subst h
      simp
    · have h2 : ¬ x = y := fun e => h e.symm
      simp [h, h2]
theorem flat_words : ∀ fs : List Str, (fs.map V.str).all flatV = true
  | [] => rfl
  | _ :: r => by
    rw [List.map_cons, List.all_cons, flat_words r]
    rfl
/-- the last of a row -/
theorem paired_last {α β : Type} {F : α → β → Prop} : ∀ {xs : List α} {ys : List β} {y : β}, Paired F xs (ys ++ [y]) → ∃ xs0 x, xs = xs0 ++ [x] ∧ Paired F xs0 ys ∧ F x y
  | [], [], _, h => nomatch h
  | [], _ :: _, _, h => nomatch h
  | x :: xs, [], y, .cons r t => by
    cases t
    exact ⟨[], x, rfl, .nil, r⟩
  | x :: xs, z :: ys, y, .cons r t => by
    obtain ⟨xs0, w, e, h1, h2⟩ := paired_last (ys := ys) t
    exact ⟨x :: xs0, w, by rw [e]; rfl, .cons r h1, h2⟩
theorem paired_snoc {α β : Type} {F : α → β → Prop} {xs : List α} {ys : List β} {x : α} {y : β} (h : Paired F xs ys) (r : F x y) : Paired F (xs ++ [x]) (ys ++ [y]) := Paired.snoc h r
theorem paired_rev {α β : Type} {F : α → β → Prop} : ∀ {xs : List α} {ys : List β}, Paired F xs ys → Paired F xs.reverse ys.reverse
  | _, _, .nil => .nil
  | _, _, .cons r t => by
    rw [List.reverse_cons, List.reverse_cons]
    exact Paired.snoc (paired_rev t) r
theorem kds_snoc : ∀ ks : List Kd, ks ≠ [] → ∃ ks0 k, ks = ks0 ++ [k] := fun ks h => ⟨ks.dropLast, ks.getLast h, (List.dropLast_concat_getLast h).symm⟩
theorem shaped_kds {ks : List Kd} (h : ∀ k ∈ ks, k.fit 60) : SeqAt.shaped (.list (ks.map Kd.dat)) = true := by
  have key : ∀ ks : List Kd, (∀ k ∈ ks, k.fit 60) → PyData.canLayAll0 (ks.map Kd.dat) = true ∧ PyData.depthAll (ks.map Kd.dat) ≤ 61 := by
    intro ks
    induction ks with
    | nil => intro _; exact ⟨by simp [PyData.canLayAll0], by simp [PyData.depthAll]⟩
    | cons k r ih =>
      intro h
      obtain ⟨h1, h2⟩ := ih fun y hy => h y (List.mem_cons_of_mem _ hy)
      obtain ⟨h3, h4⟩ := Kd.lay (h k List.mem_cons_self)
      refine ⟨by simp only [List.map_cons, PyData.canLayAll0, h3, h1, Bool.true_and], ?_⟩
      simp only [List.map_cons, PyData.depthAll]
      omega
  obtain ⟨h1, h2⟩ := key ks h
  unfold SeqAt.shaped
  simp only [PyData.canLay0, h1, PyData.depth, Bool.true_and]
  exact decide_eq_true (by omega)
theorem kds_ne {ks : List Kd} : (!PyData.eqv (.list (ks.map Kd.dat)) (.list [])) = !ks.isEmpty := by
  rw [eqv_ll]
  cases ks with
  | nil => rw [List.map_nil, eqv_nn]; rfl
  | cons x r => rw [List.map_cons, eqv_cn]; rfl
/-! ### matching -/
def Kd.mt : Kd → Kd → By → Bool × By
  | .var x, k, b => match lk b x with
    | some k' => (decide (k' = k), b)
    | none => (true, b ++ [(x, k)])
  | .con x, k, b => (decide (Kd.con x = k), b)
  | .app a c, .app d e, b => if (a.mt d b).1 = true then c.mt e (a.mt d b).2 else (false, (a.mt d b).2)
  | .app _ _, .var _, b => (false, b)
  | .app _ _, .con _, b => (false, b)
def mtL : List Kd → List Kd → By → Option By
  | p :: ps, k :: ks, b => if (p.mt k b).1 = true then mtL ps ks (p.mt k b).2 else none
  | _, _, b => some b
def mtP : List (Kd × Kd) → By → Option By
  | [], b => some b
  | (p, k) :: r, b => if (p.mt k b).1 = true then mtP r (p.mt k b).2 else none
theorem mtP_zip : ∀ (ps ks : List Kd) (b : By), mtP (ps.zip ks) b = mtL ps ks b
  | [], _, _ => rfl
  | _ :: _, [], _ => rfl
  | p :: ps, k :: ks, b => by
    show (if (p.mt k b).1 = true then mtP (ps.zip ks) (p.mt k b).2 else none) = if (p.mt k b).1 = true then mtL ps ks (p.mt k b).2 else none
    rw [mtP_zip ps ks]
theorem mtP_app (a c d e : Kd) (r : List (Kd × Kd)) (b : By) : mtP ((.app a c, .app d e) :: r) b = mtP ((a, d) :: (c, e) :: r) b := by
  show (if ((Kd.app a c).mt (.app d e) b).1 = true then mtP r ((Kd.app a c).mt (.app d e) b).2 else none) = if (a.mt d b).1 = true then (if (c.mt e (a.mt d b).2).1 = true then mtP r (c.mt e (a.mt d b).2).2 else none) else none
  by_cases h : (a.mt d b).1 = true
  · have q : (Kd.app a c).mt (.app d e) b = c.mt e (a.mt d b).2 := by simp only [Kd.mt, if_pos h]
    rw [if_pos h, q]
  · have q : (Kd.app a c).mt (.app d e) b = (false, (a.mt d b).2) := by simp only [Kd.mt, if_neg h]
    rw [if_neg h, q]
    rfl
theorem lk_snoc {b : By} {x : Str} {k : Kd} (h : lk b x = none) (y : Str) : lk (b ++ [(x, k)]) y = if y = x then some k else lk b y := by
  induction b with
  | nil =>
    by_cases e : x = y
    · rw [if_pos e.symm]
      exact lk_pos e
    · rw [if_neg (fun z => e z.symm)]
      exact lk_neg e
  | cons p r ih =>
    have hk : ¬ p.1 = x := fun z => by rw [lk_pos z] at h; cases h
    rw [lk_neg hk] at h
    rw [List.cons_append]
    by_cases e : p.1 = y
    · rw [lk_pos e, lk_pos e, if_neg (fun z => hk (e.trans z))]
    · rw [lk_neg e, lk_neg e, ih h]
theorem lk_mem {b : By} {x : Str} {k : Kd} (h : lk b x = some k) : (x, k) ∈ b := by
  induction b with
  | nil => cases h
  | cons p r ih =>
    by_cases e : p.1 = x
    · rw [lk_pos e] at h
      have : p = (x, k) := by
        obtain ⟨p1, p2⟩ := p
        have e' : p1 = x := e
        have h' : p2 = k := Option.some.inj h
        rw [e', h']
      rw [this]
      exact List.mem_cons_self
    · rw [lk_neg e] at h
      exact List.mem_cons_of_mem _ (ih h)
/-- what matching adds -/
theorem Kd.mt_grow {m : Nat} : ∀ (p k : Kd) (b : By), k.fit m → (∀ q ∈ b, q.2.fit m) → (p.mt k b).2.length ≤ b.length + p.size ∧ ∀ q ∈ (p.mt k b).2, q.2.fit m
  | .var x, k, b, hk, hb => by
    simp only [Kd.mt]
    cases e : lk b x with
    | some k' => exact ⟨Nat.le_add_right _ _, hb⟩
    | none =>
      refine ⟨by simp [Kd.size], fun q hq => ?_⟩
      rcases List.mem_append.mp hq with h | h
      · exact hb q h
      · rw [List.mem_singleton.mp h]
        exact hk
  | .con x, k, b, hk, hb => ⟨Nat.le_add_right _ _, hb⟩
  | .app a c, .app d e, b, hk, hb => by
    obtain ⟨j, rfl, h1, h2⟩ := Kd.fit_app hk
    have h1' := Kd.fit_mono (Nat.le_succ j) h1
    have h2' := Kd.fit_mono (Nat.le_succ j) h2
    obtain ⟨g1, g2⟩ := Kd.mt_grow a d b h1' hb
    obtain ⟨g3, g4⟩ := Kd.mt_grow c e (a.mt d b).2 h2' g2
    simp only [Kd.mt]
    by_cases h : (a.mt d b).1 = true
    · rw [if_pos h]
      refine ⟨?_, g4⟩
      simp only [Kd.size]
      omega
    · rw [if_neg h]
      refine ⟨?_, g2⟩
      simp only [Kd.size]
      omega
  | .app _ _, .var _, b, _, hb => ⟨Nat.le_add_right _ _, hb⟩
  | .app _ _, .con _, b, _, hb => ⟨Nat.le_add_right _ _, hb⟩
/-- the names, as the variables come -/
def names (b : By) : List Str := b.map (·.1)
theorem lk_names (b : By) (x : Str) : (lk b x).isSome = decide (x ∈ names b) := by
  induction b with
  | nil => rfl
  | cons p r ih =>
    by_cases e : p.1 = x
    · rw [lk_pos e]
      simp [names, e]
    · rw [lk_neg e, ih]
      have e' : ¬ x = p.1 := fun z => e z.symm
      have q : names (p :: r) = p.1 :: names r := rfl
      rw [q]
      simp [e']
theorem Kd.mt_names : ∀ (p k : Kd) (b : By), (p.mt k b).1 = true → names (p.mt k b).2 = p.vs (names b)
  | .var x, k, b, h => by
    have hn := lk_names b x
    simp only [Kd.mt, Kd.vs, addV] at h ⊢
    cases e : lk b x with
    | some k' =>
      rw [e] at hn
      have : x ∈ names b := of_decide_eq_true hn.symm
      simp only [this, if_true]
    | none =>
      rw [e] at hn
      have : ¬ x ∈ names b := of_decide_eq_false hn.symm
      rw [if_neg this]
      simp [names]
  | .con x, k, b, _ => rfl
  | .app a c, .app d e, b, h => by
    simp only [Kd.mt, Kd.vs] at h ⊢
    by_cases h1 : (a.mt d b).1 = true
    · rw [if_pos h1] at h ⊢
      rw [Kd.mt_names c e _ h, Kd.mt_names a d b h1]
    · rw [if_neg h1] at h
      cases h
  | .app _ _, .var _, b, h => by simp [Kd.mt] at h
  | .app _ _, .con _, b, h => by simp [Kd.mt] at h
theorem mtL_names : ∀ (ps ks : List Kd) (b c : By), ps.length = ks.length → mtL ps ks b = some c → names c = vsL ps (names b)
  | [], [], b, c, _, h => by cases h; rfl
  | [], _ :: _, _, _, h, _ => by cases h
  | _ :: _, [], _, _, h, _ => by cases h
  | p :: ps, k :: ks, b, c, hl, h => by
    simp only [mtL] at h
    by_cases h1 : (p.mt k b).1 = true
    · rw [if_pos h1] at h
      rw [mtL_names ps ks _ c (Nat.succ.inj hl) h, Kd.mt_names p k b h1]
      rfl
    · rw [if_neg h1] at h
      cases h
end L3

/-! repr of nested data; a law's own run, where nothing else is being shown -/
namespace L3
open PySem PySem.Spec PyProof.Rows L2
section
variable {X : Cx}
/-- repr of a list or tuple of nested data -/
def rRepr (K : PySem.W.Frag) : List V → Hp → VK → Prop := fun xs H Q => ∃ (a : Addr) (d : PyData), xs = [.ref a] ∧ Dp K H (.ref a) d ∧ d.showable = true ∧ d.hasDict = false ∧ d.depth ≤ 60 ∧ d.shown.length ≤ sizeLine ∧ Q (.str d.shown) H
theorem call_reprD (hg : X.A.guards = some []) (hu : X.A.units + 64 < cLine) : CallR X (.builtin "repr") (rRepr X.K) := by
  intro pins s σ H xs us Q I r h
  obtain ⟨a, d, rfl, hd, hs, hn, hdep, hsz, q⟩ := h
  obtain ⟨u, rfl, rx⟩ := vals1 r
  obtain rfl : u = Value.ref a := rx
  obtain ⟨as, hr⟩ := Dp.reads I d _ _ hd (show RelV (.ref a) (.ref a) from rfl)
  exact repr_of_reads' hr hs (fun z => by rw [hn] at z; cases z) hg (by omega) (fun _ _ e => e) (fun h' u tk hk => ⟨.str d.shown, H, I.kept (t' := tk) hk, ⟨u, rfl⟩, q⟩) hsz
end
/-- the law's own def, called by nobody -/
def LawRun (P : Program) (w : World) (K : PySem.W.Frag) (mg : Str → Option Value) (base : Heap) (f : Addr) (fd : FuncData) (x : Str) (sp : List V → Hp → VK → Prop) : Prop :=
  ∀ (s : Shared) (H : Hp) (args : Args) (u : Value) (v : V) (Q : VK), Env0 P w K mg base callerA [] s H → BindsTo s fd args [(x, u)] → RelV v u → sp [v] H Q → codeAny (model P w) callerA (.call (.ref f) args) (CR CX0 [] P w H s Q E0) s
section
variable {P : Program} {w : World} {K : PySem.W.Frag} {mg : Str → Option Value} {base : Heap}
theorem lawRun_of {st : Stmt} {f : Addr} {fd : FuncData} {N : List Str} {k : Nat} {x : Str} {sp : List V → Hp → VK → Prop} (F : Fun K "law" "law" st f fd) (S : FnScope N [x] (defScope st)) (hroom : Room (k + 1) callerA)
    (hbody : ∀ (cdv : Value) (s : Shared) (H : Hp) (v : V) (Q : VK), Room k (callerA.deeper (envOfC "law" (defScope st) s.heap.objs.size f cdv)) → sp [v] H Q →
      ∃ t, PSs (cxOf CX0 P w K mg base N "law" (defScope st) f cdv callerA [] s H E0).nox (defBody st) t ∧ t { nx := fun _ H' => Q .non H', rt := Q } (start N [v]) H) : LawRun P w K mg base f fd x sp := by
  obtain ⟨oc, od, kV, doc, pm, an, cdv, ct, osl, rfl, lk, hcd⟩ := F.ex
  intro s H args u v Q e0 hb rv hsp
  have inK : K.In s.heap := e0.mod.kin.keeps fun b o z => (e0.bs b o z).1
  have noL : s.heap.NoLimit := e0.mod.nolimit.keeps fun b o z => (e0.bs b o z).1
  have kinds : ∀ y ∈ ([x].zip [u] : List (Str × Value)), (defScope st).names.lookup y.1 = some .local ∨ ((defScope st).names.lookup y.1 = some .cell ∧ ((cellsFrom (s.heap.objs.size + 1) (defScope st).names []).lookup y.1).isSome = true) := by
    rintro ⟨n, z⟩ hy
    rcases S.par n (List.of_mem_zip hy).1 with q | q
    · exact Or.inl q
    · exact Or.inr ⟨q, PySem.W.cellsFrom_some _ _ _ (Or.inl q)⟩
  refine codeAny_call_function (Room.depth hroom) (inK _ _ lk) rfl S.co S.gen rfl (PySem.W.codeRec_of inK hcd) (hb _ _ _ _ ?_)
  refine wpAny_newFunctionEnv_cells S.kind kinds fun env he s1 xx => ?_
  subst he
  refine ⟨noL.keeps xx.toInCall.keep, codeAny_func ?_⟩
  obtain ⟨t, ht, hq⟩ := hbody cdv s H v Q (Room.deeper hroom _) hsp
  have J : Inv (cxOf CX0 P w K mg base N "law" (defScope st) f cdv callerA [] s H E0) [] (start N [v]) H s1 := inv_start S rfl e0 rfl (Paired.cons rv .nil) xx
  refine wpAny_mono ((PSs.nox ht).run [] s1 (start N [v]) H _ J hq) (fun fl s' hs => ?_) (fun e s' hs => hs)
  cases fl with
  | next =>
    obtain ⟨σ', H', J', q⟩ := hs
    exact ⟨V.non, H', J'.os, J'.bare, J'.base, J'.hok, rfl, q⟩
  | ret z =>
    obtain ⟨v', σ', H', J', rz, q⟩ := hs
    exact ⟨v', H', J'.os, J'.bare, J'.base, J'.hok, rz, q⟩
  | brk =>
    obtain ⟨_, _, _, q⟩ := hs
    exact q.elim
  | cont =>
    obtain ⟨_, _, _, q⟩ := hs
    exact q.elim
end
section
variable {P : Program} {w : World} {K : PySem.W.Frag} {mg mb : Str → Option Value} {fa a : Addr} {fd : FuncData} {x : Str} {sp : List V → Hp → VK → Prop} {s1 : Shared} {vs : List Value} {ns : List Int}
/-- what the law's call has to come to -/
abbrev LawEnd (s1 : Shared) (r : Result) (s' : Shared) : Prop := r = .ok (.ret (.bool true)) ∧ OldK s1.heap s'.heap ∧ s'.os = s1.os ∧ AllBare s'.gens
theorem law_core (inK : K.In s1.heap) (gl : s1.heap.Ns mainGlobals mg) (bi : s1.heap.Ns builtinsNs mb) (bb : ∀ y : Str, y ≠ "__name__" → mb y = bootBuiltins y) (nl : s1.heap.NoLimit) (ng : s1.gens = #[])
    (ob : s1.heap.get? a = some { cls := .type "list", data := .seq vs.toArray }) (run : ∀ base : Heap, K.In base → base.Ns mainGlobals mg → LawRun P w K mg base fa fd x sp)
    (bind : ∀ (s : Shared) (u : Value), BindsTo s fd ⟨[u], []⟩ [(x, u)]) (want : ∀ H : Hp, Only H → SqL K H a (ns.map V.int) → sp [.ref a] H (fun v _ => v = .bl true))
    (H : Hp) (hO : Only H) (hS : SqL K H a (ns.map V.int)) (ok : HOk P w H s1.heap) (alone : ∀ b, H b ≠ none → b = a) (off : H a ≠ none → K.lookup a = none) :
    codeAny (model P w) callerA (.call (.ref fa) ⟨[.ref a], []⟩) (LawEnd s1) s1 := by
  -- a thing that is tracked is the script
  have isA : ∀ {b : Addr} {u : HO}, H b = some u → b = a := fun {b u} q => alone b (by rw [q]; simp)
  have hid : ∀ {b : Addr} {o : Obj}, s1.heap.get? b = some o → H b = none → (hidT s1.heap H).get? b = some o := fun z n => hidT_get z n
  have dictFree : ∀ {b : Addr} {o : Obj} {es : Array DictEntry} {ep : Nat}, s1.heap.get? b = some o → o.data = .dict es ep → H b = none := by
    intro b o es ep z dd
    cases q : H b with
    | none => rfl
    | some u =>
      have e' := isA q
      subst e'
      rw [ob] at z
      cases z
      have dd' : Data.seq vs.toArray _ = Data.dict es ep := dd
      cases dd'
  have nsH : ∀ {b : Addr} {m : Str → Option Value}, s1.heap.Ns b m → (hidT s1.heap H).Ns b m := by
    rintro b m ⟨o, es, ep, z, dd, r⟩
    exact ⟨o, es, ep, hid z (dictFree z dd), dd, r⟩
  have inH : K.In (hidT s1.heap H) := by
    intro b o z
    refine hid (inK b o z) ?_
    cases q : H b with
    | none => rfl
    | some u =>
      have e' := isA q
      subst e'
      rw [off (by rw [q]; simp)] at z
      cases z
  have md : Mod K mg (hidT s1.heap H) := by
    obtain ⟨mc, z1, z2⟩ := nl
    exact ⟨inH, nsH gl, ⟨mb, nsH bi, bb⟩, ⟨mc, nsH z1, z2⟩⟩
  have e0 : Env0 P w K mg (hidT s1.heap H) callerA [] s1 H := by
    refine ⟨rfl, md, fun b o z => of_hidT z, Nat.le_of_eq (hidT_size _ _), trivial, ?_, ok, .of_eq ng⟩
    intro b hb
    exact nomatch (show b ∈ ([] : List Addr) from hb)
  refine codeAny_mono (run _ inH (nsH gl) s1 H ⟨[.ref a], []⟩ (.ref a) (.ref a) _ e0 (bind s1 (.ref a)) rfl (want H hO hS)) fun r s' h => ?_
  cases r with
  | error e => exact h.elim
  | ok fl =>
    cases fl with
    | next => exact h.elim
    | brk => exact h.elim
    | cont => exact h.elim
    | ret u =>
      obtain ⟨v, H', os, bare, un, ok', r', q⟩ := h
      obtain rfl : v = .bl true := q
      obtain rfl : u = Value.bool true := r'
      refine ⟨rfl, OldK.of_keep fun b o z => ?_, os, bare⟩
      cases q : H b with
      | none => exact un.keep b o z q (fun y => nomatch (show b ∈ ([] : List Addr) from y)) (fun y => nomatch y)
      | some u =>
        rcases hO b with y | ⟨o2, xs, y⟩
        · rw [q] at y
          cases y
        · obtain ⟨z1, _⟩ := ok b _ y
          obtain ⟨z2, _⟩ := ok' b _ (un.frzs b o2 _ y)
          rw [z] at z1
          cases z1
          exact z2
theorem law_callG (inK : K.In s1.heap) (gl : s1.heap.Ns mainGlobals mg) (bi : s1.heap.Ns builtinsNs mb) (bb : ∀ y : Str, y ≠ "__name__" → mb y = bootBuiltins y) (nl : s1.heap.NoLimit) (ng : s1.gens = #[])
    (ob : s1.heap.get? a = some { cls := .type "list", data := .seq vs.toArray }) (hi : IntsAre vs ns) (hl : ns.length ≤ sizeLine) (run : ∀ base : Heap, K.In base → base.Ns mainGlobals mg → LawRun P w K mg base fa fd x sp)
    (bind : ∀ (s : Shared) (u : Value), BindsTo s fd ⟨[u], []⟩ [(x, u)]) (want : ∀ H : Hp, Only H → SqL K H a (ns.map V.int) → sp [.ref a] H (fun v _ => v = .bl true)) :
    codeAny (model P w) callerA (.call (.ref fa) ⟨[.ref a], []⟩) (LawEnd s1) s1 := by
  have rv := vals_ints hi
  cases hk : K.lookup a with
  | some o =>
    have z := inK a o hk
    rw [ob] at z
    cases z
    have hS : SqL K (fun _ => none) a (ns.map V.int) := Or.inr ⟨_, vs.toArray, _, hk, rfl, rfl, rfl, by rw [List.size_toArray, hi.length]; exact hl, by simpa using rv⟩
    exact law_core inK gl bi bb nl ng ob run bind want (fun _ => none) (fun _ => .inl rfl) hS (fun _ _ z => nomatch (show (none : Option HO) = some _ from z)) (fun _ z => (z rfl).elim) (fun z => (z rfl).elim)
  | none =>
    let fz : HO := .frz { cls := .type "list", data := .seq vs.toArray } (.lst (ns.map V.int))
    have at1 : upd (fun _ => none) a fz a = some fz := upd_same
    refine law_core inK gl bi bb nl ng ob run bind want (upd (fun _ => none) a fz) (fun b => ?_) (.inl (.inr ⟨_, at1⟩)) (fun b u z => ?_) (fun b z => ?_) fun _ => hk
    · by_cases hb : b = a
      · rw [hb, at1]
        exact .inr ⟨_, _, rfl⟩
      · exact .inl (upd_ne hb)
    · by_cases hb : b = a
      · subst hb
        rw [at1] at z
        cases z
        exact ⟨ob, by rw [List.length_map]; exact hl, vs, _, rv, ob⟩
      · rw [upd_ne hb] at z
        cases z
    · by_cases hb : b = a
      · exact hb
      · exact (z (upd_ne hb)).elim
end
/-- the end of a law whose own def is run by LawRun -/
theorem walkG {l : PySem.W.OpenLaw} {n : Nat} {q : Program} {loose : List Str} {XP : (Str → Option Value) → Heap → Prop} {YP : World → Heap → Prop} {d : DefRec} {K : Params → PySem.W.Frag} {sp : PySem.W.Frag → List V → Hp → VK → Prop} {x : Str}
    (hn : l.most = some n) (hn2 : n ≤ sizeLine) (hdf : d.params.defaults = []) (hY : ∀ (w : World) (h : Heap), YP w h → (K w.params).In h)
    (F : ∀ (w : World) (mg : Str → Option Value) (fa : Addr) (h : Heap), (K w.params).In h → h.Ns mainGlobals mg → mg d.name = some (.ref fa) →
      ∃ fd : FuncData, (∀ (s : Shared) (u : Value), BindsTo s fd ⟨[u], []⟩ [(x, u)]) ∧ ∀ base : Heap, (K w.params).In base → base.Ns mainGlobals mg → LawRun l.prog w (K w.params) mg base fa fd x (sp (K w.params)))
    (want : ∀ (K : PySem.W.Frag) (H : Hp) (a : Addr) (ns : List Int), ns.length ≤ n → SqL K H a (ns.map V.int) → sp K [.ref a] H (fun v _ => v = .bl true)) : PySem.W.WalkO q loose XP YP l.row.toRowW d [] (fun f vs => PySem.call f vs) := by
  refine Att.attach_call hn hdf ?_
  intro w s0 s1 mg mb fa o pm cd doc a vs ns G Y ho hd hcd hmg hobj hints hlen hg
  obtain ⟨fd, hb, run⟩ := F w mg fa _ (hY w _ Y) G.T.g hmg
  exact law_callG (hY w _ Y) G.T.g G.T.b G.T.builtins G.T.nolimit hg hobj hints (Nat.le_trans hlen hn2) run hb (fun H _ hS => want _ H a ns hlen hS)
end L3

/-! list(zip(a, b)) over two lists or two tuples of one length -/
namespace L3
open PySem PySem.Spec PyProof.Rows L2
section
variable {prog : Program} {w : World} {A : Around} {E : Value → Shared → Prop} {s : Shared} {z TI TO T i1 i2 l1 l2 : Addr} {f : Bool} {oT : Obj} {xs ys : Array Value}
/-- a zip of tuples whose last pair is still out gives the next pair -/
theorem zt_item {k1 k2 : Nat} {x y : Value} {Q : Option Value → Shared → Prop} (D : ZipApart z TI TO i1 i2 l1 l2) (hz : IsZipHeld s.heap z TI TO T f) (hT : s.heap.get? T = some oT) (hTI : IsPair s.heap TI (.ref i1) (.ref i2))
    (a1 : s.heap.IsTupleIter i1 l1 k1) (a2 : s.heap.IsTupleIter i2 l2 k2) (t1 : s.heap.IsTuple l1 xs) (t2 : s.heap.IsTuple l2 ys) (ex : xs[k1]? = some x) (ey : ys[k2]? = some y)
    (q : ∀ h', IsZipHeld h' z TI TO T true → h'.IsTupleIter i1 l1 (k1 + 1) → h'.IsTupleIter i2 l2 (k2 + 1) → IsPair h' s.heap.objs.size x y → h'.objs.size = s.heap.objs.size + 1 →
      (∀ b o, b ≠ z → b ≠ i1 → b ≠ i2 → s.heap.get? b = some o → h'.get? b = some o) → Q (some (.ref s.heap.objs.size)) { s with heap := h' }) : wpAny (model prog w) A (pyNext (.ref z)) Q E s := by
  have isZip : s.TypeIs (.ref z) "zip" := ⟨_, hz, rfl⟩
  have body : ∀ (A' : Around) (E' : Value → Shared → Prop), wpAny (model prog w) A' (Builtin.«zip.__next__» ⟨[.ref z], []⟩) (fun fin s' => ∃ v, fin = .done (.ret v) ∧ Q (some v) s') E' s := by
    intro A' E'
    show wpAny _ _ (field (.ref z) 2 >>= _) _ _ s
    refine wpAny_bind (wpAny_field (i := 2) hz rfl rfl ?_)
    show wpAny _ _ (field (.ref z) 3 >>= _) _ _ s
    refine wpAny_bind (wpAny_field (i := 3) hz rfl rfl (wpAny_bind (wpAny_seqItems hTI rfl ?_)))
    refine wpAny_bind (wpAny_tupleHeld_zip hz hT fun ha hza hsa => ?_)
    rw [if_neg Bool.false_ne_true]
    refine wpAny_bind ?_
    rw [← Array.forIn_toList]
    simp only [List.forIn_nil, List.forIn_cons]
    refine wpAny_bind (wpAny_bind (wpAny_holding (wpAny_bind (RZ.nextOf_tuple_item (a1.extBut hsa.extBut D.i1z) (t1.extBut hsa.extBut D.l1z) ex fun hb b1 hsb => wpAny_pure (wpAny_pure ?_)))))
    refine wpAny_bind (wpAny_bind (wpAny_holding (wpAny_bind (RZ.nextOf_tuple_item ((a2.extBut hsa.extBut D.i2z).extBut hsb.extBut D.i12.symm) ((t2.extBut hsa.extBut D.l2z).extBut hsb.extBut D.l2i1) ey fun hc c2 hsc => wpAny_pure (wpAny_pure ?_)))))
    refine wpAny_pure ?_
    show wpAny _ _ (newTuple [x, y] >>= _) _ _ _
    refine wpAny_bind (wpAny_newTuple ?_)
    have size3 : hc.objs.size = s.heap.objs.size := (hsc.1.trans hsb.1).trans hsa.1
    have stays : ∀ b o, b ≠ z → b ≠ i1 → b ≠ i2 → s.heap.get? b = some o → hc.get? b = some o := fun b o n1 n2 n3 e => hsc.extBut b o n3 (hsb.extBut b o n2 (hsa.extBut b o n1 e))
    have pz : IsZipHeld hc z TI TO T true := hsc.extBut z _ D.i2z.symm (hsb.extBut z _ D.i1z.symm hza)
    refine wpAny_pure ⟨_, rfl, ?_⟩
    have fresh : IsPair (hc.push { cls := .type "tuple", data := .seq #[x, y] }) hc.objs.size x y := Heap.get?_push_size _ rfl
    have one : (hc.push { cls := .type "tuple", data := .seq #[x, y] }).objs.size = hc.objs.size + 1 := Heap.size_push ..
    show Q (some (.ref hc.objs.size)) _
    rw [size3] at fresh one ⊢
    exact q _ (Heap.get?_push_of_some _ pz) ((b1.extBut hsc.extBut D.i12).at fun o e => Heap.get?_push_of_some _ e) (c2.at fun o e => Heap.get?_push_of_some _ e) fresh one fun b o n1 n2 n3 e => Heap.get?_push_of_some _ (stays b o n1 n2 n3 e)
  unfold pyNext
  refine wpAny_bind (wpAny_attempt (wpAny_callSpecial?_slot (name := Str.ofString "__next__") isZip F.slot_zip_next (wpAny_call_entry F.slot_zip_next isZip F.entry_zip_next ?_ (F.args_zip_next_1 _))))
  exact wpAny_mono (body _ _) (fun fin s' ⟨v, e, h⟩ => ⟨v, e, wpAny_pure h⟩) fun _ _ h => h
theorem zt_end {k1 : Nat} {Q : Option Value → Shared → Prop} (hh : A.handled = none) (D : ZipApart z TI TO i1 i2 l1 l2) (hz : IsZipHeld s.heap z TI TO T f) (hT : s.heap.get? T = some oT) (hTI : IsPair s.heap TI (.ref i1) (.ref i2))
    (a1 : s.heap.IsTupleIter i1 l1 k1) (t1 : s.heap.IsTuple l1 xs) (ex : xs[k1]? = none)
    (q : ∀ h', (∀ b o, b ≠ z → b ≠ i1 → b ≠ i2 → s.heap.get? b = some o → h'.get? b = some o) → Q none { s with heap := h' }) : wpAny (model prog w) A (pyNext (.ref z)) Q E s := by
  have isZip : s.TypeIs (.ref z) "zip" := ⟨_, hz, rfl⟩
  unfold pyNext
  refine wpAny_bind (wpAny_attempt (wpAny_callSpecial?_slot (name := Str.ofString "__next__") isZip F.slot_zip_next (wpAny_call_entry F.slot_zip_next isZip F.entry_zip_next ?_ (F.args_zip_next_1 _))))
  show wpAny _ _ (field (.ref z) 2 >>= _) _ _ s
  refine wpAny_bind (wpAny_field (i := 2) hz rfl rfl ?_)
  show wpAny _ _ (field (.ref z) 3 >>= _) _ _ s
  refine wpAny_bind (wpAny_field (i := 3) hz rfl rfl (wpAny_bind (wpAny_seqItems hTI rfl ?_)))
  refine wpAny_bind (wpAny_tupleHeld_zip hz hT fun ha hza hsa => ?_)
  rw [if_neg Bool.false_ne_true]
  refine wpAny_bind ?_
  rw [← Array.forIn_toList]
  simp only [List.forIn_nil, List.forIn_cons]
  refine wpAny_bind (wpAny_bind (wpAny_holding (wpAny_bind (RZ.nextOf_tuple_end (s := { s with heap := ha }) hh (a1.extBut hsa.extBut D.i1z) (t1.extBut hsa.extBut D.l1z) ex fun hb e hsb he => ?_))))
  obtain ⟨o, ho, hc⟩ := he
  refine wpAny_bind (wpAny_isInstance (T := "StopIteration") (b := true) ⟨o, ho, hc⟩ isSubtype_stop ?_)
  exact wpAny_pure (q hb fun b o n1 n2 _ e => hsb b o n2 (hsa.extBut b o n1 e))
end
/-! ### a zip as a source of pairs for a list S that is being made -/
structure PSrc (prog : Program) (w : World) (z : Addr) (wr : List Addr) (n : Nat) (pr : Nat → Value × Value) (St : Nat → Addr → Heap → Prop) : Prop where
  type : ∀ i S (s : Shared), St i S s.heap → s.TypeIs (.ref z) "zip"
  self : ∀ (A : Around) (E : Value → Shared → Prop) i S (s : Shared) (Q : Value → Shared → Prop), St i S s.heap → Q (.ref z) s → wpAny (model prog w) A (pyIter (.ref z)) Q E s
  keep : ∀ i S h h', St i S h → (∀ b o, b ≠ S → h.get? b = some o → h'.get? b = some o) → St i S h'
  item : ∀ (A : Around) (E : Value → Shared → Prop) i S (s : Shared) (Q : Option Value → Shared → Prop), i < n → S < s.heap.objs.size → St i S s.heap →
    (∀ h', St (i + 1) S h' → h'.get? s.heap.objs.size = some { cls := .type "tuple", data := .seq #[(pr i).1, (pr i).2] } → h'.objs.size = s.heap.objs.size + 1 → (∀ b o, b ∉ wr → s.heap.get? b = some o → h'.get? b = some o) → Q (some (.ref s.heap.objs.size)) { s with heap := h' }) →
    wpAny (model prog w) A (pyNext (.ref z)) Q E s
  done : ∀ (A : Around) (E : Value → Shared → Prop) S (s : Shared) (Q : Option Value → Shared → Prop), A.handled = none → St n S s.heap → (∀ h', (∀ b o, b ∉ wr → s.heap.get? b = some o → h'.get? b = some o) → Q none { s with heap := h' }) →
    wpAny (model prog w) A (pyNext (.ref z)) Q E s
/-- the pairs that are out -/
structure Outs (pr : Nat → Value × Value) (lo : Addr) (h : Heap) (as : List Addr) : Prop where
  rise : as.Pairwise (· < ·)
  above : ∀ a ∈ as, lo ≤ a
  pairs : ∀ (j : Nat) (a : Addr), as[j]? = some a → h.get? a = some { cls := .type "tuple", data := .seq #[(pr j).1, (pr j).2] }
section
variable {prog : Program} {w : World} {A : Around} {E : Value → Shared → Prop} {s : Shared} {R : Result → Shared → Prop} {z : Addr} {wr : List Addr} {n : Nat} {pr : Nat → Value × Value} {St : Nat → Addr → Heap → Prop}
theorem Outs.lt {lo : Addr} {h : Heap} {as : List Addr} (g : Outs pr lo h as) {a : Addr} (ha : a ∈ as) : a < h.objs.size := by
  obtain ⟨j, hj⟩ := List.mem_iff_getElem?.mp ha
  exact Heap.lt_size (g.pairs j a hj)
theorem zip_loop (W : PSrc prog w z wr n pr St) {S lo : Addr} (hh : A.handled = none) (wlo : ∀ b ∈ wr, b < lo) (Slo : S < lo) (Sw : S ∉ wr) (hn : n ≤ sizeLine) (res : Value) {h0 : Heap}
    (fin : ∀ h' tk acc c as, (∀ b o, b ≠ S → b ∉ wr → h0.get? b = some o → h'.get? b = some o) → h'.get? S = some { cls := .type "list", dict := none, data := .seq acc c, slots := #[] } → as.length = n → Outs pr lo h' as → acc.toList = as.map Value.ref →
      R (.ok (.ret res)) { s with heap := h', toks := tk }) :
    ∀ (m i : Nat) (h : Heap) (tk c : Nat) (acc : Array Value) (as : List Addr), n - i = m → i ≤ n → St i S h → (∀ b o, b ≠ S → b ∉ wr → h0.get? b = some o → h.get? b = some o) → h.get? S = some { cls := .type "list", dict := none, data := .seq acc c, slots := #[] } →
      acc.toList = as.map Value.ref → as.length = i → Outs pr lo h as → lo ≤ h.objs.size → codeAny (model prog w) A (.builtin "list.extend.loop" ⟨[.ref S, .ref z, res], []⟩) R { s with heap := h, toks := tk } := by
  intro m
  induction m with
  | zero =>
    intro i h tk c acc as e1 e2 st kp hS ha hl g hlo
    have ein : i = n := by omega
    subst ein
    refine codeAny_builtin PySem.F.entry_extend_loop ?_
    rw [Around.under_plainId PySem.F.plain_extend_loop _]
    show wpAny _ A.in1 (pyNext (.ref z) >>= _) _ _ _
    refine wpAny_bind (W.done A.in1 _ S { s with heap := h, toks := tk } _ hh st fun h' k => wpAny_pure ?_)
    exact fin h' tk acc c as (fun b o n1 n2 e => k b o n2 (kp b o n1 n2 e)) (k S _ Sw hS) hl ⟨g.rise, g.above, fun j a hj => k a _ (fun q => absurd (wlo a q) (Nat.not_lt.mpr (g.above a (List.mem_of_getElem? hj)))) (g.pairs j a hj)⟩ ha
  | succ m ih =>
    intro i h tk c acc as e1 e2 st kp hS ha hl g hlo
    have lt : i < n := by omega
    have sz : acc.size = i := by rw [← Array.length_toList, ha, List.length_map, hl]
    refine codeAny_builtin PySem.F.entry_extend_loop ?_
    rw [Around.under_plainId PySem.F.plain_extend_loop _]
    show wpAny _ A.in1 (pyNext (.ref z) >>= _) _ _ _
    have Slt : S < h.objs.size := Heap.lt_size hS
    refine wpAny_bind (W.item A.in1 _ i S { s with heap := h, toks := tk } _ lt Slt st fun h' st' tup one k => ?_)
    have hS' : h'.get? S = some { cls := .type "list", dict := none, data := .seq acc c, slots := #[] } := k S _ Sw hS
    have tup' : h'.get? h.objs.size = some { cls := .type "tuple", data := .seq #[(pr i).1, (pr i).2] } := tup
    have one' : h'.objs.size = h.objs.size + 1 := one
    have nS : h.objs.size ≠ S := Nat.ne_of_gt Slt
    have off : ∀ b o, b ≠ S → h'.get? b = some o → (h'.update S (Obj.mapSeq (·.push (Value.ref h.objs.size)))).get? b = some o := fun b o nb e => (Heap.get?_update_other _ _ (Ne.symm nb)).trans e
    show wpAny _ A.in1 (updateSeq S (·.push (Value.ref h.objs.size)) >>= _) _ _ _
    refine wpAny_bind ?_
    refine wpAny_updateSeq hS' rfl (wpAny_pure ⟨plainId_quiet PySem.F.plain_extend_loop _, ?_⟩) (by rw [sz]; omega) (by show (acc.push (Value.ref h.objs.size)).size ≤ sizeLine + 1; rw [Array.size_push, sz]; omega)
    refine ih (i + 1) _ tk _ (acc.push (Value.ref h.objs.size)) (as ++ [h.objs.size]) (by omega) lt (W.keep _ _ _ _ st' off) (fun b o n1 n2 e => off b o n1 (k b o n2 (kp b o n1 n2 e))) (Heap.get?_update_self _ hS' rfl)
      (by rw [Array.toList_push, ha, List.map_append]; rfl) (by rw [List.length_append, hl]; rfl) ⟨?_, ?_, ?_⟩ ?_
    · refine List.pairwise_append.mpr ⟨g.rise, List.pairwise_singleton _ _, ?_⟩
      intro a q b q'
      obtain rfl := List.mem_singleton.mp q'
      exact g.lt q
    · intro a q
      rcases List.mem_append.mp q with q | q
      · exact g.above a q
      · obtain rfl := List.mem_singleton.mp q
        exact hlo
    · intro j b hj
      by_cases jl : j < as.length
      · rw [List.getElem?_append_left jl] at hj
        have ab := g.above b (List.mem_of_getElem? hj)
        exact off b _ (Nat.ne_of_gt (Nat.lt_of_lt_of_le Slo ab)) (k b _ (fun q => absurd (wlo b q) (Nat.not_lt.mpr ab)) (g.pairs j b hj))
      · rw [List.getElem?_append_right (by omega)] at hj
        have j0 : j - as.length = 0 := by
          cases q : j - as.length with
          | zero => rfl
          | succ r => rw [q] at hj; simp at hj
        have ej : j = i := by omega
        rw [j0] at hj
        obtain rfl : h.objs.size = b := Option.some.inj hj
        rw [ej]
        exact off _ _ nS tup'
    · have e : (h'.update S (Obj.mapSeq (·.push (Value.ref h.objs.size)))).get? h.objs.size = _ := off _ _ nS tup'
      exact Nat.le_trans hlo (Nat.le_of_lt (Heap.lt_size e))
theorem nolen_zip : typeLookup (.type "zip") "__len__" = pure none := by rw [typeLookup_type, builtinLookup_eq_fast]; kernel_rfl
theorem nohint_zip : typeLookup (.type "zip") "__length_hint__" = pure none := by rw [typeLookup_type, builtinLookup_eq_fast]; kernel_rfl
/-- the list's end behind the call -/
def ListOut (n : Nat) (pr : Nat → Value × Value) (wr : List Addr) (lo : Addr) (s : Shared) (Q : Value → Shared → Prop) : Prop :=
  ∀ h' tk acc c as, (∀ b o, b ∉ wr → s.heap.get? b = some o → h'.get? b = some o) → h'.get? s.heap.objs.size = some { cls := .type "list", dict := none, data := .seq acc c, slots := #[] } → as.length = n → Outs pr lo h' as → acc.toList = as.map Value.ref →
    Q (.ref s.heap.objs.size) { s with heap := h', toks := tk }
theorem call_list_zip {Q : Value → Shared → Prop} (W : PSrc prog w z wr n pr St) (hh : A.handled = none) (st : ∀ h', (∀ b o, s.heap.get? b = some o → h'.get? b = some o) → St 0 s.heap.objs.size h') (wlt : ∀ b ∈ wr, b < s.heap.objs.size) (zlt : z < s.heap.objs.size) (hn : n ≤ sizeLine)
    (q : ListOut n pr wr (s.heap.objs.size + 1) s Q) : wpAny (model prog w) A (call (.type "list") [.ref z]) Q E s := by
  refine callType_codes (Q₁ := fun obj s' => obj = .ref s.heap.objs.size ∧ s' = { s with heap := s.heap.push { cls := .type "list", data := .seq #[] } }) PySem.F.called_list (PySem.F.typeCall_list_1 _) PySem.F.entry_list_init (code_list_new _ ⟨rfl, rfl⟩) ?_
  rintro obj s' ⟨rfl, rfl⟩
  have at0 : (s.heap.push { cls := .type "list", data := .seq #[] }).get? s.heap.objs.size = some { cls := .type "list", data := .seq #[] } := Heap.get?_push_size _ rfl
  refine ⟨⟨_, at0, rfl⟩, PySem.F.args_list_init_2 _ _, ?_⟩
  show wpAny _ A.in1.in1 (do let old ← Builtin.List.listItems (.ref s.heap.objs.size); Builtin.List.listUpdate (.ref s.heap.objs.size) (fun _ => #[]); letGo old.toList.reverse; Builtin.List.listExtendWith (.ref s.heap.objs.size) (.ref z) .none) _ _ _
  refine wpAny_bind ?_
  unfold Builtin.List.listItems
  refine wpAny_bind (wpAny_seqItems at0 rfl (wpAny_pure ?_))
  show wpAny _ A.in1.in1 (updateSeq s.heap.objs.size (fun _ => #[]) >>= fun _ => letGo (#[] : Array Value).toList.reverse >>= fun _ => Builtin.List.listExtendWith (.ref s.heap.objs.size) (.ref z) .none) _ _ _
  refine wpAny_bind (wpAny_updateSeq at0 rfl (wpAny_bind (wpAny_letGo ?_)))
  have at1 := Heap.get?_update_self (Obj.mapSeq (fun _ => (#[] : Array Value))) at0 rfl
  have k1 : ∀ b o, s.heap.get? b = some o → ((s.heap.push { cls := .type "list", data := .seq #[] }).update s.heap.objs.size (Obj.mapSeq (fun _ => (#[] : Array Value)))).get? b = some o :=
    fun b o e => (Heap.get?_update_other _ _ (Nat.ne_of_gt (Heap.lt_size e))).trans (Heap.get?_push_of_some _ e)
  have st1 := st _ k1
  have zz : (Value.type "zip" == Value.type "list") = false := by decide
  have zt : (Value.type "zip" == Value.type "tuple") = false := by decide
  have nsame : Builtin.List.listSameRef (.ref s.heap.objs.size) (.ref z) = false := by simp [Builtin.List.listSameRef, Nat.ne_of_gt zlt]
  unfold Builtin.List.listExtendWith
  refine wpAny_bind (wpAny_typeOf (W.type 0 _ { s with heap := (s.heap.push { cls := .type "list", data := .seq #[] }).update s.heap.objs.size (Obj.mapSeq (fun _ => (#[] : Array Value))) } st1) ?_)
  simp only [nsame, zz, zt, Bool.or_false, Bool.false_eq_true, if_false]
  refine wpAny_bind (W.self _ _ 0 _ _ _ st1 (wpAny_bind (wpAny_holding ?_)))
  have isz := W.type 0 _ { s with heap := (s.heap.push { cls := .type "list", data := .seq #[] }).update s.heap.objs.size (Obj.mapSeq (fun _ => (#[] : Array Value))) } st1
  unfold Builtin.List.listLengthHint
  refine wpAny_bind (wpAny_specialOf isz nolen_zip ?_)
  show wpAny _ A.in1.in1 (specialOf (Value.ref z) (Str.ofString "__length_hint__") >>= _) _ _ _
  refine wpAny_bind (wpAny_specialOf isz nohint_zip (wpAny_pure ?_))
  show wpAny _ A.in1.in1 (rule "list.extend.makes-room" >>= fun _ => Builtin.List.listTouch (.ref s.heap.objs.size) >>= fun _ => again (.builtin "list.extend.loop" ⟨[.ref s.heap.objs.size, .ref z, .none], []⟩)) _ _ _
  refine wpAny_bind (wpAny_rule (wpAny_bind ?_))
  show wpAny _ A.in1.in1 (updateSeq s.heap.objs.size (·.push .none) >>= fun _ => updateSeq s.heap.objs.size (·.pop)) _ _ _
  refine wpAny_bind (wpAny_updateSeq at1 rfl ?_)
  have at2 := Heap.get?_update_self (Obj.mapSeq (·.push Value.none)) at1 rfl
  refine wpAny_updateSeq (hz := by seq_fits) at2 rfl ?_
  have at3 := Heap.get?_update_self (Obj.mapSeq (·.pop)) at2 rfl
  have k3 : ∀ b o, s.heap.get? b = some o → ((((s.heap.push { cls := .type "list", data := .seq #[] }).update s.heap.objs.size (Obj.mapSeq (fun _ => (#[] : Array Value)))).update s.heap.objs.size (Obj.mapSeq (·.push Value.none))).update s.heap.objs.size (Obj.mapSeq (·.pop))).get? b = some o := by
    intro b o e
    have nb := Nat.ne_of_gt (Heap.lt_size e)
    exact (Heap.get?_update_other _ _ nb).trans ((Heap.get?_update_other _ _ nb).trans (k1 b o e))
  have big : s.heap.objs.size + 1 ≤ ((((s.heap.push { cls := .type "list", data := .seq #[] }).update s.heap.objs.size (Obj.mapSeq (fun _ => (#[] : Array Value)))).update s.heap.objs.size (Obj.mapSeq (·.push Value.none))).update s.heap.objs.size (Obj.mapSeq (·.pop))).objs.size := Heap.lt_size at3
  refine wpAny_pure ⟨plainId_quiet F.plain_extend_loop _, ?_⟩
  refine zip_loop (s := s) (A := A.in1) W (S := s.heap.objs.size) (lo := s.heap.objs.size + 1) (h0 := s.heap) hh (fun b q => Nat.lt_succ_of_lt (wlt b q)) (Nat.lt_succ_self _) (fun q => absurd (wlt _ q) (Nat.lt_irrefl _)) hn .none ?_ n 0 _ s.toks _ #[] [] rfl (Nat.zero_le _) (st _ k3) (fun b o _ _ e => k3 b o e) at3 rfl rfl ⟨List.Pairwise.nil, fun _ q => (nomatch q), fun j a q => by simp at q⟩ big
  intro h' tk acc c as kp hS hl g ha
  exact ⟨rfl, q h' tk acc c as (fun b o n2 e => kp b o (Nat.ne_of_lt (Heap.lt_size e)) n2 e) hS hl g ha⟩
end

theorem psrc_lists {prog : Program} {w : World} {z TI TO i1 i2 l1 l2 : Addr} (D : ZipApart z TI TO i1 i2 l1 l2) (xs ys : Array Value) (hn : xs.size = ys.size) : PSrc prog w z [z, TO, i1, i2] xs.size (fun i => (xs.getD i .none, ys.getD i .none))
    (fun i S h => IsPair h TI (.ref i1) (.ref i2) ∧ h.IsListIter i1 l1 i ∧ h.IsListIter i2 l2 i ∧ h.IsList l1 xs ∧ h.IsList l2 ys ∧ (S ≠ z ∧ S ≠ TI ∧ S ≠ TO ∧ S ≠ i1 ∧ S ≠ i2 ∧ S ≠ l1 ∧ S ≠ l2) ∧
      ((IsZip h z TI TO .none ∧ ∃ a b, IsPair h TO a b) ∨ ∃ T f oT, IsZipHeld h z TI TO T f ∧ h.get? T = some oT ∧ T ≠ z ∧ T ≠ i1 ∧ T ≠ i2 ∧ T ≠ S)) where
  type := by
    rintro i S s ⟨_, _, _, _, _, _, ⟨hz, _⟩ | ⟨T, f, oT, hz, _⟩⟩
    · exact ⟨_, hz, rfl⟩
    · exact ⟨_, hz, rfl⟩
  self := by
    rintro A E i S s Q ⟨_, _, _, _, _, _, ⟨hz, _⟩ | ⟨T, f, oT, hz, _⟩⟩ q
    · exact wpAny_pyIter_zip hz q
    · have isz : s.TypeIs (.ref z) "zip" := ⟨_, hz, rfl⟩
      exact wpAny_pyIter_slot isz F.slot_zip_iter (wpAny_call_entry F.slot_zip_iter isz F.entry_zip_iter (wpAny_pure ⟨_, rfl, "zip", _, isz, F.slot_zip_next.lookup, q⟩) (F.args_zip_iter_1 _))
  keep := by
    rintro i S h h' ⟨p, a1, a2, t1, t2, ⟨n1, n2, n3, n4, n5, n6, n7⟩, hz⟩ k
    refine ⟨k _ _ n2.symm p, a1.at fun o e => k _ o n4.symm e, a2.at fun o e => k _ o n5.symm e, t1.at fun o e => k _ o n6.symm e, t2.at fun o e => k _ o n7.symm e, ⟨n1, n2, n3, n4, n5, n6, n7⟩, ?_⟩
    rcases hz with ⟨hz, a, b, ho⟩ | ⟨T, f, oT, hz, hT, r1, r2, r3, r4⟩
    · exact .inl ⟨k _ _ n1.symm hz, a, b, k _ _ n3.symm ho⟩
    · exact .inr ⟨T, f, oT, k _ _ n1.symm hz, k _ _ r4 hT, r1, r2, r3, r4⟩
  item := by
    rintro A E i S s Q lt Slt ⟨p, a1, a2, t1, t2, ns, hz⟩ q
    have ex : xs[i]? = some (xs.getD i .none) := by simp [Array.getD, lt]
    have ey : ys[i]? = some (ys.getD i .none) := by
      have : i < ys.size := by omega
      simp [Array.getD, this]
    have new : ∀ {b o}, s.heap.get? b = some o → s.heap.objs.size ≠ b := fun e => Nat.ne_of_gt (Heap.lt_size e)
    have ni1 : s.heap.objs.size ≠ i1 := let ⟨_, e, _⟩ := a1; new e
    have ni2 : s.heap.objs.size ≠ i2 := let ⟨_, e, _⟩ := a2; new e
    rcases hz with ⟨hz, a, b, ho⟩ | ⟨T, f, oT, hz, hT, r1, r2, r3, r4⟩
    · refine wpAny_pyNext_zip_item D hz p ho a1 a2 t1 t2 ex ey fun h' c1 c2 c3 c4 c5 c6 k => ?_
      refine q h' ⟨k _ _ D.TIz D.TITO D.TIi1 D.TIi2 p, c3, c4, t1.at fun o e => k _ o D.l1z D.l1TO D.l1i1 D.l1i2 e, t2.at fun o e => k _ o D.l2z D.l2TO D.l2i1 D.l2i2 e, ns, .inr ⟨s.heap.objs.size, false, _, c1, c5, new hz, ni1, ni2, Nat.ne_of_gt Slt⟩⟩ c5 c6 fun b o nb e => ?_
      simp only [List.mem_cons, List.not_mem_nil, or_false, not_or] at nb
      exact k b o nb.1 nb.2.1 nb.2.2.1 nb.2.2.2 e
    · refine wpAny_pyNext_zip_item_held D hz hT p a1 a2 t1 t2 ex ey fun h' c1 c3 c4 c5 c6 k => ?_
      refine q h' ⟨k _ _ D.TIz D.TIi1 D.TIi2 p, c3, c4, t1.at fun o e => k _ o D.l1z D.l1i1 D.l1i2 e, t2.at fun o e => k _ o D.l2z D.l2i1 D.l2i2 e, ns, .inr ⟨T, true, oT, c1, k _ _ r1 r2 r3 hT, r1, r2, r3, r4⟩⟩ c5 c6 fun b o nb e => ?_
      simp only [List.mem_cons, List.not_mem_nil, or_false, not_or] at nb
      exact k b o nb.1 nb.2.2.1 nb.2.2.2 e
  done := by
    rintro A E S s Q hh ⟨p, a1, a2, t1, t2, ns, hz⟩ q
    have ex : xs[xs.size]? = none := by simp
    rcases hz with ⟨hz, a, b, ho⟩ | ⟨T, f, oT, hz, hT, r1, r2, r3, r4⟩
    · refine wpAny_pyNext_zip_end hh D hz p ho a1 a2 t1 t2 (.inl ex) fun h' k => q h' fun b o nb e => ?_
      simp only [List.mem_cons, List.not_mem_nil, or_false, not_or] at nb
      exact k b o nb.1 nb.2.1 nb.2.2.1 nb.2.2.2 e
    · refine wpAny_pyNext_zip_end_held hh D hz hT p a1 a2 t1 t2 (.inl ex) fun h' k => q h' fun b o nb e => ?_
      simp only [List.mem_cons, List.not_mem_nil, or_false, not_or] at nb
      exact k b o nb.1 nb.2.2.1 nb.2.2.2 e

theorem psrc_tuples {prog : Program} {w : World} {z TI TO i1 i2 l1 l2 : Addr} (D : ZipApart z TI TO i1 i2 l1 l2) (xs ys : Array Value) (hn : xs.size = ys.size) : PSrc prog w z [z, TO, i1, i2] xs.size (fun i => (xs.getD i .none, ys.getD i .none))
    (fun i S h => IsPair h TI (.ref i1) (.ref i2) ∧ h.IsTupleIter i1 l1 i ∧ h.IsTupleIter i2 l2 i ∧ h.IsTuple l1 xs ∧ h.IsTuple l2 ys ∧ (S ≠ z ∧ S ≠ TI ∧ S ≠ TO ∧ S ≠ i1 ∧ S ≠ i2 ∧ S ≠ l1 ∧ S ≠ l2) ∧
      ((IsZip h z TI TO .none ∧ ∃ a b, IsPair h TO a b) ∨ ∃ T f oT, IsZipHeld h z TI TO T f ∧ h.get? T = some oT ∧ T ≠ z ∧ T ≠ i1 ∧ T ≠ i2 ∧ T ≠ S)) where
  type := by
    rintro i S s ⟨_, _, _, _, _, _, ⟨hz, _⟩ | ⟨T, f, oT, hz, _⟩⟩
    · exact ⟨_, hz, rfl⟩
    · exact ⟨_, hz, rfl⟩
  self := by
    rintro A E i S s Q ⟨_, _, _, _, _, _, ⟨hz, _⟩ | ⟨T, f, oT, hz, _⟩⟩ q
    · exact wpAny_pyIter_zip hz q
    · have isz : s.TypeIs (.ref z) "zip" := ⟨_, hz, rfl⟩
      exact wpAny_pyIter_slot isz F.slot_zip_iter (wpAny_call_entry F.slot_zip_iter isz F.entry_zip_iter (wpAny_pure ⟨_, rfl, "zip", _, isz, F.slot_zip_next.lookup, q⟩) (F.args_zip_iter_1 _))
  keep := by
    rintro i S h h' ⟨p, a1, a2, t1, t2, ⟨n1, n2, n3, n4, n5, n6, n7⟩, hz⟩ k
    refine ⟨k _ _ n2.symm p, a1.at fun o e => k _ o n4.symm e, a2.at fun o e => k _ o n5.symm e, t1.at fun o e => k _ o n6.symm e, t2.at fun o e => k _ o n7.symm e, ⟨n1, n2, n3, n4, n5, n6, n7⟩, ?_⟩
    rcases hz with ⟨hz, a, b, ho⟩ | ⟨T, f, oT, hz, hT, r1, r2, r3, r4⟩
    · exact .inl ⟨k _ _ n1.symm hz, a, b, k _ _ n3.symm ho⟩
    · exact .inr ⟨T, f, oT, k _ _ n1.symm hz, k _ _ r4 hT, r1, r2, r3, r4⟩
  item := by
    rintro A E i S s Q lt Slt ⟨p, a1, a2, t1, t2, ns, hz⟩ q
    have ex : xs[i]? = some (xs.getD i .none) := by simp [Array.getD, lt]
    have ey : ys[i]? = some (ys.getD i .none) := by
      have : i < ys.size := by omega
      simp [Array.getD, this]
    have new : ∀ {b o}, s.heap.get? b = some o → s.heap.objs.size ≠ b := fun e => Nat.ne_of_gt (Heap.lt_size e)
    have ni1 : s.heap.objs.size ≠ i1 := let ⟨_, e, _⟩ := a1; new e
    have ni2 : s.heap.objs.size ≠ i2 := let ⟨_, e, _⟩ := a2; new e
    rcases hz with ⟨hz, a, b, ho⟩ | ⟨T, f, oT, hz, hT, r1, r2, r3, r4⟩
    · refine RZ.pyNext_zipT_item D hz p ho a1 a2 t1 t2 ex ey fun h' c1 c2 c3 c4 c5 c6 k => ?_
      refine q h' ⟨k _ _ D.TIz D.TITO D.TIi1 D.TIi2 p, c3, c4, t1.at fun o e => k _ o D.l1z D.l1TO D.l1i1 D.l1i2 e, t2.at fun o e => k _ o D.l2z D.l2TO D.l2i1 D.l2i2 e, ns, .inr ⟨s.heap.objs.size, false, _, c1, c5, new hz, ni1, ni2, Nat.ne_of_gt Slt⟩⟩ c5 c6 fun b o nb e => ?_
      simp only [List.mem_cons, List.not_mem_nil, or_false, not_or] at nb
      exact k b o nb.1 nb.2.1 nb.2.2.1 nb.2.2.2 e
    · refine zt_item D hz hT p a1 a2 t1 t2 ex ey fun h' c1 c3 c4 c5 c6 k => ?_
      refine q h' ⟨k _ _ D.TIz D.TIi1 D.TIi2 p, c3, c4, t1.at fun o e => k _ o D.l1z D.l1i1 D.l1i2 e, t2.at fun o e => k _ o D.l2z D.l2i1 D.l2i2 e, ns, .inr ⟨T, true, oT, c1, k _ _ r1 r2 r3 hT, r1, r2, r3, r4⟩⟩ c5 c6 fun b o nb e => ?_
      simp only [List.mem_cons, List.not_mem_nil, or_false, not_or] at nb
      exact k b o nb.1 nb.2.2.1 nb.2.2.2 e
  done := by
    rintro A E S s Q hh ⟨p, a1, a2, t1, t2, ns, hz⟩ q
    have ex : xs[xs.size]? = none := by simp
    rcases hz with ⟨hz, a, b, ho⟩ | ⟨T, f, oT, hz, hT, r1, r2, r3, r4⟩
    · refine RZ.pyNext_zipT_end hh D hz p ho a1 a2 t1 t2 (.inl ex) fun h' k => q h' fun b o nb e => ?_
      simp only [List.mem_cons, List.not_mem_nil, or_false, not_or] at nb
      exact k b o nb.1 nb.2.1 nb.2.2.1 nb.2.2.2 e
    · refine zt_end hh D hz hT p a1 t1 ex fun h' k => q h' fun b o nb e => ?_
      simp only [List.mem_cons, List.not_mem_nil, or_false, not_or] at nb
      exact k b o nb.1 nb.2.2.1 nb.2.2.2 e

/-! ### the rule -/
def putP : Hp → List Addr → List (V × V) → Hp
  | H, a :: as, p :: ps => putP (upd H a (.tup [p.1, p.2])) as ps
  | H, _, _ => H
theorem putP_off {b : Addr} : ∀ (as : List Addr) (ps : List (V × V)) (H : Hp), b ∉ as → putP H as ps b = H b
  | [], _, _, _ => rfl
  | _ :: _, [], _, _ => rfl
  | a :: as, p :: ps, H, h => by
    have h1 : b ∉ as := fun q => h (List.mem_cons_of_mem _ q)
    have h2 : b ≠ a := fun q => h (by rw [q]; exact List.mem_cons_self)
    show putP (upd H a (.tup [p.1, p.2])) as ps b = H b
    rw [putP_off as ps _ h1, upd_ne h2]
theorem putP_at : ∀ (as : List Addr) (ps : List (V × V)) (H : Hp), as.length = ps.length → as.Nodup → Paired (fun (t : Addr) (p : V × V) => putP H as ps t = some (.tup [p.1, p.2])) as ps
  | [], [], _, _, _ => .nil
  | [], _ :: _, _, h, _ => by cases h
  | _ :: _, [], _, h, _ => by cases h
  | a :: as, p :: ps, H, h, hn => by
    obtain ⟨n1, n2⟩ := List.nodup_cons.mp hn
    refine .cons ?_ (putP_at as ps (upd H a (.tup [p.1, p.2])) (Nat.succ.inj h) n2)
    show putP (upd H a (.tup [p.1, p.2])) as ps a = some (.tup [p.1, p.2])
    rw [putP_off as ps _ n1, upd_same]
/-- behind list(zip(..)): a new list of new pairs -/
def ZipEnd (H : Hp) (Q : VK) (xs ys : List V) : Prop := ∀ (H' : Hp) (l : Addr) (ts : List Addr), Same H H' → H l = none → H' l = some (.lst (ts.map V.ref)) → Paired (fun (t : Addr) (p : V × V) => H' t = some (.tup [p.1, p.2])) ts (xs.zip ys) → Q (.ref l) H'
section
variable {X : Cx} {pins : List (Addr × Obj)} {σ : L2.St} {H : Hp} {s : Shared} {xs ys : List V} {us vs : List Value}
theorem na_not {L : Nat} (h : L + 1 ≤ L) : False := by omega
theorem na_le {n L t : Nat} (h : n ≤ L) (g : L + 1 ≤ t) : n ≤ t := by omega
theorem na_ne {b n L : Nat} (h : b < n) (g : n ≤ L) : b ≠ L := by omega
theorem na_out {b n L : Nat} (h : b < n) (g : n ≤ L) (q : L + 1 ≤ b) : False := by omega
theorem na_ns {n a b : Nat} (la : a < n) (lb : b < n) : n + 5 ≠ n + 4 ∧ n + 5 ≠ n + 2 ∧ n + 5 ≠ n + 3 ∧ n + 5 ≠ n ∧ n + 5 ≠ n + 1 ∧ n + 5 ≠ a ∧ n + 5 ≠ b := by omega
theorem na_wr {n b : Nat} (h : b = n + 4 ∨ b = n + 3 ∨ b = n ∨ b = n + 1) : b < n + 5 := by omega
theorem na_old {n b : Nat} (h : b < n) (q : b = n + 4 ∨ b = n + 3 ∨ b = n ∨ b = n + 1) : False := by omega
theorem getD_of {us : List Value} {j : Nat} {u : Value} (h : us[j]? = some u) : us.toArray.getD j .none = u := by
  obtain ⟨h1, h2⟩ := List.getElem?_eq_some_iff.mp h
  simp [Array.getD, h1, h2]
theorem zip_laid (I : Inv X pins σ H s) (rx : Vals xs us) (ry : Vals ys vs) {h2 : Heap} {tk c L : Nat} {acc : Array Value} {as : List Addr} (k : ∀ b o, s.heap.get? b = some o → h2.get? b = some o) (hL : s.heap.objs.size ≤ L)
    (hS : h2.get? L = some { cls := .type "list", dict := none, data := .seq acc c, slots := #[] }) (hn : as.length = (xs.zip ys).length) (hz : as.length ≤ sizeLine) (g : Outs (fun i => (us.toArray.getD i .none, vs.toArray.getD i .none)) (L + 1) h2 as) (ha : acc.toList = as.map Value.ref) :
    ∃ H' : Hp, Same H H' ∧ H L = none ∧ H' L = some (.lst (as.map V.ref)) ∧ Paired (fun (t : Addr) (p : V × V) => H' t = some (.tup [p.1, p.2])) as (xs.zip ys) ∧ Inv X pins σ H' { s with heap := h2, toks := tk } := by
  have nL : L ∉ as := fun q => na_not (g.above L q)
  have nd : as.Nodup := List.Pairwise.imp (fun {a b} (h : a < b) => Nat.ne_of_lt h) g.rise
  have newT : ∀ t ∈ as, H t = none := fun t q => I.hok.fresh (na_le hL (g.above t q))
  have newL : H L = none := I.hok.fresh hL
  have tups := putP_at as (xs.zip ys) (upd H L (.lst (as.map V.ref))) hn nd
  have off : ∀ b, b ∉ as → b ≠ L → putP (upd H L (.lst (as.map V.ref))) as (xs.zip ys) b = H b := fun b q1 q2 => by rw [putP_off as _ _ q1, upd_ne q2]
  have low : ∀ b o, s.heap.get? b = some o → b ∉ as ∧ b ≠ L := fun b o e => by
    have lt := Heap.lt_size e
    exact ⟨fun q => na_out lt hL (g.above b q), na_ne lt hL⟩
  have kp : Same H (putP (upd H L (.lst (as.map V.ref))) as (xs.zip ys)) := fun b u e => by
    rw [off b (fun q => by rw [newT b q] at e; cases e) (fun q => by rw [q, newL] at e; cases e)]
    exact e
  have atL : putP (upd H L (.lst (as.map V.ref))) as (xs.zip ys) L = some (.lst (as.map V.ref)) := by rw [putP_off as _ _ nL, upd_same]
  refine ⟨_, kp, newL, atL, tups, ?_⟩
  have un : Un (frs X.stack) [] H (putP (upd H L (.lst (as.map V.ref))) as (xs.zip ys)) s.heap h2 := by
    refine ⟨fun b o e _ _ _ => k b o e, fun b o e _ _ _ => ⟨o.slots, k b o e⟩, fun b o e n _ => ?_, fun b o e _ => ⟨o, k b o e⟩, fun b zs e => kp b _ e, fun b o u e => kp b _ e, fun b ps e => ⟨#[], ?_⟩⟩
    · obtain ⟨q1, q2⟩ := low b o e
      rw [off b q1 q2]
      exact n
    · rw [kp b _ e]
      simp
  refine I.call' (ch := []) rfl un (fun b u e => ?_) I.bare fun b q => nomatch q
  by_cases hb : b ∈ as
  · obtain ⟨j, p, e1, e2, e3⟩ := LiI.paired_ix tups hb
    rw [e3] at e
    cases e
    obtain ⟨x1, y1⟩ := List.getElem?_zip_eq_some.mp e2
    obtain ⟨u, eu, ru⟩ := Vals.get rx x1
    obtain ⟨v, ev, rv⟩ := Vals.get ry y1
    have t := g.pairs j b e1
    rw [getD_of eu, getD_of ev] at t
    exact ⟨by show 2 ≤ sizeLine; decide, [u, v], .cons ru (.cons rv .nil), ⟨_, t, rfl, _, rfl⟩⟩
  · by_cases hb2 : b = L
    · rw [hb2] at e ⊢
      rw [atL] at e
      cases e
      refine ⟨by rw [List.length_map]; exact hz, acc.toList, c, by rw [ha]; exact LiI.vals_refs as, ?_⟩
      rw [Array.toArray_toList]
      exact hS
    · rw [off b hb hb2] at e
      exact (I.hok b u e).stay (fun d w _ q => k d w q) (fun d q => kp d _ q) fun d zs q => kp d _ q
def tListZip (K : PySem.W.Frag) (ta : TA) : TE := fun σ H Q => ta σ H fun vs H1 => ∃ (a b : Addr) (xs ys : List V), vs = [.ref a, .ref b] ∧ ((SqL K H1 a xs ∧ SqL K H1 b ys) ∨ (SqT K H1 a xs ∧ SqT K H1 b ys)) ∧ xs.length = ys.length ∧ ZipEnd H1 Q xs ys
theorem pe_listZip {e e2 : Expr} {ta : TA} {p p2 pos pos2 : Pos} (hg : Gl X "list") (hm : X.mg "list" = none) (hgz : Gl X "zip") (hmz : X.mg "zip" = none) (hc : X.calm = true) (hp : PA X [e, e2] ta)
    (hs : starEach [.Call (.Name "zip" p2) [e, e2] [] pos2] X.env = (false, eval (.Call (.Name "zip" p2) [e, e2] [] pos2) X.env) :: starEach [] X.env := by rfl) (hpl : (backTo pos (starEach [] X.env)).any (·.1) = false := by rfl)
    (hs2 : starEach [e, e2] X.env = (false, eval e X.env) :: starEach [e2] X.env := by rfl) (hpl2 : (backTo pos2 (starEach [e2] X.env)).any (·.1) = false := by rfl) :
    PE X (.Call (.Name "list" p) [.Call (.Name "zip" p2) [e, e2] [] pos2] [] pos) (tListZip X.K ta) := by
  refine ⟨fun pins s σ H Q I h => ?_⟩
  refine Call_ (ld_blt I hg hm (show bootBuiltins "list" = some (Value.type "list") by decide +kernel) (PyProof.Rows.callWith_type1 ?_ hs hpl))
  rw [hs]
  show wpAny _ _ (spliced ((false, eval (.Call (.Name "zip" p2) [e, e2] [] pos2) X.env) :: backTo pos (starEach [] X.env))) _ _ s
  refine Calls.spliced_cons ?_
  refine Call_ (ld_blt I hgz hmz PyProof.Rows.boot_zip (PyProof.Rows.callWith_type1 (thn (hp.run pos2 pins s σ H _ I h) fun us s1 ⟨vs, H1, I1, r1, q1⟩ => ?_) hs2 hpl2))
  obtain ⟨a, b, xs, ys, ex, hq, hl, q⟩ := q1
  subst ex
  cases r1 with
  | cons r rr =>
    cases rr with
    | cons r' rr =>
      cases rr
      cases r
      cases r'
      rcases hq with ⟨hx, hy⟩ | ⟨hx, hy⟩
      · obtain ⟨ia, rv, p1, z1⟩ := I1.list hx
        obtain ⟨ib, rw', p3, _⟩ := I1.list hy
        have eq : ia.toArray.size = ib.toArray.size := by simp only [List.size_toArray]; rw [← rv.length, ← rw'.length]; exact hl
        refine call_zip_2 p1.isList p3.isList fun h' hz hTI hTO h1 h2 hsz hk => Calls.spliced_nil ?_
        refine call_list_zip (s := { s1 with heap := h' }) (psrc_lists (PySem.W.ktu_apart s1.heap.objs.size a b p1.lt p3.lt) ia.toArray ib.toArray eq) (I1.ok.hd hc) ?_ ?_ ?_ ?_ ?_
        · intro h2' k
          have la := p1.lt
          have lb := p3.lt
          refine ⟨k _ _ hTI, h1.at fun o e => k _ o e, h2.at fun o e => k _ o e, p1.isList.at fun o e => k _ o (hk _ o e), p3.isList.at fun o e => k _ o (hk _ o e), ?_, .inl ⟨k _ _ hz, _, _, k _ _ hTO⟩⟩
          show h'.objs.size ≠ _ ∧ h'.objs.size ≠ _ ∧ h'.objs.size ≠ _ ∧ h'.objs.size ≠ _ ∧ h'.objs.size ≠ _ ∧ h'.objs.size ≠ _ ∧ h'.objs.size ≠ _
          rw [hsz]
          exact na_ns la lb
        · intro b' hb'
          show b' < h'.objs.size
          rw [hsz]
          simp only [List.mem_cons, List.not_mem_nil, or_false] at hb'
          exact na_wr hb'
        · show s1.heap.objs.size + 4 < h'.objs.size
          rw [hsz]
          exact Nat.lt_succ_self _
        · rw [List.size_toArray, ← rv.length]
          exact z1
        · intro h3 tk acc c as kp hS hlen g ha
          have kk : ∀ b' o, s1.heap.get? b' = some o → h3.get? b' = some o := fun b' o e => kp b' o (fun z => by
            have := Heap.lt_size e
            simp only [List.mem_cons, List.not_mem_nil, or_false] at z
            exact na_old this z) (hk b' o e)
          have lz : (xs.zip ys).length = xs.length := by rw [List.length_zip]; omega
          have la : as.length = xs.length := by rw [hlen, List.size_toArray, ← rv.length]
          obtain ⟨H', c1, c2, c3, c4, J⟩ := zip_laid (tk := tk) I1 rv rw' kk (show s1.heap.objs.size ≤ h'.objs.size by rw [hsz]; exact Nat.le_add_right _ _) hS (by omega) (by omega) g ha
          exact ⟨.ref h'.objs.size, H', J, rfl, q H' _ as c1 c2 c3 c4⟩
      · obtain ⟨ia, rv, p1, z1⟩ := I1.tuple hx
        obtain ⟨ib, rw', p3, _⟩ := I1.tuple hy
        have eq : ia.toArray.size = ib.toArray.size := by simp only [List.size_toArray]; rw [← rv.length, ← rw'.length]; exact hl
        refine RZ.call_zipT p1 p3 fun h' hz hTI hTO h1 h2 hsz hk => Calls.spliced_nil ?_
        refine call_list_zip (s := { s1 with heap := h' }) (psrc_tuples (PySem.W.ktu_apart s1.heap.objs.size a b p1.lt p3.lt) ia.toArray ib.toArray eq) (I1.ok.hd hc) ?_ ?_ ?_ ?_ ?_
        · intro h2' k
          have la := p1.lt
          have lb := p3.lt
          refine ⟨k _ _ hTI, h1.at fun o e => k _ o e, h2.at fun o e => k _ o e, Heap.IsTuple.at p1 fun o e => k _ o (hk _ o e), Heap.IsTuple.at p3 fun o e => k _ o (hk _ o e), ?_, .inl ⟨k _ _ hz, _, _, k _ _ hTO⟩⟩
          show h'.objs.size ≠ _ ∧ h'.objs.size ≠ _ ∧ h'.objs.size ≠ _ ∧ h'.objs.size ≠ _ ∧ h'.objs.size ≠ _ ∧ h'.objs.size ≠ _ ∧ h'.objs.size ≠ _
          rw [hsz]
          exact na_ns la lb
        · intro b' hb'
          show b' < h'.objs.size
          rw [hsz]
          simp only [List.mem_cons, List.not_mem_nil, or_false] at hb'
          exact na_wr hb'
        · show s1.heap.objs.size + 4 < h'.objs.size
          rw [hsz]
          exact Nat.lt_succ_self _
        · rw [List.size_toArray, ← rv.length]
          exact z1
        · intro h3 tk acc c as kp hS hlen g ha
          have kk : ∀ b' o, s1.heap.get? b' = some o → h3.get? b' = some o := fun b' o e => kp b' o (fun z => by
            have := Heap.lt_size e
            simp only [List.mem_cons, List.not_mem_nil, or_false] at z
            exact na_old this z) (hk b' o e)
          have lz : (xs.zip ys).length = xs.length := by rw [List.length_zip]; omega
          have la : as.length = xs.length := by rw [hlen, List.size_toArray, ← rv.length]
          obtain ⟨H', c1, c2, c3, c4, J⟩ := zip_laid (tk := tk) I1 rv rw' kk (show s1.heap.objs.size ≤ h'.objs.size by rw [hsz]; exact Nat.le_add_right _ _) hS (by omega) (by omega) g ha
          exact ⟨.ref h'.objs.size, H', J, rfl, q H' _ as c1 c2 c3 c4⟩
end
end L3

/-! dicts of kinds that are equal -/
namespace L3
open PySem PySem.Spec PyProof.Rows L2
section
variable {X : Cx} {pins : List (Addr × Obj)} {σ : L2.St} {H : Hp} {s : Shared}
theorem opR_or {f : Value → Value → Sem Value} {r r' : R2} (h : OpR X f r) (h' : OpR X f r') : OpR X f (fun x y H Q => r x y H Q ∨ r' x y H Q) := by
  intro pins s σ H x y v u Q I rx ry q
  rcases q with q | q
  · exact h pins s σ H x y v u Q I rx ry q
  · exact h' pins s σ H x y v u Q I rx ry q
theorem kv_hits (I : Inv X pins σ H s) {A : Around} (hu : A.units + 64 < cLine) {ls : List (Key × V)} {b2 : By} {vb : List (Key × Value)} (rb : KV ls vb) (k2 : ByAt H ls b2) (f2 : ∀ q ∈ b2, q.2.fit 60) :
    ∀ {ks : List (Key × V)} {b1 : By} {va : List (Key × Value)}, KV ks va → ByAt H ks b1 → (∀ q ∈ b1, q.2.fit 60 ∧ lk b2 q.1 = some q.2) → PySem.W.KeqHits A s vb va true
  | _, _, _, .nil, .nil, _ => .nil
  | (key, v) :: ks, (x, k) :: b1, (key', u) :: va, .cons ⟨e1, r1⟩ t1, .cons ⟨e2, g⟩ t2, h => by
    obtain ⟨fk, el⟩ := h _ List.mem_cons_self
    have e1' : key = key' := e1
    have e2' : key = .inr x := e2
    subst e1' e2'
    rcases k2.get x with ⟨_, z⟩ | ⟨v2, k', e3, e4, g'⟩
    · rw [z] at el
      cases el
    · rw [e4] at el
      cases el
      have rr : RelO (some v2) (valueAt vb (.inr x)) := by
        rw [← e3]
        exact rb.val (.inr x)
      obtain ⟨y, hy, ry⟩ := rr.some_of
      obtain ⟨as, ra⟩ := Dp.reads I _ v u g.dp r1
      obtain ⟨bs, rb'⟩ := Dp.reads I _ v2 y g'.dp ry
      obtain ⟨l1, l2⟩ := Kd.lay fk
      have eq := SeqAt.eqAt_reads _ _ A s u y as bs ra rb' l1 l1 (by have : min k.dat.depth k.dat.depth = k.dat.depth := Nat.min_self _; omega)
      rw [Kd.eqv, decide_eq_true rfl] at eq
      exact PySem.W.KeqHits.hit hy eq (kv_hits I hu rb k2 f2 t1 t2 fun q hq => h q (List.mem_cons_of_mem _ hq))
def rBy (r : Bool) : R2 := fun x y H Q => ∃ (a b : Addr) (ks ls : List (Key × V)) (b1 b2 : By), x = .ref a ∧ y = .ref b ∧ H a = some (.dK ks) ∧ H b = some (.dK ls) ∧ ByAt H ks b1 ∧ ByAt H ls b2 ∧ b1.length = b2.length ∧ (∀ q ∈ b1, q.2.fit 60 ∧ lk b2 q.1 = some q.2) ∧ (∀ q ∈ b2, q.2.fit 60) ∧ Q (.bl r) H
theorem op_eqBy (hu : X.A.units + 65 < cLine) : OpR X (compareOp .Eq) (rBy true) := by
  intro pins s σ H x y v u Q I rx ry ⟨a, b, ks, ls, b1, b2, ex, ey, ea, eb, k1, k2, hl, h1, h2, q⟩
  subst ex ey
  obtain rfl : v = Value.ref a := rx
  obtain rfl : u = Value.ref b := ry
  obtain ⟨_, ya, va, ra, da⟩ := (show ObjOk X.prog X.w H s.heap a (.dK ks) from I.hok a _ ea)
  obtain ⟨_, yb, vb, rb, db⟩ := (show ObjOk X.prog X.w H s.heap b (.dK ls) from I.hok b _ eb)
  have lv : va.length = vb.length := by rw [← ra.length, ← rb.length, Paired.length k1, Paired.length k2]; exact hl
  refine PySem.W.keq_eq (knd := mixKind X.prog X.w) (r := true) ya yb da db (by omega) (fun _ => kv_hits I (A := X.A.in1) (by show X.A.units + 1 + 64 < cLine; omega) rb k2 h2 ra k1 h1) ?_
  have e : (va.length == vb.length && true) = true := by simp [lv]
  rw [e]
  exact ⟨.bl true, H, I, rfl, q⟩
theorem op_neBy (hu : X.A.units + 65 < cLine) : OpR X (compareOp .NotEq) (rBy false) := by
  intro pins s σ H x y v u Q I rx ry ⟨a, b, ks, ls, b1, b2, ex, ey, ea, eb, k1, k2, hl, h1, h2, q⟩
  subst ex ey
  obtain rfl : v = Value.ref a := rx
  obtain rfl : u = Value.ref b := ry
  obtain ⟨_, ya, va, ra, da⟩ := (show ObjOk X.prog X.w H s.heap a (.dK ks) from I.hok a _ ea)
  obtain ⟨_, yb, vb, rb, db⟩ := (show ObjOk X.prog X.w H s.heap b (.dK ls) from I.hok b _ eb)
  have lv : va.length = vb.length := by rw [← ra.length, ← rb.length, Paired.length k1, Paired.length k2]; exact hl
  refine PySem.W.keq_ne (knd := mixKind X.prog X.w) (r := true) ya yb da db (by omega) (fun _ => kv_hits I (A := X.A.in1) (by show X.A.units + 1 + 64 < cLine; omega) rb k2 h2 ra k1 h1) ?_
  have e : (!(va.length == vb.length && true)) = false := by simp [lv]
  rw [e]
  exact ⟨.bl false, H, I, rfl, q⟩
end
/-- what is in order names each key once -/
theorem addV_nodup {fs : List Str} (x : Str) (h : fs.Nodup) : (addV fs x).Nodup := by
  unfold addV
  by_cases e : x ∈ fs
  · rw [if_pos e]
    exact h
  · rw [if_neg e]
    exact List.nodup_append.mpr ⟨h, by simp, fun a ha b hb => by rw [List.mem_singleton.mp hb]; intro z; rw [z] at ha; exact e ha⟩
theorem Kd.vs_nodup : ∀ (k : Kd) {fs : List Str}, fs.Nodup → (k.vs fs).Nodup
  | .var x, _, h => addV_nodup x h
  | .con _, _, h => h
  | .app a b, _, h => Kd.vs_nodup b (Kd.vs_nodup a h)
theorem vsL_nodup : ∀ (ks : List Kd) {fs : List Str}, fs.Nodup → (vsL ks fs).Nodup
  | [], _, h => h
  | k :: r, _, h => vsL_nodup r (k.vs_nodup h)
theorem lk_self : ∀ (b : By), (names b).Nodup → ∀ q ∈ b, lk b q.1 = some q.2
  | [], _, q, h => nomatch h
  | p :: r, hn, q, h => by
    obtain ⟨n1, n2⟩ := List.nodup_cons.mp (show (p.1 :: names r).Nodup from hn)
    rcases List.mem_cons.mp h with e | h
    · rw [e]
      exact lk_pos rfl
    · have ne : ¬ p.1 = q.1 := fun z => n1 (by rw [z]; exact List.mem_map.mpr ⟨q, h, rfl⟩)
      rw [lk_neg ne]
      exact lk_self r n2 q h
end L3

/-! how kinds are shown: no dict, not too long -/
namespace L3
open PySem L2
theorem shown_word {x : Str} (w : Wok x) : (PyData.str x).shown.length ≤ 82 := by
  have h := StrLaws.reprText_len x (fun c hc => by have := w.2.2 c hc; omega)
  have e : (PyData.str x).shown = reprText x := by simp only [PyData.shown]
  rw [e]
  have := w.2.1
  omega
theorem shown_var : (PyData.str "var").shown.length ≤ 82 := by decide +kernel
theorem shown_con : (PyData.str "con").shown.length ≤ 82 := by decide +kernel
theorem shown_apply : (PyData.str "apply").shown.length ≤ 82 := by decide +kernel
theorem shown_two (a b : PyData) : (PyData.tuple [a, b]).shown.length ≤ a.shown.length + b.shown.length + 7 := by
  have h := tupleText_len_le [a.shown, b.shown]
  simp only [PyData.shown, PyData.shownAll]
  simp only [List.map_cons, List.map_nil, List.sum_cons, List.sum_nil, List.length_cons, List.length_nil] at h
  omega
theorem shown_three (a b c : PyData) : (PyData.tuple [a, b, c]).shown.length ≤ a.shown.length + b.shown.length + c.shown.length + 9 := by
  have h := tupleText_len_le [a.shown, b.shown, c.shown]
  simp only [PyData.shown, PyData.shownAll]
  simp only [List.map_cons, List.map_nil, List.sum_cons, List.sum_nil, List.length_cons, List.length_nil] at h
  omega
theorem Kd.shown_len : ∀ {k : Kd} {n : Nat}, k.fit n → k.dat.shown.length + 100 ≤ 300 * 2 ^ n
  | .var x, n, h => by
    have h1 := shown_two (.str "var") (.str x)
    have h2 := shown_word (wok_of_var h)
    have h3 := shown_var
    have h4 : 1 ≤ 2 ^ n := Nat.one_le_two_pow
    show (PyData.tuple [.str "var", .str x]).shown.length + 100 ≤ _
    omega
  | .con x, n, h => by
    have h1 := shown_two (.str "con") (.str x)
    have h2 := shown_word (wok_of_con h)
    have h3 := shown_con
    have h4 : 1 ≤ 2 ^ n := Nat.one_le_two_pow
    show (PyData.tuple [.str "con", .str x]).shown.length + 100 ≤ _
    omega
  | .app a b, n, h => by
    obtain ⟨m, rfl, ha, hb⟩ := Kd.fit_app h
    have h1 := shown_three (.str "apply") a.dat b.dat
    have h2 := Kd.shown_len ha
    have h3 := Kd.shown_len hb
    have h4 := shown_apply
    have h5 : 2 ^ (m + 1) = 2 ^ m * 2 := Nat.pow_succ ..
    show (PyData.tuple [.str "apply", a.dat, b.dat]).shown.length + 100 ≤ _
    omega
theorem Kd.show_ok : ∀ k : Kd, k.dat.showable = true ∧ k.dat.hasDict = false
  | .var x => by simp [Kd.dat, PyData.showable, PyData.showableAll, PyData.hasDict, PyData.hasDictAll]
  | .con x => by simp [Kd.dat, PyData.showable, PyData.showableAll, PyData.hasDict, PyData.hasDictAll]
  | .app a b => by
    obtain ⟨h1, h2⟩ := Kd.show_ok a
    obtain ⟨h3, h4⟩ := Kd.show_ok b
    simp [Kd.dat, PyData.showable, PyData.showableAll, PyData.hasDict, PyData.hasDictAll, h1, h2, h3, h4]
theorem kds_show : ∀ {ks : List Kd} {n : Nat}, (∀ k ∈ ks, k.fit n) → PyData.showableAll (ks.map Kd.dat) = true ∧ PyData.hasDictAll (ks.map Kd.dat) = false ∧ PyData.depthAll (ks.map Kd.dat) ≤ n + 1 ∧ ((PyData.shownAll (ks.map Kd.dat)).map (·.length)).sum ≤ ks.length * (300 * 2 ^ n) ∧ (PyData.shownAll (ks.map Kd.dat)).length = ks.length
  | [], n, _ => by simp [PyData.showableAll, PyData.hasDictAll, PyData.depthAll, PyData.shownAll]
  | k :: r, n, h => by
    obtain ⟨h1, h2, h3, h4, h5⟩ := kds_show (ks := r) (n := n) fun y hy => h y (List.mem_cons_of_mem _ hy)
    have hk := h k List.mem_cons_self
    obtain ⟨g1, g2⟩ := Kd.show_ok k
    obtain ⟨g3, g4⟩ := Kd.lay hk
    have g5 := Kd.shown_len hk
    refine ⟨?_, ?_, ?_, ?_, ?_⟩
    · simp [PyData.showableAll, g1, h1]
    · simp [PyData.hasDictAll, g2, h2]
    · simp only [List.map_cons, PyData.depthAll]
      omega
    · have e : (r.length + 1) * (300 * 2 ^ n) = r.length * (300 * 2 ^ n) + 300 * 2 ^ n := Nat.succ_mul ..
      simp only [List.map_cons, PyData.shownAll, List.sum_cons, List.length_cons]
      rw [e]
      generalize r.length * (300 * 2 ^ n) = z at h4 ⊢
      omega
    · simp [PyData.shownAll, h5]
/-- [patterns, kinds] -/
def twoD (ps ks : List Kd) : PyData := .list [.list (ps.map Kd.dat), .list (ks.map Kd.dat)]
theorem twoD_show {ps ks : List Kd} (hp : ∀ k ∈ ps, k.fit 12) (hk : ∀ k ∈ ks, k.fit 12) (lp : ps.length ≤ 4) (lk : ks.length ≤ 4) :
    (twoD ps ks).showable = true ∧ (twoD ps ks).hasDict = false ∧ (twoD ps ks).depth ≤ 60 ∧ (twoD ps ks).shown.length ≤ sizeLine := by
  obtain ⟨a1, a2, a3, a4, a5⟩ := kds_show hp
  obtain ⟨b1, b2, b3, b4, b5⟩ := kds_show hk
  refine ⟨?_, ?_, ?_, ?_⟩
  · simp [twoD, PyData.showable, PyData.showableAll, a1, b1]
  · simp [twoD, PyData.hasDict, PyData.hasDictAll, a2, b2]
  · simp only [twoD, PyData.depth, PyData.depthAll]
    omega
  · have h := listText_len_le [listText (PyData.shownAll (ps.map Kd.dat)), listText (PyData.shownAll (ks.map Kd.dat))]
    have h1 := listText_len_le (PyData.shownAll (ps.map Kd.dat))
    have h2 := listText_len_le (PyData.shownAll (ks.map Kd.dat))
    have c1 : ps.length * (300 * 2 ^ 12) ≤ 4 * (300 * 2 ^ 12) := Nat.mul_le_mul_right _ lp
    have c2 : ks.length * (300 * 2 ^ 12) ≤ 4 * (300 * 2 ^ 12) := Nat.mul_le_mul_right _ lk
    simp only [List.map_cons, List.map_nil, List.sum_cons, List.sum_nil, List.length_cons, List.length_nil] at h
    simp only [twoD, PyData.shown, PyData.shownAll]
    have e := sizeLine_eq
    rw [e]
    omega
end L3

set_option maxHeartbeats 4000000
/-! values of any kind: none, bools, ints, texts, lists, tuples, dicts; literals; repr -/
namespace L3
open PySem PySem.Spec PyProof.Rows L2
mutual
/-- v is d; t is where the tape stands -/
inductive Da (t : Addr) (H : Hp) : V → PyData → Prop
  | non : Da t H .non .none
  | bl (b : Bool) : Da t H (.bl b) (.bool b)
  | int (i : Int) : Da t H (.int i) (.int i)
  | str (x : Str) : Da t H (.str x) (.str x)
  | lst {a : Addr} {xs : List V} {ds : List PyData} : H a = some (.lst xs) → a ≠ sysModules → DaAll t H xs ds → Da t H (.ref a) (.list ds)
  | tup {a : Addr} {xs : List V} {ds : List PyData} : H a = some (.tup xs) → DaAll t H xs ds → Da t H (.ref a) (.tuple ds)
  | dct {a : Addr} {kvs : List (Key × V)} {ds : List (PyData × PyData)} : H a = some (.dK kvs) → a ≠ t → DaKv t H kvs ds → Da t H (.ref a) (.dict ds)
inductive DaAll (t : Addr) (H : Hp) : List V → List PyData → Prop
  | nil : DaAll t H [] []
  | cons {v : V} {vs : List V} {d : PyData} {ds : List PyData} : Da t H v d → DaAll t H vs ds → DaAll t H (v :: vs) (d :: ds)
inductive DaKv (t : Addr) (H : Hp) : List (Key × V) → List (PyData × PyData) → Prop
  | nil : DaKv t H [] []
  | cons {x : Str} {v : V} {vs : List (Key × V)} {d : PyData} {ds : List (PyData × PyData)} : Da t H v d → DaKv t H vs ds → DaKv t H ((.inr x, v) :: vs) ((.str x, d) :: ds)
end
/-- what a change of the heap has to keep -/
structure Kp (t : Addr) (H H' : Hp) : Prop where
  l : ∀ a xs, H a = some (.lst xs) → H' a = some (.lst xs)
  u : ∀ a xs, H a = some (.tup xs) → H' a = some (.tup xs)
  d : ∀ a kvs, a ≠ t → H a = some (.dK kvs) → H' a = some (.dK kvs)
mutual
theorem Da.kp {t : Addr} {H H' : Hp} (e : Kp t H H') : ∀ {d : PyData} {v : V}, Da t H v d → Da t H' v d
  | .none, _, h => by cases h; exact .non
  | .bool b, _, h => by cases h; exact .bl b
  | .int i, _, h => by cases h; exact .int i
  | .str x, _, h => by cases h; exact .str x
  | .list ds, _, h => by
    cases h with
    | lst h1 h2 h3 => exact .lst (e.l _ _ h1) h2 (DaAll.kp e h3)
  | .tuple ds, _, h => by
    cases h with
    | tup h1 h3 => exact .tup (e.u _ _ h1) (DaAll.kp e h3)
  | .dict ds, _, h => by
    cases h with
    | dct h1 h2 h3 => exact .dct (e.d _ _ h2 h1) h2 (DaKv.kp e h3)
theorem DaAll.kp {t : Addr} {H H' : Hp} (e : Kp t H H') : ∀ {ds : List PyData} {vs : List V}, DaAll t H vs ds → DaAll t H' vs ds
  | [], _, h => by cases h; exact .nil
  | d :: ds, _, h => by
    cases h with
    | cons h1 h2 => exact .cons (Da.kp e h1) (DaAll.kp e h2)
theorem DaKv.kp {t : Addr} {H H' : Hp} (e : Kp t H H') : ∀ {ds : List (PyData × PyData)} {vs : List (Key × V)}, DaKv t H vs ds → DaKv t H' vs ds
  | [], _, h => by cases h; exact .nil
  | d :: ds, _, h => by
    cases h with
    | cons h1 h2 => exact .cons (Da.kp e h1) (DaKv.kp e h2)
end
theorem kp_same {t : Addr} {H H' : Hp} (e : Same H H') : Kp t H H' := ⟨fun _ _ h => e _ _ h, fun _ _ h => e _ _ h, fun _ _ _ h => e _ _ h⟩
theorem DaAll.len {t : Addr} {H : Hp} : ∀ {vs : List V} {ds : List PyData}, DaAll t H vs ds → vs.length = ds.length
  | _, [], h => by cases h; rfl
  | _, d :: ds, h => by
    cases h with
    | cons _ h => rw [List.length_cons, List.length_cons, DaAll.len h]
theorem DaAll.app {t : Addr} {H : Hp} : ∀ {vs ws : List V} {ds es : List PyData}, DaAll t H vs ds → DaAll t H ws es → DaAll t H (vs ++ ws) (ds ++ es)
  | _, _, [], _, h, g => by cases h; exact g
  | _, _, d :: ds, _, h, g => by
    cases h with
    | cons h1 h2 => exact .cons h1 (DaAll.app h2 g)
theorem DaAll.mem {t : Addr} {H : Hp} {v : V} : ∀ {vs : List V} {ds : List PyData}, DaAll t H vs ds → v ∈ vs → ∃ d ∈ ds, Da t H v d
  | _, [], h, hv => by cases h; cases hv
  | _, d :: ds, h, hv => by
    cases h with
    | cons h1 h2 =>
      rcases List.mem_cons.mp hv with e | hv
      · exact ⟨d, List.mem_cons_self, by rw [e]; exact h1⟩
      · obtain ⟨d', m, q⟩ := DaAll.mem h2 hv
        exact ⟨d', List.mem_cons_of_mem _ m, q⟩
/-! ### read by the library -/
section
variable {X : Cx} {pins : List (Addr × Obj)} {σ : L2.St} {H : Hp} {s : Shared} {t : Addr}
theorem kv_keys {knd : KeyKind X.prog X.w Key} (hk : knd.is = keyIs) : ∀ {kvs : List (Key × V)} {ds : List (PyData × PyData)} {es : List DictEntry} {vs : List (Key × Value)}, DaKv t H kvs ds → KV kvs vs → Pairs knd es vs → ReadsAll s.heap (es.map (·.key)) (ds.map (·.1)) []
  | _, [], _, _, h, h2, h3 => by
    cases h
    cases h2
    cases h3
    exact ReadsAll.nil
  | _, (q, d) :: ds, [], _, h, h2, h3 => by
    cases h3
    cases h2
    cases h
  | _, (q, d) :: ds, e :: es, _, h, h2, h3 => by
    cases h with
    | @cons x v vs d' ds' g1 g2 =>
      cases h2 with
      | cons e2 t2 =>
        cases h3 with
        | cons p1 p2 t3 =>
          obtain ⟨e2, _⟩ := e2
          rw [hk] at p1
          have h1' : keyIs _ e.key = true := p1
          rw [← e2] at h1'
          obtain ⟨tk, ht⟩ := Value.isStrOf_shape (x := x) (v := e.key) h1'
          have ih := kv_keys hk g2 t2 t3
          show ReadsAll s.heap (e.key :: es.map (·.key)) (PyData.str x :: _) []
          rw [ht]
          exact ReadsAll.cons (as := []) (bs := []) (Reads.str _ _) ih
mutual
theorem Da.reads (I : Inv X pins σ H s) : ∀ (d : PyData) (v : V) (u : Value), Da t H v d → RelV v u → ∃ as, Reads s.heap u d as ∧ sysModules ∉ as
  | .none, _, _, h, r => by
    cases h
    cases r
    exact ⟨_, Reads.none, List.not_mem_nil⟩
  | .bool b, _, _, h, r => by
    cases h
    cases r
    exact ⟨_, Reads.bool b, List.not_mem_nil⟩
  | .int i, _, _, h, r => by
    cases h
    obtain ⟨k, rfl⟩ := r
    exact ⟨_, Reads.int i k, List.not_mem_nil⟩
  | .str x, _, _, h, r => by
    cases h
    obtain ⟨k, rfl⟩ := r
    exact ⟨_, Reads.str x k, List.not_mem_nil⟩
  | .list ds, _, u, h, r => by
    cases h with
    | @lst a xs _ hs ns ha =>
      obtain rfl : u = Value.ref a := r
      obtain ⟨its, rv, ⟨o, n, ho, hc, _, hd⟩, _⟩ := I.list (SqL.of hs)
      obtain ⟨as, hr, q⟩ := Da.readsAll I ds _ its ha rv
      exact ⟨_, Reads.list ho hc hd hr, fun z => (List.mem_cons.mp z).elim (fun e => ns e.symm) q⟩
  | .tuple ds, _, u, h, r => by
    cases h with
    | @tup a xs _ hs ha =>
      obtain rfl : u = Value.ref a := r
      obtain ⟨its, rv, ⟨o, ho, hc, n, hd⟩, _⟩ := I.tuple (SqT.of hs)
      obtain ⟨as, hr, q⟩ := Da.readsAll I ds _ its ha rv
      exact ⟨_, Reads.tuple ho hc hd hr, q⟩
  | .dict ds, _, u, h, r => by
    cases h with
    | @dct a kvs _ hs na ha =>
      obtain rfl : u = Value.ref a := r
      obtain ⟨_, lo, vs, ra, da⟩ := (show ObjOk X.prog X.w H s.heap a (.dK kvs) from I.hok a _ hs)
      obtain ⟨ep, o, es, ho, hx, hdat, _, pr, _⟩ := da.dictAt
      obtain ⟨bs, hr, q⟩ := Da.readsKv I ds kvs _ vs ha ra pr
      refine ⟨_, Reads.dict (as := []) ho hx.1 hdat (kv_keys rfl ha ra pr) hr, fun z => ?_⟩
      rcases List.mem_append.mp z with e | e
      · have e := List.mem_singleton.mp e
        rw [← e] at lo
        simp at lo
      · exact q e
theorem Da.readsAll (I : Inv X pins σ H s) : ∀ (ds : List PyData) (vs : List V) (us : List Value), DaAll t H vs ds → Vals vs us → ∃ as, ReadsAll s.heap us ds as ∧ sysModules ∉ as
  | [], _, _, h, r => by
    cases h
    cases r
    exact ⟨_, ReadsAll.nil, List.not_mem_nil⟩
  | d :: ds, _, _, h, r => by
    cases h with
    | cons h1 h2 =>
      cases r with
      | cons r1 r2 =>
        obtain ⟨as, q1, n1⟩ := Da.reads I d _ _ h1 r1
        obtain ⟨bs, q2, n2⟩ := Da.readsAll I ds _ _ h2 r2
        exact ⟨_, ReadsAll.cons q1 q2, fun z => (List.mem_append.mp z).elim n1 n2⟩
theorem Da.readsKv (I : Inv X pins σ H s) {knd : KeyKind X.prog X.w Key} : ∀ (ds : List (PyData × PyData)) (kvs : List (Key × V)) (es : List DictEntry) (vs : List (Key × Value)), DaKv t H kvs ds → KV kvs vs → Pairs knd es vs → ∃ as, ReadsAll s.heap (es.map (·.val)) (ds.map (·.2)) as ∧ sysModules ∉ as
  | [], _, _, _, h, h2, h3 => by
    cases h
    cases h2
    cases h3
    exact ⟨_, ReadsAll.nil, List.not_mem_nil⟩
  | (q, d) :: ds, _, [], _, h, h2, h3 => by
    cases h3
    cases h2
    cases h
  | (q, d) :: ds, _, e :: es', _, h, h2, h3 => by
    cases h with
    | @cons x v vs d' ds' g1 g2 =>
      cases h2 with
      | cons e2 t2 =>
        cases h3 with
        | cons p1 p2 t3 =>
          obtain ⟨_, r⟩ := e2
          obtain ⟨as, q1, n1⟩ := Da.reads I d _ _ g1 r
          obtain ⟨bs, q2, n2⟩ := Da.readsKv I ds _ es' _ g2 t2 t3
          have h2' : e.val = _ := p2
          refine ⟨_, ?_, fun z => (List.mem_append.mp z).elim n1 n2⟩
          show ReadsAll s.heap (e.val :: es'.map (·.val)) (d :: _) _
          rw [h2']
          exact ReadsAll.cons q1 q2
end
/-- repr of a list, a tuple or a dict of such values -/
def rReprA (t : Addr) : List V → Hp → VK → Prop := fun xs H Q => ∃ (a : Addr) (d : PyData), xs = [.ref a] ∧ Da t H (.ref a) d ∧ d.showable = true ∧ d.depth ≤ 60 ∧ d.shown.length ≤ sizeLine ∧ Q (.str d.shown) H
theorem call_reprA (t : Addr) (hg : X.A.guards = some []) (hu : X.A.units + 64 < cLine) : CallR X (.builtin "repr") (rReprA t) := by
  intro pins s σ H xs us Q I r h
  obtain ⟨a, d, rfl, hd, hs, hdep, hsz, q⟩ := h
  obtain ⟨u, rfl, rx⟩ := vals1 r
  obtain rfl : u = Value.ref a := rx
  obtain ⟨as, hr, n⟩ := Da.reads I d _ _ hd (show RelV (.ref a) (.ref a) from rfl)
  exact repr_of_reads' hr hs (fun _ => n) hg (by omega) (fun _ _ e => e) (fun h' u tk hk => ⟨.str d.shown, H, I.kept (t' := tk) hk, ⟨u, rfl⟩, q⟩) hsz
end
/-! ### literals -/
section
variable {X : Cx} {e : Expr} {es : List Expr} {pos : Pos} {t : Addr}
theorem _root_.L2.PE.weak {te te' : TE} (h : PE X e te) (m : ∀ σ H Q, te' σ H Q → te σ H Q) : PE X e te' := ⟨fun pins s σ H Q I q => h.run pins s σ H Q I (m σ H Q q)⟩
theorem _root_.L2.PA.weak {te te' : TA} (h : PA X es te) (m : ∀ σ H Q, te' σ H Q → te σ H Q) : PA X es te' := ⟨fun pos pins s σ H Q I q => h.run pos pins s σ H Q I (m σ H Q q)⟩
/-- a value that is d, all else is kept -/
def tLit (t : Addr) (d : PyData) : TE := fun _ H Q => (∃ o, H t = some o) ∧ ∀ H' v, Same H H' → Da t H' v d → Q v H'
def tLits (t : Addr) (ds : List PyData) : TA := fun _ H Q => (∃ o, H t = some o) ∧ ∀ H' vs, Same H H' → DaAll t H' vs ds → Q vs H'
/-- a new list of such values -/
def tLitL (t : Addr) (ds : List PyData) : TE := fun _ H Q => (∃ o, H t = some o) ∧ ∀ H' l vs, Same H H' → l ≠ sysModules → H' l = some (.lst vs) → DaAll t H' vs ds → Q (.ref l) H'
theorem pl_nil : PA X [] (tLits t []) := pa_nil.weak fun σ H Q h => h.2 H [] (Same.refl H) .nil
theorem pl_cons {d : PyData} {ds : List PyData} (ha : PE X e (tLit t d)) (hr : PA X es (tLits t ds)) (hs : starEach (e :: es) X.env = (false, eval e X.env) :: starEach es X.env := by rfl) : PA X (e :: es) (tLits t (d :: ds)) :=
  (pa_cons ha hr hs).weak fun σ H Q ⟨⟨o, ho⟩, h⟩ => ⟨⟨o, ho⟩, fun H1 v s1 d1 => ⟨⟨o, s1 _ _ ho⟩, fun H2 vs s2 d2 => h H2 (v :: vs) (s1.trans s2) (.cons (d1.kp (kp_same s2)) d2)⟩⟩
theorem pl_tup {x1} {ds : List PyData} (h : PA X es (tLits t ds)) (hz : ds.length ≤ 1000 := by decide) : PE X (.Tuple es x1 pos) (tLit t (.tuple ds)) :=
  (pe_tup h).weak fun σ H Q ⟨⟨o, ho⟩, h⟩ => ⟨⟨o, ho⟩, fun H1 vs s1 d1 => ⟨by rw [d1.len, sizeLine_eq]; omega, fun p hp => h _ _ (s1.trans (same_new hp)) (.tup upd_same (d1.kp (kp_same (same_new hp))))⟩⟩
theorem pl_lstL {ds : List PyData} (h : PA X es (tLits t ds)) (hz : ds.length ≤ 1000 := by decide) : PE X (.List es pos) (tLitL t ds) := by
  refine ⟨fun pins s σ H Q I hq => ?_⟩
  obtain ⟨ho, hq⟩ := hq
  refine wpAny_List_spliced (thn (h.run pos pins s σ H (fun vs H1 => Same H H1 ∧ DaAll t H1 vs ds) I ⟨ho, fun H1 vs s1 d1 => ⟨s1, d1⟩⟩) fun us s1 ⟨xs, H1, I1, r, sm, dd⟩ => ⟨by rw [← r.length, dd.len, sizeLine_eq]; omega, ?_⟩)
  have hf : H1 s1.heap.objs.size = none := I1.hok.fresh (Nat.le_refl _)
  refine ⟨.ref s1.heap.objs.size, upd H1 s1.heap.objs.size (.lst xs), I1.laid (t' := s1.toks) (fun b u e => Heap.get?_push_of_some _ e) (Nat.le_refl _) ?_, rfl, hq _ _ xs (sm.trans (same_new hf)) (Nat.ne_of_gt I1.big) upd_same (dd.kp (kp_same (same_new hf)))⟩
  exact ⟨by rw [dd.len, sizeLine_eq]; omega, us, 0, r, Heap.get?_push_size _ rfl⟩
theorem pl_lst {ds : List PyData} (h : PA X es (tLits t ds)) (hz : ds.length ≤ 1000 := by decide) : PE X (.List es pos) (tLit t (.list ds)) :=
  (pl_lstL h hz).weak fun σ H Q ⟨ho, h⟩ => ⟨ho, fun H1 l vs s1 n1 g1 d1 => h _ _ s1 (.lst g1 n1 d1)⟩
theorem pl_c {x : V} {d : PyData} (h : PE X e (tC x)) (m : ∀ H, Da t H x d) : PE X e (tLit t d) := h.weak fun σ H Q ⟨_, h⟩ => h H x (Same.refl H) (m H)
theorem pl_d0 : PE X (.Dict [] [] pos) (tLit t (.dict [])) :=
  pe_dnewK.weak fun σ H Q ⟨⟨o, ho⟩, h⟩ p hp => h _ _ (same_new hp) (.dct upd_same (fun e => by rw [e, ho] at hp; cases hp) .nil)
theorem pl_neg {i : Int} (h : PE X e (tC (.int i))) : PE X (.UnaryOp .USub e pos) (tLit t (.int (-i))) :=
  (pe_un un_neg h).weak fun σ H Q ⟨_, q⟩ => ⟨_, rfl, q H _ (Same.refl H) (.int _)⟩
theorem pl_pow {e2 : Expr} {i j : Int} (h : PE X e (tC (.int i))) (h2 : PE X e2 (tC (.int j))) (hc : CPow i j := by decide) : PE X (.BinOp e .Pow e2 pos) (tLit t (.int (i ^ j.toNat))) :=
  (pe_op op_pow h h2).weak fun σ H Q ⟨_, q⟩ => ⟨_, _, rfl, rfl, hc, q H _ (Same.refl H) (.int _)⟩
theorem pl_d1 {x : Str} {i : Int} {p1 p2 : Pos} {k1 k2} : PE X (.Dict [some (.Constant (.str x) k1 p1)] [.Constant (.int i) k2 p2] pos) (tLit t (.dict [(.str x, .int i)])) :=
  (pe_disp (pps_cons pe_str pe_int pps_nil) (by rfl) (by rfl) (fun z => by cases z) (by show 1 ≤ 15; decide)).weak fun σ H Q ⟨⟨o, ho⟩, h⟩ p hp => ⟨upd_same, [(.inr x, .int i)], rfl, by show 1 ≤ 15; decide, h _ _ (fun b o' e => by
    rw [upd_ne (ne_of_none e hp), upd_ne (ne_of_none e hp)]
    exact e) (.dct upd_same (fun e => by rw [e, ho] at hp; cases hp) (.cons (.int i) .nil))⟩
end
end L3

/-! a value of any kind: its type; beside a text -/
namespace L3
open PySem PySem.Spec PyProof.Rows L2
open PySem.SeqAt
theorem dict_eq_declines_str (a : Addr) (es : Array DictEntry) (n : Nat) (dd : Option Addr) (sl : Array (Option Value)) (b : Str) (u : Tok) :
    Meets (Builtin.«dict.__eq__» ⟨[.ref a, .str b u], []⟩) (fun _ R s => s.heap.get? a = some { cls := .type "dict", dict := dd, data := .dict es n, slots := sl } ∧ R (.ok (.ret .notImplemented)) s) :=
  .of_wp fun prog w A R s h => by
    obtain ⟨hl, h⟩ := h
    have tA : s.TypeIs (.ref a) "dict" := ⟨_, hl, rfl⟩
    show wpAny _ _ (Builtin.Dict.dictSlotArgs "__eq__" ⟨[.ref a, .str b u], []⟩ >>= _) _ _ s
    refine wpAny_bind ?_
    unfold Builtin.Dict.dictSlotArgs
    refine wpAny_bind (wpAny_notOrdered_dict tA ?_)
    show wpAny _ _ (pure (Value.ref a, Value.str b u)) _ _ s
    refine wpAny_pure ?_
    refine wpAny_bind (wpAny_isInstance (T := "str") (typeIs_str s b u) F.sub_str_dict ?_)
    simp only [Bool.not_false, if_true]
    exact wpAny_bind (wpAny_rule (wpAny_pure ⟨_, rfl, h⟩))
theorem str_eq_declines_dict (b : Str) (u : Tok) (l : Addr) (c : Value) (es : Array DictEntry) (n : Nat) (dd : Option Addr) (sl : Array (Option Value)) :
    Meets (Builtin.«str.__eq__» ⟨[.str b u, .ref l], []⟩) (fun _ R s => s.heap.get? l = some { cls := c, dict := dd, data := .dict es n, slots := sl } ∧ R (.ok (.ret .notImplemented)) s) :=
  .of_wp fun prog w A R s h => by obtain ⟨hp, g, d, tk, os⟩ := s; obtain ⟨hl, h⟩ := h; wp_walk using wpAny_loadPart' hl, wpAny_load hl; exact ⟨_, rfl, h⟩
section
variable {A : Around} {s : Shared}
theorem rc_dict_str {l : Addr} {o : Obj} {es : Array DictEntry} {n : Nat} (b : Str) (u : Tok) (ho : s.heap.get? l = some o) (hc : o.cls = .type "dict") (hd : o.data = .dict es n) (hu : A.units < cLine) : RcAt A s (.ref l) (.str b u) false := fun prog w E Q h => by
  obtain ⟨cls, dd, data, sl⟩ := o
  simp only at hc hd
  subst hc hd
  exact rc_eq_decline_or (k := false) ⟨_, ho, rfl⟩ (typeIs_str s b u) (by decide) F.sub_str_dict F.slot_dict_eq F.slot_str_eq_refl
    (fun _ hq => call_meets F.slot_dict_eq ⟨_, ho, rfl⟩ F.entry_dict_eq (F.args_dict_eq_2 _ _) (dict_eq_declines_str l es n dd sl b u) ⟨ho, hq⟩)
    (fun _ hq => call_meets F.slot_str_eq_refl (typeIs_str s b u) F.entry_str_eq (F.args_str_eq_2 _ _) (str_eq_declines_dict b u l (.type "dict") es n dd sl) ⟨ho, hq⟩)
    (fun _ hq => wpAny_of_eq (rfl : isSame (.ref l) (.str b u) = pure false) hq) (.inr hu) h
end
/-- whether a value is this text -/
def isS (x : Str) : PyData → Bool
  | .str y => decide (y = x)
  | _ => false
def tyName : PyData → String
  | .none => "NoneType"
  | .bool _ => "bool"
  | .int _ => "int"
  | .str _ => "str"
  | .list _ => "list"
  | .tuple _ => "tuple"
  | .dict _ => "dict"
section
variable {X : Cx} {pins : List (Addr × Obj)} {σ : L2.St} {H : Hp} {s : Shared}
def rEqStr (t : Addr) : R2 := fun x y H Q => ∃ (d : PyData) (z : Str), y = .str z ∧ Da t H x d ∧ Q (.bl (isS z d)) H
theorem op_eqStr {t : Addr} (hu : X.A.units + 64 < cLine) : OpR X (compareOp .Eq) (rEqStr t) := by
  intro pins s σ H x y v u Q I rx ry h
  obtain ⟨d, z, rfl, hd, q⟩ := h
  obtain ⟨tk, rfl⟩ := (show ∃ k, u = Value.str z k from ry)
  have hu' : X.A.units < cLine := by omega
  have fin : ∀ b : Bool, b = isS z d → EP X pins σ Q (.bool b) s := fun b e => ⟨.bl b, H, I, rfl, by rw [e]; exact q⟩
  cases d with
  | none =>
    cases hd
    cases (show v = Value.none from rx)
    exact RcAt.none_str z tk _ _ _ _ (fin _ rfl)
  | bool b =>
    cases hd
    cases (show v = Value.bool b from rx)
    exact RcAt.bool_str b z tk _ _ _ _ (fin _ rfl)
  | int i =>
    cases hd
    obtain ⟨k, rfl⟩ := (show ∃ k, v = Value.int i k from rx)
    exact RcAt.int_str i k z tk _ _ _ _ (fin _ rfl)
  | str y =>
    cases hd
    obtain ⟨k, rfl⟩ := (show ∃ k, v = Value.str y k from rx)
    exact RcAt.str_str y k z tk _ _ _ _ (fin _ (str_beq y z))
  | list ds =>
    cases hd with
    | @lst a xs _ hs ns ha =>
      obtain rfl : v = Value.ref a := rx
      obtain ⟨its, rv, ⟨o, n, ho, hc, _, hd⟩, _⟩ := I.list (SqL.of hs)
      exact RcAt.list_str z tk ⟨o, ho, hc, n, hd⟩ hu' _ _ _ _ (fin _ rfl)
  | tuple ds =>
    cases hd with
    | @tup a xs _ hs ha =>
      obtain rfl : v = Value.ref a := rx
      obtain ⟨its, rv, ⟨o, ho, hc, n, hd⟩, _⟩ := I.tuple (SqT.of hs)
      exact RcAt.tuple_str z tk ⟨o, ho, hc, n, hd⟩ hu' _ _ _ _ (fin _ rfl)
  | dict ds =>
    cases hd with
    | @dct a kvs _ hs na ha =>
      obtain rfl : v = Value.ref a := rx
      obtain ⟨_, lo, vs, ra, da⟩ := (show ObjOk X.prog X.w H s.heap a (.dK kvs) from I.hok a _ hs)
      obtain ⟨ep, o, es, ho, hx, hdat, _, pr, _⟩ := da.dictAt
      exact rc_dict_str z tk ho hx.1 hdat hu' _ _ _ _ (fin _ rfl)
theorem Da.ty {K : PySem.W.Frag} {t : Addr} {v : V} {d : PyData} (h : Da t H v d) : TyX K H v (.type (tyName d)) := by
  cases d with
  | none => cases h; exact .base .non
  | bool b => cases h; exact .base (.bl b)
  | int i => cases h; exact .base (.int i)
  | str y => cases h; exact .base (.str y)
  | list ds =>
    cases h with
    | lst h1 _ _ => exact .base (.lst h1)
  | tuple ds =>
    cases h with
    | tup h1 _ => exact .base (.tup h1)
  | dict ds =>
    cases h with
    | dct h1 _ _ => exact .base (.dK h1)
def isStr : PyData → Bool
  | .str _ => true
  | _ => false
def isTup : PyData → Bool
  | .tuple _ => true
  | _ => false
theorem kit_str {K : PySem.W.Frag} (d : PyData) : PySem.W.kitOne K (.type (tyName d)) (.type "str") = some (isStr d) := by
  cases d with
  | none => exact kit_ty (show kitB "NoneType" "str" = some false by decide +kernel)
  | bool _ => exact kit_ty (show kitB "bool" "str" = some false by decide +kernel)
  | int _ => exact kit_ty (show kitB "int" "str" = some false by decide +kernel)
  | str _ => exact kit_ty (show kitB "str" "str" = some true by decide +kernel)
  | list _ => exact kit_ty (show kitB "list" "str" = some false by decide +kernel)
  | tuple _ => exact kit_ty (show kitB "tuple" "str" = some false by decide +kernel)
  | dict _ => exact kit_ty (show kitB "dict" "str" = some false by decide +kernel)
theorem kit_tup {K : PySem.W.Frag} (d : PyData) : PySem.W.kitOne K (.type (tyName d)) (.type "tuple") = some (isTup d) := by
  cases d with
  | none => exact kit_ty (show kitB "NoneType" "tuple" = some false by decide +kernel)
  | bool _ => exact kit_ty (show kitB "bool" "tuple" = some false by decide +kernel)
  | int _ => exact kit_ty (show kitB "int" "tuple" = some false by decide +kernel)
  | str _ => exact kit_ty (show kitB "str" "tuple" = some false by decide +kernel)
  | list _ => exact kit_ty (show kitB "list" "tuple" = some false by decide +kernel)
  | tuple _ => exact kit_ty (show kitB "tuple" "tuple" = some true by decide +kernel)
  | dict _ => exact kit_ty (show kitB "dict" "tuple" = some false by decide +kernel)
end
end L3

/-! a known function called by keywords alone -/
namespace L3
open PySem L2
structure KnK (P : Program) (w : World) (K : PySem.W.Frag) (mg : Str → Option Value) (base : Heap) (k : Nat) (x : Str) (ps : List Str) (sp : Sp) : Prop where
  ex : ∃ (f : Addr) (fd : FuncData), FnOk P w K mg base CX0 k f fd ps sp ∧ mg x = some (.ref f) ∧ PySem.W.keepIn K (.ref f) = true ∧ KBinds K fd ps ps (fun us ws => us ++ ws) (fun vs zs => vs ++ zs)
section
variable {X : Cx} {x : Str} {k : Nat} {ps : List Str} {sp : Sp} {kws : List Keyword} {tk : TA} {p pos : Pos}
theorem pe_knK (D : KnK X.prog X.w X.K X.mg X.base k x ps sp) (hr : Room k X.A) (hkw : PK X kws tk) (hg : Gl X x := by rfl) (hdb : (x == ("__debug__" : Str)) = false := by decide)
    (hall : (backToKw pos (keywordEach kws X.env)).all (·.1.isSome) = true := by rfl) (hks : (backToKw pos (keywordEach kws X.env)).filterMap (·.1) = ps := by rfl)
    (hpl : ((backTo pos (starEach [] X.env)).any (·.1) || (backToKw pos (keywordEach kws X.env)).any (·.1.isNone)) = false := by rfl) :
    PE X (.Call (.Name x p) [] kws pos) (fun σ H Q => tk σ H fun zs H2 => sp zs H2 Q E0) := by
  obtain ⟨f, fd, F, hm, hk, hb⟩ := D.ex
  refine ⟨fun pins s σ H Q I h => wpAny_Call_Name_kw (ld_glob I hg hm ?_ hdb)⟩
  refine PySem.W.callWith_KW0 (h₀ := X.base) I.ok.mod.kin hk hall (thn (hkw.run pos pins s σ H _ I h) fun ws s2 ⟨zs, H2, I2, rz, q2⟩ => ⟨I2.kIn, ?_⟩) hpl
  rw [hks]
  exact run_fnk (us := []) (vs := []) F hr hb pass0 I2 .nil rz q2
/-- a function of one parameter -/
theorem kbinds1 {K : PySem.W.Frag} {fd : FuncData} {x : Str} (h : ∀ (s : Shared) (v : Value), BindsTo s fd ⟨[v], []⟩ [(x, v)]) (h2 : ∀ (s : Shared) (v : Value), BindsTo s fd ⟨[], [(x, v)]⟩ [(x, v)]) : KBinds K fd [x] [x] (fun us ws => us ++ ws) (fun vs zs => vs ++ zs) where
  to := fun s us ws _ hl => by
    match us, ws, hl with
    | [], [w], _ => exact h2 s w
    | [u], [], _ => exact h s u
  rel := fun r rz => by
    induction r with
    | nil => exact rz
    | cons a b ih => exact .cons a ih
end
end L3

/-! repr of a value of any kind, at the law's own level -/
namespace L3
open PySem PySem.Spec PyProof.Rows L2
section
variable {X : Cx}
def rReprV (t : Addr) : List V → Hp → VK → Prop := fun xs H Q => ∃ (v : V) (d : PyData), xs = [v] ∧ Da t H v d ∧ d.showable = true ∧ d.depth ≤ 60 ∧ d.shown.length ≤ sizeLine ∧ (∀ i, d = .int i → i.natAbs.log2 < 1920) ∧ Q (.str d.shown) H
theorem call_reprV (t : Addr) (hg : X.A.guards = some []) (hu : X.A.units + 64 < cLine) : CallR X (.builtin "repr") (rReprV t) := by
  intro pins s σ H xs us Q I r h
  obtain ⟨v, d, rfl, hd, hs, hdep, hsz, hi, q⟩ := h
  obtain ⟨u, rfl, rx⟩ := vals1 r
  have any : ∀ E a, v = .ref a → wpAny (model X.prog X.w) X.A (call (.builtin "repr") [u]) (EP X pins σ Q) E s := fun E a e => by
    subst e
    obtain rfl : u = Value.ref a := rx
    obtain ⟨as, hr, n⟩ := Da.reads I d _ _ hd (show RelV (.ref a) (.ref a) from rfl)
    exact repr_of_reads' hr hs (fun _ => n) hg (by omega) (fun _ _ e => e) (fun h' u tk hk => ⟨.str d.shown, H, I.kept (t' := tk) hk, ⟨u, rfl⟩, q⟩) hsz
  cases d with
  | none =>
    cases hd
    cases (show u = Value.none from rx)
    exact PySem.P.repr_of_none ⟨.str _, H, I.tok _, ⟨_, rfl⟩, q⟩
  | bool b =>
    cases hd
    cases (show u = Value.bool b from rx)
    exact PySem.P.repr_of_bool ⟨.str _, H, I.tok _, ⟨_, rfl⟩, q⟩
  | int i =>
    cases hd
    obtain ⟨k, rfl⟩ := (show ∃ k, u = Value.int i k from rx)
    exact PySem.P.repr_of_int (hi i rfl) ⟨.str _, H, I.tok _, ⟨_, rfl⟩, q⟩
  | str x =>
    cases hd
    obtain ⟨k, rfl⟩ := (show ∃ k, u = Value.str x k from rx)
    exact PySem.P.repr_of_str ⟨.str _, H, I.tok _, ⟨_, rfl⟩, q⟩ hsz
  | list ds => cases id hd with | lst => exact any _ _ rfl
  | tuple ds => cases id hd with | tup => exact any _ _ rfl
  | dict ds => cases id hd with | dct => exact any _ _ rfl
end
end L3

/-! a tuple of anything beside the empty one -/
namespace L3
open PySem PySem.Spec PyProof.Rows L2
open PySem.SeqAt
def rNeNil : R2 := fun x y H Q => ∃ (a b : Addr) (xs : List V), x = .ref a ∧ y = .ref b ∧ H a = some (.tup xs) ∧ H b = some (.tup []) ∧ Q (.bl (!xs.isEmpty)) H
theorem op_neNil {X : Cx} (hu : X.A.units + 64 < cLine) : OpR X (compareOp .NotEq) rNeNil := by
  intro pins s σ H x y v u Q I rx ry h
  obtain ⟨a, b, xs, rfl, rfl, ha, hb, q⟩ := h
  obtain rfl : v = Value.ref a := rx
  obtain rfl : u = Value.ref b := ry
  obtain ⟨its, rv, ⟨o, ho, hc, n, hd⟩, _⟩ := I.tuple (SqT.of ha)
  obtain ⟨its2, rv2, ⟨o2, ho2, hc2, n2, hd2⟩, _⟩ := I.tuple (SqT.of hb)
  cases rv2
  have hl := rv.length
  refine RcNeAt.tuples (e := fun _ => true) ⟨o, ho, hc, n, hd⟩ ⟨o2, ho2, hc2, n2, hd2⟩ (by omega) (fun j h1 h2 => absurd h2 (by simp)) _ _ _ _ ?_
  refine ⟨.bl (!xs.isEmpty), H, I, ?_, q⟩
  cases rv with
  | nil => rfl
  | cons _ _ =>
    show Value.bool _ = Value.bool _
    simp
end L3

/-! names, wholes, texts among values of any kind -/
namespace L3
open PySem L2
theorem szl {n : Nat} (h : n ≤ 1000000) : n < sizeLine := Nat.lt_of_le_of_lt h (by decide)
structure Bl9 (mg : Str → Option Value) : Prop where
  isinstance : mg "isinstance" = none
  all : mg "all" = none
  str_ : mg "str" = none
  tuple : mg "tuple" = none
  bool : mg "bool" = none
  int : mg "int" = none
  ord : mg "ord" = none
  abs : mg "abs" = none
  max : mg "max" = none
def barL : List Str := ["data", "role", "case", "define", "derive", "picks", "above", "settles", "member", "as", "if", "given", "let", "and", "in", "match", "end"]
theorem pe_gc {X : Cx} {x : Str} {v : V} {pos : Pos} (hg : Gl X x) (h : ∃ u, X.mg x = some u ∧ RelV v u) (hd : (x == ("__debug__" : Str)) = false := by decide) : PE X (.Name x pos) (tC v) := by
  obtain ⟨u, e, r⟩ := h
  exact pe_glob hg e r hd
/-- a sign from a to z -/
def lo (c : Nat) : Bool := decide (97 ≤ c) && decide (c ≤ 122)
/-- 1 to 8 letters -/
def wok (x : Str) : Bool := decide (1 ≤ x.length) && decide (x.length ≤ 8) && x.cps.all lo
def isWordD : PyData → Bool
  | .str x => wok x
  | _ => false
def isNameD : PyData → Bool
  | .str x => wok x && !decide (x ∈ barL)
  | _ => false
def isIntD : PyData → Bool
  | .int _ => true
  | _ => false
def isWholeD : PyData → Bool
  | .int i => decide (-(10 ^ 30) ≤ i) && decide (i ≤ 10 ^ 30)
  | _ => false
/-- a sign that a text may have -/
def sgnT (c : Nat) : Bool := decide (32 ≤ c) && decide (c ≤ 126) && !decide (c = 37)
def isTextD : PyData → Bool
  | .str x => decide (x.length ≤ 200) && x.cps.all sgnT
  | _ => false
theorem lo_tab : ∀ c, c < 128 → (Unicode.isAlpha c && Unicode.isUpper c) = (decide (65 ≤ c) && decide (c ≤ 90)) ∧ Unicode.isAlpha c = (decide (65 ≤ c) && decide (c ≤ 90) || lo c) ∧ Unicode.isLower c = lo c ∧ (Unicode.isUpper c || Unicode.isTitle c) = (decide (65 ≤ c) && decide (c ≤ 90)) := by decide +kernel
theorem asc_low {x : Str} (h1 : 1 ≤ x.length) : (Txt.isascii x && (Txt.isalpha x && Txt.islower x)) = x.cps.all lo := by
  have hl : ∀ p : Nat → Bool, x.cps.all p = x.cps.toList.all p := fun p => (Array.all_toList).symm
  have hn : ∀ p : Nat → Bool, x.cps.any p = x.cps.toList.any p := fun p => (Array.any_toList).symm
  unfold Txt.isascii Txt.isalpha Txt.islower
  have e1 : decide (x.length > 0) = true := decide_eq_true h1
  rw [e1, hl, hl, hl, hn, hn]
  have h1 : 0 < x.cps.toList.length := by
    rw [Array.length_toList]
    exact h1
  generalize x.cps.toList = l at h1 ⊢
  rw [Bool.eq_iff_iff]
  simp only [Bool.true_and, Bool.and_eq_true, List.all_eq_true, List.any_eq_true, Bool.not_eq_true', List.any_eq_false, decide_eq_true_eq]
  constructor
  · rintro ⟨ha, hb, _, hc⟩ c m
    obtain ⟨_, t2, _, t4⟩ := lo_tab c (ha c m)
    have b := hb c m
    have u := hc c m
    rw [t4] at u
    rw [t2, Bool.or_eq_true] at b
    rcases b with b | b
    · exact absurd b u
    · exact b
  · intro h
    have small : ∀ c ∈ l, c < 128 := fun c m => by
      have := h c m
      unfold lo at this
      simp only [Bool.and_eq_true, decide_eq_true_eq] at this
      omega
    refine ⟨small, fun c m => ?_, ?_, fun c m => ?_⟩
    · rw [(lo_tab c (small c m)).2.1, h c m, Bool.or_true]
    · obtain ⟨c, m⟩ := List.exists_mem_of_length_pos h1
      exact ⟨c, m, by rw [(lo_tab c (small c m)).2.2.1]; exact h c m⟩
    · rw [(lo_tab c (small c m)).2.2.2]
      have := h c m
      unfold lo at this
      simp only [Bool.and_eq_true, decide_eq_true_eq] at this ⊢
      omega
end L3

/-! a tuple of anything beside a tuple of one text -/
namespace L3
open PySem PySem.Spec PyProof.Rows L2
open PySem.SeqAt
theorem eqAt_rc {A : Around} {s : Shared} {v : Value} {z : Str} {tk : Tok} {b : Bool} (hf : ∀ x y, v ≠ .float x y) (h : RcAt A s v (.str z tk) b) (e : v = .str z tk → b = true) : EqAt A s v (.str z tk) b := fun prog w E Q hq => by
  by_cases c : v = .str z tk
  · have eb := e c
    subst c eb
    exact EqAt.same _ prog w E Q hq
  · unfold eqBool
    refine wpAny_holding ?_
    refine wpAny_ite_split (fun hab => absurd (eq_of_beq hab) c) (fun _ => ?_)
    cases v with
    | float x y => exact absurd rfl (hf x y)
    | _ => exact wpAny_bind (h prog w E _ (wpAny_truthy_bool hq))
section
variable {X : Cx} {pins : List (Addr × Obj)} {σ : L2.St} {H : Hp} {s : Shared}
theorem rc_any_str {t : Addr} {A : Around} (I : Inv X pins σ H s) (hu' : A.units < cLine) {d : PyData} {x : V} {v : Value} {z : Str} {tk : Tok} (hd : Da t H x d) (rx : RelV x v) : RcAt A s v (.str z tk) (isS z d) ∧ (v = .str z tk → isS z d = true) ∧ (∀ x y, v ≠ .float x y) := by
  cases d with
  | none =>
    cases hd
    cases (show v = Value.none from rx)
    exact ⟨RcAt.none_str z tk, nofun, nofun⟩
  | bool b =>
    cases hd
    cases (show v = Value.bool b from rx)
    exact ⟨RcAt.bool_str b z tk, nofun, nofun⟩
  | int i =>
    cases hd
    obtain ⟨k, rfl⟩ := (show ∃ k, v = Value.int i k from rx)
    exact ⟨RcAt.int_str i k z tk, nofun, nofun⟩
  | str y =>
    cases hd
    obtain ⟨k, rfl⟩ := (show ∃ k, v = Value.str y k from rx)
    have e : isS z (.str y) = (y == z) := by
      show decide (y = z) = (y == z)
      rw [Bool.eq_iff_iff, decide_eq_true_eq, beq_iff_eq]
    rw [e]
    refine ⟨RcAt.str_str y k z tk, fun h => ?_, nofun⟩
    injection h with h _
    rw [h]
    exact beq_self_eq_true z
  | list ds =>
    cases hd with
    | @lst a xs _ hs ns ha =>
      obtain rfl : v = Value.ref a := rx
      obtain ⟨its, rv, ⟨o, n, ho, hc, _, hd⟩, _⟩ := I.list (SqL.of hs)
      exact ⟨RcAt.list_str z tk ⟨o, ho, hc, n, hd⟩ hu', nofun, nofun⟩
  | tuple ds =>
    cases hd with
    | @tup a xs _ hs ha =>
      obtain rfl : v = Value.ref a := rx
      obtain ⟨its, rv, ⟨o, ho, hc, n, hd⟩, _⟩ := I.tuple (SqT.of hs)
      exact ⟨RcAt.tuple_str z tk ⟨o, ho, hc, n, hd⟩ hu', nofun, nofun⟩
  | dict ds =>
    cases hd with
    | @dct a kvs _ hs na ha =>
      obtain rfl : v = Value.ref a := rx
      obtain ⟨_, lo, vs, ra, da⟩ := (show ObjOk X.prog X.w H s.heap a (.dK kvs) from I.hok a _ hs)
      obtain ⟨ep, o, es, ho, hx, hdat, _, pr, _⟩ := da.dictAt
      exact ⟨rc_dict_str z tk ho hx.1 hdat hu', nofun, nofun⟩
/-- one value, this text -/
def isOne (z : Str) : List PyData → Bool
  | [d] => isS z d
  | _ => false
def rEqOne (t : Addr) : R2 := fun x y H Q => ∃ (a b : Addr) (ds : List PyData) (z : Str), x = .ref a ∧ y = .ref b ∧ Da t H (.ref a) (.tuple ds) ∧ H b = some (.tup [.str z]) ∧ Q (.bl (isOne z ds)) H
theorem op_eqOne {t : Addr} (hu : X.A.units + 64 < cLine) : OpR X (compareOp .Eq) (rEqOne t) := by
  intro pins s σ H x y v u Q I rx ry h
  obtain ⟨a, b, ds, z, rfl, rfl, hd, hb, q⟩ := h
  obtain rfl : v = Value.ref a := rx
  obtain rfl : u = Value.ref b := ry
  cases hd with
  | @tup _ xs _ ha da =>
    obtain ⟨its, rv, ⟨o, ho, hc, n, hd⟩, _⟩ := I.tuple (SqT.of ha)
    obtain ⟨its2, rv2, ⟨o2, ho2, hc2, n2, hd2⟩, _⟩ := I.tuple (SqT.of hb)
    obtain ⟨u2, rfl, r2⟩ := vals1 rv2
    obtain ⟨tk, rfl⟩ := (show ∃ k, u2 = Value.str z k from r2)
    have fin : ∀ b : Bool, b = isOne z ds → EP X pins σ Q (.bool b) s := fun b e => ⟨.bl b, H, I, rfl, by rw [e]; exact q⟩
    cases da with
    | nil =>
      cases rv
      exact RcAt.tuples (e := fun _ => true) ⟨o, ho, hc, n, hd⟩ ⟨o2, ho2, hc2, n2, hd2⟩ (by omega) (fun j h1 h2 => absurd h1 (by simp)) _ _ _ _ (fin _ rfl)
    | @cons v1 vs1 d ds' q1 t1 =>
      cases rv with
      | @cons _ u1 _ us1 r1 rr =>
        obtain ⟨c1, c2, c3⟩ := rc_any_str (A := X.A.in1) (z := z) (tk := tk) I (by show X.A.units + 1 < cLine; omega) q1 r1
        refine RcAt.tuples (e := fun _ => isS z d) ⟨o, ho, hc, n, hd⟩ ⟨o2, ho2, hc2, n2, hd2⟩ (by omega) (fun j h1 h2 => ?_) _ _ _ _ (fin _ ?_)
        · obtain rfl : j = 0 := by
            have : j < 1 := h2
            omega
          exact eqAt_rc c3 c1 c2
        · have l1 := t1.len
          have l2 := rr.length
          cases t1 with
          | nil =>
            cases rr
            show (isS z d && true && true) = isS z d
            simp
          | cons _ _ =>
            cases rr
            show (_ && _) = false
            simp
end
end L3

/-! values: what stands within, how many parts, how deep -/
namespace L3
open PySem L2
--PURE
/-- what stands within a value; none for what is none -/
def innerD : PyData → Option (List PyData)
  | .tuple [m, n, .tuple ds] => if isS "made" m && isNameD n then some ds else none
  | .tuple [a, b] => if (isS "whole" a && isWholeD b) || (isS "text" a && isTextD b) then some [] else none
  | .tuple [a] => if isS "function" a then some [] else none
  | _ => none
mutual
/-- parts and depth -/
def meas : PyData → Option (Nat × Nat)
  | .tuple ds => measT ds
  | _ => none
def measT : List PyData → Option (Nat × Nat)
  | [a] => if isS "function" a then some (1, 1) else none
  | [a, b] => if (isS "whole" a && isWholeD b) || (isS "text" a && isTextD b) then some (1, 1) else none
  | [m, n, e] => if isS "made" m && isNameD n then (measE e).map fun p => (1 + p.1, 1 + p.2) else none
  | _ => none
def measE : PyData → Option (Nat × Nat)
  | .tuple ds => measL ds
  | _ => none
/-- parts together, the deepest -/
def measL : List PyData → Option (Nat × Nat)
  | [] => some (0, 0)
  | d :: ds => match meas d, measL ds with
    | some p, some q => some (p.1 + q.1, max p.2 q.2)
    | _, _ => none
end
theorem meas_inner : ∀ (d : PyData), meas d = (innerD d).bind fun ds => (measL ds).map fun p => (1 + p.1, 1 + p.2)
  | .tuple [m, n, .tuple ds] => by
    simp only [meas, measT, measE, innerD]
    split <;> rfl
  | .tuple [a, b] => by
    simp only [meas, measT, innerD]
    split <;> simp [measL]
  | .tuple [a] => by
    simp only [meas, measT, innerD]
    split <;> simp [measL]
  | .tuple [m, n, .none] | .tuple [m, n, .bool _] | .tuple [m, n, .int _] | .tuple [m, n, .str _] | .tuple [m, n, .list _] | .tuple [m, n, .dict _] => by
    simp only [meas, measT, measE, innerD, Option.map_none, ite_self, Option.bind_none]
  | .tuple [] => by simp only [meas, measT, innerD, Option.bind_none]
  | .tuple (_ :: _ :: _ :: _ :: _) => by simp only [meas, measT, innerD, Option.bind_none]
  | .none => by simp only [meas, innerD, Option.bind_none]
  | .bool _ => by simp only [meas, innerD, Option.bind_none]
  | .int _ => by simp only [meas, innerD, Option.bind_none]
  | .str _ => by simp only [meas, innerD, Option.bind_none]
  | .list _ => by simp only [meas, innerD, Option.bind_none]
  | .dict _ => by simp only [meas, innerD, Option.bind_none]
theorem meas_low {d : PyData} {p : Nat × Nat} (h : meas d = some p) : 1 ≤ p.1 ∧ 1 ≤ p.2 := by
  rw [meas_inner] at h
  cases hi : innerD d with
  | none => rw [hi] at h; cases h
  | some ds =>
    rw [hi] at h
    have h : (measL ds).map (fun p => (1 + p.1, 1 + p.2)) = some p := h
    cases hm : measL ds with
    | none => rw [hm] at h; cases h
    | some q =>
      rw [hm] at h
      have h := Option.some.inj h
      rw [← h]
      exact ⟨by show 1 ≤ 1 + _; omega, by show 1 ≤ 1 + _; omega⟩
/-- all are values, none reaches below 101; how many parts -/
def sumM : List (PyData × Nat) → Option Nat
  | [] => some 0
  | (d, n) :: ps => match meas d, sumM ps with
    | some p, some s => if n + p.2 ≤ 101 then some (p.1 + s) else none
    | _, _ => none
theorem sumM_app : ∀ (a b : List (PyData × Nat)), sumM (a ++ b) = (sumM a).bind fun s => (sumM b).map fun r => s + r
  | [], b => by simp [sumM]
  | (d, n) :: a, b => by
    rw [List.cons_append]
    simp only [sumM, sumM_app a b]
    cases meas d with
    | none => rfl
    | some p =>
      cases sumM a with
      | none => rfl
      | some s =>
        cases sumM b with
        | none => simp
        | some r =>
          simp
          split
          · simp; omega
          · simp
/-- whether the stack comes to a good end -/
def chk (ps : List (PyData × Nat)) (many : Nat) : Bool := match sumM ps with
  | some s => decide (many + s ≤ 1000)
  | none => false
theorem sumM_inner {n : Nat} : ∀ (ds : List PyData), sumM (ds.map fun d => (d, n + 1)) = match measL ds with
    | some p => if p.2 = 0 ∨ n + 1 + p.2 ≤ 101 then some p.1 else none
    | none => none
  | [] => by simp [sumM, measL]
  | d :: ds => by
    simp only [List.map_cons, sumM, measL, sumM_inner ds]
    cases hm : meas d with
    | none => rfl
    | some p =>
      have hl := meas_low hm
      cases hq : measL ds with
      | none => rfl
      | some q =>
        simp only []
        by_cases h2 : q.2 = 0 ∨ n + 1 + q.2 ≤ 101
        · rw [if_pos h2]
          simp only []
          by_cases h1 : n + 1 + p.2 ≤ 101
          · rw [if_pos h1, if_pos (.inr (by rcases h2 with h2 | h2 <;> omega))]
          · rw [if_neg h1, if_neg (by omega)]
        · rw [if_neg h2, if_neg (by omega)]
theorem sumM_one (d : PyData) (n : Nat) : sumM [(d, n)] = match meas d with
    | some p => if n + p.2 ≤ 101 then some p.1 else none
    | none => none := by
  simp only [sumM]
  cases meas d with
  | none => rfl
  | some p => simp
/-- what the law wants of is_value -/
def due (d : PyData) : Bool := match meas d with
  | some p => decide (p.1 ≤ 1000) && decide (p.2 ≤ 100)
  | none => false
theorem chk_first (d : PyData) : chk [(d, 1)] 0 = due d := by
  unfold chk due
  rw [sumM_one]
  cases meas d with
  | none => rfl
  | some p =>
    simp only []
    by_cases h : 1 + p.2 ≤ 101
    · rw [if_pos h, decide_eq_true (by omega : p.2 ≤ 100), Bool.and_true]
      simp
    · rw [if_neg h, decide_eq_false (by omega : ¬ p.2 ≤ 100), Bool.and_false]
theorem chk_last {ps : List (PyData × Nat)} {d : PyData} {n many : Nat} : chk (ps ++ [(d, n)]) many = match innerD d with
    | none => false
    | some ds => decide (many + 1 ≤ 1000) && decide (n ≤ 100) && chk (ps ++ ds.map fun e => (e, n + 1)) (many + 1) := by
  unfold chk
  rw [sumM_app, sumM_one, meas_inner]
  cases hi : innerD d with
  | none => cases sumM ps <;> rfl
  | some ds =>
    simp only [Option.bind_some]
    rw [sumM_app, sumM_inner]
    cases hm : measL ds with
    | none => cases sumM ps <;> simp
    | some q =>
      simp only [Option.map_some]
      cases hs : sumM ps with
      | none => simp
      | some s =>
        simp only [Option.bind_some]
        by_cases h1 : n + (1 + q.2) ≤ 101
        · rw [if_pos h1, if_pos (.inr (by omega))]
          simp only [Option.map_some]
          rw [Bool.eq_iff_iff]
          simp only [Bool.and_eq_true, decide_eq_true_eq]
          omega
        · rw [if_neg h1]
          simp only [Option.map_none]
          by_cases h2 : q.2 = 0 ∨ n + 1 + q.2 ≤ 101
          · rw [if_pos h2, decide_eq_false (by omega : ¬ n ≤ 100)]
            simp
          · rw [if_neg h2]
            simp
theorem measL_app : ∀ (a b : List PyData), measL (a ++ b) = (measL a).bind fun p => (measL b).map fun q => (p.1 + q.1, max p.2 q.2)
  | [], b => by simp [measL]
  | d :: a, b => by
    rw [List.cons_append]
    simp only [measL, measL_app a b]
    cases meas d with
    | none => rfl
    | some p =>
      cases measL a with
      | none => rfl
      | some s =>
        cases measL b with
        | none => simp
        | some r => simp; omega
theorem parts_step {ds0 : List PyData} {e : PyData} {q : Nat × Nat} (h : measL (ds0 ++ [e]) = some q) : ∃ es q', innerD e = some es ∧ measL (ds0 ++ es) = some q' ∧ q.1 = q'.1 + 1 := by
  rw [measL_app] at h
  cases h0 : measL ds0 with
  | none => rw [h0] at h; cases h
  | some p =>
    rw [h0] at h
    simp only [Option.bind_some, measL] at h
    rw [meas_inner] at h
    cases hi : innerD e with
    | none => rw [hi] at h; cases h
    | some es =>
      rw [hi] at h
      simp only [Option.bind_some] at h
      cases hm : measL es with
      | none => rw [hm] at h; cases h
      | some r =>
        rw [hm] at h
        simp only [Option.map_some] at h
        have h := Option.some.inj h
        refine ⟨es, (p.1 + r.1, max p.2 r.2), rfl, ?_, ?_⟩
        · rw [measL_app, h0, hm]
          rfl
        · rw [← h]
          show p.1 + (1 + r.1 + 0) = p.1 + r.1 + 1
          omega
mutual
def psz : PyData → Nat
  | .tuple ds => 1 + pszL ds
  | _ => 1
def pszL : List PyData → Nat
  | [] => 0
  | d :: ds => psz d + pszL ds
end
theorem psz_pos (d : PyData) : 1 ≤ psz d := by
  cases d <;> simp only [psz] <;> omega
theorem pszL_app : ∀ (a b : List PyData), pszL (a ++ b) = pszL a + pszL b
  | [], b => by simp [pszL]
  | d :: a, b => by simp only [List.cons_append, pszL, pszL_app a b]; omega
theorem pszL_len : ∀ (a : List PyData), a.length ≤ pszL a
  | [] => Nat.le_refl _
  | d :: a => by
    have := psz_pos d
    have := pszL_len a
    simp only [List.length_cons, pszL]
    omega
theorem inner_less {d : PyData} {ds : List PyData} (h : innerD d = some ds) : pszL ds < psz d := by
  unfold innerD at h
  split at h
  · split at h
    · have h := Option.some.inj h
      subst h
      simp only [psz, pszL]
      omega
    · cases h
  · split at h
    · have h := Option.some.inj h
      subst h
      simp only [psz, pszL]
      omega
    · cases h
  · split at h
    · have h := Option.some.inj h
      subst h
      simp only [psz, pszL]
      omega
    · cases h
  · cases h
end L3

/-! a list of anything beside the empty one -/
namespace L3
open PySem PySem.Spec PyProof.Rows L2
open PySem.SeqAt
def rEqNilL (K : PySem.W.Frag) : R2 := fun x y H Q => ∃ (a b : Addr) (xs : List V), x = .ref a ∧ y = .ref b ∧ SqL K H a xs ∧ SqL K H b [] ∧ Q (.bl xs.isEmpty) H
theorem op_eqNilL {X : Cx} (hu : X.A.units + 64 < cLine) : OpR X (compareOp .Eq) (rEqNilL X.K) := by
  intro pins s σ H x y v u Q I rx ry h
  obtain ⟨a, b, xs, rfl, rfl, ha, hb, q⟩ := h
  obtain rfl : v = Value.ref a := rx
  obtain rfl : u = Value.ref b := ry
  obtain ⟨its, rv, ⟨o, n, ho, hc, _, hd⟩, _⟩ := I.list ha
  obtain ⟨its2, rv2, ⟨o2, n2, ho2, hc2, _, hd2⟩, _⟩ := I.list hb
  cases rv2
  cases rv with
  | nil =>
    refine RcAt.lists (e := fun _ => true) ⟨o, ho, hc, n, hd⟩ ⟨o2, ho2, hc2, n2, hd2⟩ rfl (by omega) (fun j h1 h2 => absurd h2 (by simp)) _ _ _ _ ?_
    exact ⟨.bl true, H, I, rfl, q⟩
  | cons r1 rr =>
    refine RcAt.lists_lengths ⟨o, ho, hc, n, hd⟩ ⟨o2, ho2, hc2, n2, hd2⟩ (by simp) (by omega) _ _ _ _ ?_
    exact ⟨.bl false, H, I, rfl, q⟩
end L3

/-! l.extend(a tuple) -/
namespace PySem.AutoSeq1
open PySem
theorem extend_by_tuple (l : Addr) (own : Array Value) (n : Nat) (b : Addr) (more : Array Value) (m : Nat) (dd : Option Addr) (sl : Array (Option Value)) (k0 : ¬(!own.isEmpty && Builtin.List.listTooLong (own.size + more.size)) = true) (k1 : own.size ≤ sizeLine) (k2 : own.size + more.size ≤ sizeLine + 1) :
    Meets (Builtin.«list.extend» ⟨[.ref l, .ref b], []⟩) (fun _ R s => s.heap.get? l = some { cls := .type "list", dict := none, data := .seq own n, slots := #[] } ∧ s.heap.get? b = some { cls := .type "tuple", dict := dd, data := .seq more m, slots := sl } ∧
      R (.ok (.ret Value.none)) { s with heap := s.heap.update l (Obj.mapSeq fun x => x ++ more), toks := s.toks }) :=
  .of_wp fun prog w A R s h => by
    obtain ⟨hp, gs, dr, tk, ops⟩ := s
    obtain ⟨q1, q2, h⟩ := h
    have f1 := idx_int
    have f2 := sub_tuple_tuple
    have f3 := sub_list_list
    have f4 := sub_tuple_list
    have f5 := sub_list_tuple
    have k3 : (own ++ more).size ≤ sizeLine + 1 := by
      rw [Array.size_append]
      exact k2
    wp_walk using (wpAny_updateSeq q1 rfl (hz := k1) (_hz' := k3)), wpAny_loadPart' q1, wpAny_loadPart' q2
    exact ⟨_, rfl, h⟩
end PySem.AutoSeq1
namespace L3
open PySem PySem.Spec PyProof.Rows L2
variable {X : Cx}
def rExtendT (K : PySem.W.Frag) : V → List V → Hp → VK → Prop := fun x vs H Q => ∃ l b xs zs, x = .ref l ∧ vs = [.ref b] ∧ H l = some (.lst xs) ∧ SqT K H b zs ∧ xs.length + zs.length ≤ sizeLine ∧ Q .non (upd H l (.lst (xs ++ zs)))
theorem mt_extendT : MtM X "list.extend" (rExtendT X.K) := by
  intro pins s σ H x vs v us Q I rx rv hx
  obtain ⟨l, b, xs, zs, rfl, rfl, g1, g2, zz, q⟩ := hx
  cases rx
  obtain ⟨u, rfl, ru⟩ := rv.one
  cases ru
  obtain ⟨_, own, n, r1, l1, e1⟩ := I.lstM g1
  obtain ⟨more, r2, ⟨⟨_, dd2, _, sl2⟩, e2, c2, n2, d2⟩, _⟩ := I.tuple g2
  simp only at c2 d2
  subst c2 d2
  have l2 := r2.length
  have sz : own.toArray.size + more.toArray.size ≤ sizeLine := by
    rw [List.size_toArray, List.size_toArray]
    omega
  have k0 : ¬ (!own.toArray.isEmpty && Builtin.List.listTooLong (own.toArray.size + more.toArray.size)) = true := by
    rw [notLongL sz, Bool.and_false]
    nofun
  have k1 : own.toArray.size ≤ sizeLine := by omega
  have fin := AutoSeq1.extend_by_tuple l own.toArray n b more.toArray n2 dd2 sl2 k0 k1 (by omega)
  refine call_meets F.slot_list_extend ⟨_, e1, rfl⟩ F.entry_list_extend (F.args_list_extend_2 _ _) fin ⟨e1, e2, ?_⟩
  refine ⟨.non, _, I.lset (its' := own ++ more) g1 e1 (by simp) (r1.append r2) ?_, rfl, q⟩
  rw [List.length_append]
  exact zz
end L3

/-! defs that are called where nothing is being shown: they may ask repr -/
namespace L3
open PySem PySem.Spec PyProof.Rows L2
def FnG (P : Program) (w : World) (K : PySem.W.Frag) (mg : Str → Option Value) (base : Heap) (k : Nat) (f : Addr) (sp : Sp) : Prop :=
  ∀ (A : Around) (outer : List Env) (s : Shared) (H : Hp) (us : List Value) (vs : List V) (Q : VK), Room k A → A.guards = some [] → Env0 P w K mg base A outer s H → Vals vs us → sp vs H Q E0 →
    codeAny (model P w) A (.call (.ref f) ⟨us, []⟩) (CR CX0 outer P w H s Q E0) s
structure KnG (P : Program) (w : World) (K : PySem.W.Frag) (mg : Str → Option Value) (base : Heap) (k : Nat) (x : Str) (sp : Sp) : Prop where
  ex : ∃ (f : Addr), FnG P w K mg base k f sp ∧ mg x = some (.ref f) ∧ PySem.W.keepIn K (.ref f) = true
section
variable {X : Cx} {x : Str} {k : Nat} {sp : Sp} {e : Expr} {es : List Expr} {t : TA} {p pos : Pos}
def tCallG (sp : Sp) (t : TA) : TE := fun σ H Q => t σ H fun vs H1 => sp vs H1 Q E0
theorem pe_kg (D : KnG X.prog X.w X.K X.mg X.base k x sp) (hr : Room k X.A) (h0 : X.A.guards = some []) (ha : PA X (e :: es) t) (hg : Gl X x := by rfl) (hdb : (x == ("__debug__" : Str)) = false := by decide)
    (he : starEach (e :: es) X.env = (false, eval e X.env) :: starEach es X.env := by rfl) (hpl : (backTo pos (starEach es X.env)).any (·.1) = false := by rfl) :
    PE X (.Call (.Name x p) (e :: es) [] pos) (tCallG sp t) := by
  obtain ⟨f, F, hm, hk⟩ := D.ex
  refine ⟨fun pins s σ H Q I h => ?_⟩
  refine wpAny_Call_Name_kw (ld_glob I hg hm ?_ hdb)
  refine PySem.W.callWith_K (h₀ := X.base) I.ok.mod.kin hk (thn (ha.run pos pins s σ H _ I h) fun us s1 ⟨vs, H1, I1, r, q⟩ => ⟨I1.kIn, ?_⟩) he hpl
  refine wpAny_call (codeAny_mono (F X.A X.stack s1 H1 us vs Q hr h0 I1.env0 r q) fun r' s' hq => ?_)
  cases r' with
  | error e => exact pass0 pins σ H1 s1 e s' I1 hq
  | ok fl =>
    cases fl with
    | ret u => exact I1.after hq
    | next => exact hq.elim
    | brk => exact hq.elim
    | cont => exact hq.elim
end
section
variable {P : Program} {w : World} {K : PySem.W.Frag} {mg : Str → Option Value} {base : Heap}
theorem fnG_of {qual : Str} {st : Stmt} {f : Addr} {fd : FuncData} {N ps : List Str} {k : Nat} {sp : Sp} (F : Fun K qual qual st f fd) (S : FnScope N ps (defScope st)) (len : ∀ vs H Q E, sp vs H Q E → vs.length = ps.length) (hb : Binds K fd ps [])
    (hbody : ∀ (cdv : Value) (A : Around) (outer : List Env) (s : Shared) (H : Hp) (vs : List V) (Q : VK), Room k (A.deeper (envOfC qual (defScope st) s.heap.objs.size f cdv)) → A.guards = some [] → sp vs H Q E0 →
      ∃ t, PSs (cxOf CX0 P w K mg base N qual (defScope st) f cdv A outer s H E0).nox (defBody st) t ∧ t { nx := fun _ H' => Q .non H', rt := Q } (start N vs) H) : FnG P w K mg base (k + 1) f sp := by
  obtain ⟨oc, od, kV, doc, pm, an, cdv, ct, osl, rfl, lk, hcd⟩ := F.ex
  intro A outer s H us vs Q hr h0 e0 rv hsp
  have inK : K.In s.heap := e0.mod.kin.keeps fun b o z => (e0.bs b o z).1
  have noL : s.heap.NoLimit := e0.mod.nolimit.keeps fun b o z => (e0.bs b o z).1
  have hl := len _ _ _ _ hsp
  have kinds : ∀ y ∈ (ps.zip us : List (Str × Value)), (defScope st).names.lookup y.1 = some .local ∨ ((defScope st).names.lookup y.1 = some .cell ∧ ((cellsFrom (s.heap.objs.size + 1) (defScope st).names []).lookup y.1).isSome = true) := by
    rintro ⟨n, z⟩ hy
    rcases S.par n (List.of_mem_zip hy).1 with q | q
    · exact Or.inl q
    · exact Or.inr ⟨q, PySem.W.cellsFrom_some _ _ _ (Or.inl q)⟩
  have bd : BindsTo s (PySem.W.fnOf qual qual (defArgs st) (defBody st) (defScope st) .none kV doc pm an cdv ct) ⟨us, []⟩ (ps.zip (us ++ [])) := hb s us inK (by rw [List.append_nil, ← rv.length]; exact hl)
  rw [List.append_nil] at bd
  refine codeAny_call_function hr.depth (inK _ _ lk) rfl S.co S.gen rfl (PySem.W.codeRec_of inK hcd) (bd _ _ _ _ ?_)
  refine wpAny_newFunctionEnv_cells S.kind kinds fun env he s1 xx => ?_
  subst he
  refine ⟨noL.keeps xx.toInCall.keep, codeAny_func ?_⟩
  obtain ⟨t, ht, hq⟩ := hbody cdv A outer s H vs Q (hr.deeper _) h0 hsp
  have J : Inv (cxOf CX0 P w K mg base N qual (defScope st) f cdv A outer s H E0) [] (start N vs) H s1 := inv_start S hr.hd e0 hl rv xx
  refine wpAny_mono ((PSs.nox ht).run [] s1 (start N vs) H _ J hq) (fun fl s' hs => ?_) (fun e s' hs => hs)
  cases fl with
  | next =>
    obtain ⟨σ', H', J', q⟩ := hs
    exact ⟨V.non, H', J'.os, J'.bare, J'.base, J'.hok, rfl, q⟩
  | ret z =>
    obtain ⟨v', σ', H', J', rz, q⟩ := hs
    exact ⟨v', H', J'.os, J'.bare, J'.base, J'.hok, rz, q⟩
  | brk =>
    obtain ⟨_, _, _, q⟩ := hs
    exact q.elim
  | cont =>
    obtain ⟨_, _, _, q⟩ := hs
    exact q.elim
theorem grd_deep {A : Around} {env : Env} (h : A.guards = some []) : (A.deeper env).guards = some [] := h
end
end L3

/-! literals with an operator in them; a text times a number -/
namespace L3
open PySem PySem.Spec PyProof.Rows L2
/-- a text so often -/
def repS (x : Str) (n : Nat) : Str := ⟨(List.replicate n x.cps).foldl (· ++ ·) #[]⟩
theorem repS_len (x : Str) (n : Nat) : (repS x n).length = x.length * n := by
  have h : ∀ (k : Nat) (acc : Array Nat), ((List.replicate k x.cps).foldl (· ++ ·) acc).size = acc.size + x.length * k := by
    intro k
    induction k with
    | zero => intro acc; simp
    | succ k ih =>
      intro acc
      rw [List.replicate_succ, List.foldl_cons, ih, Array.size_append, Nat.mul_succ]
      show acc.size + x.length + _ = _
      omega
  have := h n #[]
  show ((List.replicate n x.cps).foldl (· ++ ·) #[]).size = _
  rw [this]
  simp
section
variable {X : Cx}
/-- a text that is not empty times a number above 1 -/
def rRepS : R2 := fun x y H Q => ∃ (a : Str) (k : Int), x = .str a ∧ y = .int k ∧ 2 ≤ k ∧ k ≤ 100000 ∧ 1 ≤ a.length ∧ a.length * k.toNat ≤ sizeLine ∧ Q (.str (repS a k.toNat)) H
theorem op_repS : OpR X (binaryOp .Mult) rRepS := by
  intro pins s σ H x y v u Q I rx ry h
  obtain ⟨a, k, rfl, rfl, k2, k3, l1, lz, q⟩ := h
  obtain ⟨t, rfl⟩ := (show ∃ t, v = Value.str a t from rx)
  obtain ⟨t', rfl⟩ := (show ∃ t, u = Value.int k t from ry)
  have n1 : (k == 1 || a.length == 0) = false := by
    rw [Bool.or_eq_false_iff]
    refine ⟨?_, ?_⟩
    · rw [beq_eq_false_iff_ne]
      omega
    · rw [beq_eq_false_iff_ne]
      omega
  refine PySem.P.mul_str ?_ (fun _ _ => ?_) (fun _ _ => ?_) ?_
  · rw [decide_eq_false (by omega), decide_eq_false (by omega)]
    rfl
  · have e : ((a.length * k.toNat : Nat) : Int) = (a.length : Int) * k := by
      rw [Int.natCast_mul, Int.toNat_of_nonneg (by omega)]
    have hz : ((a.length * k.toNat : Nat) : Int) ≤ (sizeLine : Int) := by omega
    rw [sizeLine_eq] at hz
    have : (a.length : Int) ≤ (2 ^ 63 - 1) / k := by
      rw [Int.le_ediv_iff_mul_le (by omega)]
      omega
    omega
  · exact decide_eq_false (by omega)
  · rw [if_neg (by omega), n1, if_neg Bool.false_ne_true]
    refine ⟨?_, ⟨.str (repS a k.toNat), H, I.tok _, ⟨_, rfl⟩, q⟩⟩
    show (repS a k.toNat).length ≤ sizeLine
    rw [repS_len]
    exact lz
end
section
variable {X : Cx} {e e2 : Expr} {pos : Pos} {t : Addr} {i j : Int}
theorem da_int {H : Hp} {v : V} (h : Da t H v (.int i)) : v = .int i := by cases h; rfl
theorem pl_negE (h : PE X e (tLit t (.int i))) : PE X (.UnaryOp .USub e pos) (tLit t (.int (-i))) :=
  (pe_un un_neg h).weak fun σ H Q ⟨ho, q⟩ => ⟨ho, fun H1 v s1 d1 => ⟨i, da_int d1, q H1 _ s1 (.int _)⟩⟩
theorem pl_addI (h : PE X e (tLit t (.int i))) (h2 : PE X e2 (tLit t (.int j))) : PE X (.BinOp e .Add e2 pos) (tLit t (.int (i + j))) :=
  (pe_op op_add h h2).weak fun σ H Q ⟨⟨o, ho⟩, q⟩ => ⟨⟨o, ho⟩, fun H1 v s1 d1 => ⟨⟨o, s1 _ _ ho⟩, fun H2 v2 s2 d2 => ⟨i, j, da_int d1, da_int d2, q H2 _ (s1.trans s2) (.int _)⟩⟩⟩
theorem pl_subI (h : PE X e (tLit t (.int i))) (h2 : PE X e2 (tLit t (.int j))) : PE X (.BinOp e .Sub e2 pos) (tLit t (.int (i - j))) :=
  (pe_op op_sub h h2).weak fun σ H Q ⟨⟨o, ho⟩, q⟩ => ⟨⟨o, ho⟩, fun H1 v s1 d1 => ⟨⟨o, s1 _ _ ho⟩, fun H2 v2 s2 d2 => ⟨i, j, da_int d1, da_int d2, q H2 _ (s1.trans s2) (.int _)⟩⟩⟩
theorem pl_rep {x : Str} {k : Int} (h : PE X e (tC (.str x))) (h2 : PE X e2 (tC (.int k))) (c : 2 ≤ k ∧ k ≤ 100000 ∧ 1 ≤ x.length ∧ x.length * k.toNat ≤ 100000 := by decide) : PE X (.BinOp e .Mult e2 pos) (tLit t (.str (repS x k.toNat))) :=
  (pe_op op_repS h h2).weak fun σ H Q ⟨_, q⟩ => ⟨x, k, rfl, rfl, c.1, c.2.1, c.2.2.1, Nat.le_trans c.2.2.2 (by decide), q H _ (Same.refl H) (.str _)⟩
end
/-- a new list, which is not the table of modules -/
def tLstN (t : TA) : TE := fun σ H Q => t σ H fun xs H1 => xs.length ≤ sizeLine ∧ ∀ p, H1 p = none → p ≠ sysModules → Q (.ref p) (upd H1 p (.lst xs))
theorem pe_lstN {X : Cx} {es : List Expr} {t : TA} {pos : Pos} (h : PA X es t) : PE X (.List es pos) (tLstN t) := by
  refine ⟨fun pins s σ H Q I hq => ?_⟩
  refine wpAny_List_spliced (thn (h.run pos pins s σ H (fun vs H1 => vs.length ≤ sizeLine ∧ ∀ p, H1 p = none → p ≠ sysModules → Q (.ref p) (upd H1 p (.lst vs))) I hq) fun us s1 ⟨xs, H1, I1, r, lz, kk⟩ => ⟨by rw [← r.length]; exact lz, ?_⟩)
  have hf : H1 s1.heap.objs.size = none := I1.hok.fresh (Nat.le_refl _)
  refine ⟨.ref s1.heap.objs.size, upd H1 s1.heap.objs.size (.lst xs), I1.laid (t' := s1.toks) (fun b u e => Heap.get?_push_of_some _ e) (Nat.le_refl _) ?_, rfl, kk _ hf (Nat.ne_of_gt I1.big)⟩
  exact ⟨lz, us, 0, r, Heap.get?_push_size _ rfl⟩
end L3

/-! values of tuples alone: a change of lists leaves them -/
namespace L3
open PySem L2
mutual
def pur : PyData → Bool
  | .list _ => false
  | .dict _ => false
  | .tuple ds => purL ds
  | _ => true
def purL : List PyData → Bool
  | [] => true
  | d :: ds => pur d && purL ds
end
mutual
theorem Da.keepU {t : Addr} {H H' : Hp} (u : ∀ a xs, H a = some (.tup xs) → H' a = some (.tup xs)) : ∀ {d : PyData} {v : V}, pur d = true → Da t H v d → Da t H' v d
  | .none, _, _, h => by cases h; exact .non
  | .bool b, _, _, h => by cases h; exact .bl b
  | .int i, _, _, h => by cases h; exact .int i
  | .str x, _, _, h => by cases h; exact .str x
  | .list ds, _, p, _ => by simp only [pur] at p; cases p
  | .dict ds, _, p, _ => by simp only [pur] at p; cases p
  | .tuple ds, _, p, h => by
    simp only [pur] at p
    cases h with
    | tup h1 h3 => exact .tup (u _ _ h1) (DaAll.keepU u p h3)
theorem DaAll.keepU {t : Addr} {H H' : Hp} (u : ∀ a xs, H a = some (.tup xs) → H' a = some (.tup xs)) : ∀ {ds : List PyData} {vs : List V}, purL ds = true → DaAll t H vs ds → DaAll t H' vs ds
  | [], _, _, h => by cases h; exact .nil
  | d :: ds, _, p, h => by
    simp only [purL, Bool.and_eq_true] at p
    cases h with
    | cons h1 h2 => exact .cons (Da.keepU u p.1 h1) (DaAll.keepU u p.2 h2)
end
theorem purL_app : ∀ (a b : List PyData), purL (a ++ b) = (purL a && purL b)
  | [], b => by simp [purL]
  | d :: a, b => by simp only [List.cons_append, purL, purL_app a b, Bool.and_assoc]
theorem purL_rep {d : PyData} (h : pur d = true) : ∀ n, purL (List.replicate n d) = true
  | 0 => by simp [purL]
  | n + 1 => by simp only [List.replicate_succ, purL, h, purL_rep h n, Bool.and_self]
theorem daAll_rep {t : Addr} {H : Hp} {v : V} {d : PyData} (h : Da t H v d) : ∀ n, DaAll t H (List.replicate n v) (List.replicate n d)
  | 0 => .nil
  | n + 1 => .cons h (daAll_rep h n)
/-- a list grows by one -/
theorem keep_lst {H : Hp} {D : Addr} {xs ys : List V} (g : H D = some (.lst xs)) : ∀ a zs, H a = some (.tup zs) → (upd H D (.lst ys)) a = some (.tup zs) := fun a zs z => by
  rw [upd_ne (fun y => by rw [y, g] at z; cases z)]
  exact z
end L3

/-! slices of tuples, put together; list(t) -/
namespace L3
open PySem L2
theorem catA_ok {K : PySem.W.Frag} {H : Hp} {Q : VK} {a b : Addr} {xs ys : List V} (ha : H a = some (.tup xs)) (hb : H b = some (.tup ys)) (hz : xs.length + ys.length ≤ 900000) (k : ∀ H' q, Same H H' → H' q = some (.tup (xs ++ ys)) → Q (.ref q) H') : rCatA K (.ref a) (.ref b) H Q := by
  refine ⟨a, b, xs, ys, rfl, rfl, SqT.of ha, SqT.of hb, Nat.le_of_lt (szl (by omega)), fun e => ?_, fun _ e => ?_, fun _ _ p hp => k _ p (same_new hp) upd_same⟩
  · subst e
    exact k H b (Same.refl H) hb
  · subst e
    exact k H a (Same.refl H) (by rw [List.append_nil]; exact ha)
theorem slA_ok {K : PySem.W.Frag} {H : Hp} {Q : VK} {a : Addr} {xs : List V} {lo hi : Option Int} (ha : H a = some (.tup xs)) (k : ∀ H' q, Same H H' → H' q = some (.tup (cutV xs lo hi)) → Q (.ref q) H') : rSlA K (.ref a) lo hi H Q := by
  refine ⟨a, xs, rfl, SqT.of ha, fun e => k H a (Same.refl H) ?_, fun _ p hp => k _ p (same_new hp) upd_same⟩
  have : cutV xs lo hi = xs := by
    unfold cutV
    rw [e.1, e.2, List.drop_zero, Nat.sub_zero, List.take_length]
  rw [this]
  exact ha
theorem cut_front (l : List V) (x : V) (r : List V) : cutV (l ++ x :: r) none (some (l.length : Int)) = l := by
  unfold cutV
  rw [HT.sIx_none, HT.sIx_nat, List.length_append, List.length_cons, Nat.min_eq_left (by omega), List.drop_zero, Nat.sub_zero, List.take_left']
  rfl
theorem cut_back (l : List V) (x : V) (r : List V) : cutV (l ++ x :: r) (some ((l.length : Int) + 1)) none = r := by
  unfold cutV
  rw [show (l.length : Int) + 1 = ((l.length + 1 : Nat) : Int) by omega, HT.sIx_none, HT.sIx_nat, List.length_append, List.length_cons, Nat.min_eq_left (by omega)]
  have e : (l ++ x :: r).drop (l.length + 1) = r := by
    rw [← List.drop_drop, List.drop_left]
    rfl
  rw [e, List.take_of_length_le (by omega)]
theorem daAll_split {t : Addr} {H : Hp} : ∀ {ds : List PyData} {vs : List V} (i : Nat), i < vs.length → DaAll t H vs ds → ∃ l x r dl dx dr, vs = l ++ x :: r ∧ ds = dl ++ dx :: dr ∧ l.length = i ∧ DaAll t H l dl ∧ Da t H x dx ∧ DaAll t H r dr
  | [], _, i, hi, h => by cases h; cases hi
  | d :: ds, _, 0, hi, h => by
    cases h with
    | @cons v vs _ _ h1 h2 => exact ⟨[], v, vs, [], d, ds, rfl, rfl, rfl, .nil, h1, h2⟩
  | d :: ds, _, i + 1, hi, h => by
    cases h with
    | @cons v vs _ _ h1 h2 =>
      obtain ⟨l, x, r, dl, dx, dr, e1, e2, e3, g1, g2, g3⟩ := daAll_split i (by simpa using hi) h2
      exact ⟨v :: l, x, r, d :: dl, dx, dr, by rw [e1]; rfl, by rw [e2]; rfl, by rw [List.length_cons, e3], .cons h1 g1, g2, g3⟩
theorem depthAll_app : ∀ (a b : List PyData), PyData.depthAll (a ++ b) = max (PyData.depthAll a) (PyData.depthAll b)
  | [], b => by simp [PyData.depthAll]
  | d :: a, b => by simp only [List.cons_append, PyData.depthAll, depthAll_app a b]; omega
theorem call_listN {X : Cx} : CallR X (.type "list") (fun xs H Q => ∃ p ys, xs = [.ref p] ∧ SqT X.K H p ys ∧ ∀ l, H l = none → l ≠ sysModules → Q (.ref l) (upd H l (.lst ys))) := by
  intro pins s σ H xs us Q I r ⟨p, ys, e, hq, q⟩
  subst e
  obtain ⟨u, rfl, rx⟩ := vals1 r
  cases rx
  obtain ⟨its, rv, pl, hz⟩ := I.tuple hq
  have hn := rv.length
  obtain ⟨o, ho, hc, n, hd⟩ := pl
  refine call_list_seq p (.inr rfl) ho hc hd (fun h' c' kp e => ?_) (by simp only [List.size_toArray] <;> omega)
  exact ⟨.ref _, _, I.laid (t' := s.toks) kp (Nat.le_refl _) (show ObjOk X.prog X.w _ h' _ (.lst ys) from ⟨hz, its, c', rv, e⟩), rfl, q _ (I.hok.fresh (Nat.le_refl _)) (Nat.ne_of_gt I.big)⟩
end L3

/-! a dict of the module whose keys are texts: what it has -/
namespace L3
open PySem L2
def keyNm (e : DictEntry) : Option Str := match e.key with
  | .str x _ => some x
  | _ => none
theorem has_of {K : PySem.W.Frag} {a : Addr} {es : Array DictEntry} {n : Nat} {ks : List Str} (l : K.lookup a = some ⟨.type "dict", none, .dict es n, #[]⟩) (hk : es.toList.map keyNm = ks.map some) : ∀ z : Str, ∃ r, PySem.W.nsIn K a z = some r ∧ r.isSome = decide (z ∈ ks) := by
  intro z
  unfold PySem.W.nsIn
  rw [l]
  show ∃ r, (match es.toList.find? (·.key.isStr z) with
    | some e => some (some e.val)
    | none => if es.toList.any (·.refKey) then none else some none) = some r ∧ _
  generalize es.toList = l at hk
  have key : ∀ (l : List DictEntry) (ks : List Str), l.map keyNm = ks.map some → (l.find? (·.key.isStr z)).isSome = decide (z ∈ ks) ∧ l.any (·.refKey) = false := by
    intro l
    induction l with
    | nil =>
      intro ks h
      cases ks with
      | nil => exact ⟨rfl, rfl⟩
      | cons _ _ => cases h
    | cons e r ih =>
      intro ks h
      cases ks with
      | nil => cases h
      | cons x ks =>
        rw [List.map_cons, List.map_cons] at h
        injection h with h1 h2
        obtain ⟨i1, i2⟩ := ih ks h2
        obtain ⟨tk, ek⟩ : ∃ tk, e.key = .str x tk := by
          unfold keyNm at h1
          split at h1
          · rename_i y tk q
            injection h1 with h1
            exact ⟨tk, by rw [q, h1]⟩
          · cases h1
        refine ⟨?_, ?_⟩
        · rw [List.find?_cons]
          have es : e.key.isStr z = decide (z = x) := by
            rw [ek]
            show (x == z) = decide (z = x)
            rw [Bool.eq_iff_iff, beq_iff_eq, decide_eq_true_eq]
            exact eq_comm
          rw [es]
          by_cases c : z = x
          · rw [decide_eq_true c]
            simp [c]
          · rw [decide_eq_false c]
            simp only [i1]
            rw [Bool.eq_iff_iff, decide_eq_true_eq, decide_eq_true_eq, List.mem_cons]
            exact ⟨.inr, fun h => h.resolve_left c⟩
        · rw [List.any_cons, i2, Bool.or_false]
          unfold DictEntry.refKey
          rw [ek]
  obtain ⟨k1, k2⟩ := key l ks hk
  cases hf : l.find? (·.key.isStr z) with
  | some e =>
    rw [hf] at k1
    exact ⟨some e.val, rfl, k1⟩
  | none =>
    rw [hf] at k1
    refine ⟨none, ?_, k1⟩
    show (if l.any (·.refKey) = true then none else some none) = some none
    rw [k2]
    rfl
end L3

namespace L3
open PySem L2
def topS (i : Nat) : Stmt := PySem.Challenge.pw_leastneeds_k58_values_by_form.main.body.getD i (.Pass ⟨0, 0, 0, 0⟩)
section
variable {P : Program} {w : World} {K : PySem.W.Frag} {mg : Str → Option Value} {base : Heap}

abbrev s__law_begin : Stmt := topS 18
abbrev N__law_begin : List Str := ["_law_script"]
theorem sc__law_begin : FnScope N__law_begin ["_law_script"] (defScope s__law_begin) := ⟨rfl, rfl, rfl, by decide +kernel, rfl, by decide +kernel, by decide +kernel⟩
def spBegin (K : PySem.W.Frag) : Sp := fun vs H Q _ => ∃ (a : Addr) (ns : List Int), vs = [.ref a] ∧ SqL K H a (ns.map V.int) ∧ ∀ (H' : Hp) (t c : Addr), Same H H' → H t = none → Tape K H' t c 1000000 → Q (.ref t) H'
theorem cut63 (ns : List Int) : cutV (ns.map V.int) none (some 63) = (ns.take 63).map V.int := by
  unfold cutV
  rw [HT.sIx_none, show (63 : Int) = ((63 : Nat) : Int) from rfl, HT.sIx_nat, List.drop_zero, List.length_map, Nat.sub_zero, List.map_take]
  by_cases h : 63 ≤ ns.length
  · rw [Nat.min_eq_left h]
  · rw [Nat.min_eq_right (by omega), List.take_of_length_le (by simp), List.take_of_length_le (by simp; omega)]
theorem ok_begin {f : Addr} {fd : FuncData} (F : Fun K "_law_begin" "_law_begin" s__law_begin f fd) : FnOk P w K mg base CX0 1 f fd ["_law_script"] (spBegin K) := by
  refine F.ok sc__law_begin (fun vs H Q E h => ?_) (fun cdv A outer s H vs Q E hr h => ?_)
  · obtain ⟨a, ns, rfl, _⟩ := h
    rfl
  · obtain ⟨a, ns, rfl, hS, k⟩ := h
    refine ⟨_, (pss_one (ps_ret (pe_disp (pps_cons pe_str (pe_orT (pe_slice sl_list (pv 0) po_none (po_some pe_int)) (pe_one (pe_lst (pa_cons pe_int pa_nil)))) (pps_cons pe_str pe_int (pps_cons pe_str pe_int pps_nil))) (by rfl) (by rfl) (fun z => by cases z) (by decide)))), ?_⟩
    intro t ht
    have s0 : Same H (upd H t (.dK [])) := same_new ht
    refine ⟨_, rfl, _, rfl, a, _, rfl, s0.seq hS, fun q hq => ?_⟩
    rw [cut63]
    have nq : t ≠ q := fun e => by
      rw [← e, upd_same] at hq
      cases hq
    have s1 : Same (upd H t (.dK [])) (upd (upd H t (.dK [])) q (.lst ((ns.take 63).map V.int))) := same_new hq
    -- what stands at the end
    have fin : ∀ (H2 : Hp) (c : Addr) (ms : List Int), Same (upd H t (.dK [])) H2 → H2 c = some (.lst (ms.map V.int)) → c ≠ t → 0 < ms.length → ms.length ≤ 63 →
        H2 t = some (.dK []) ∧ ∃ kvs : List (Key × V), [(V.str "cells", V.ref c), (V.str "place", V.int 0), (V.str "left", V.int 0)] = kvs.map (fun kv => (kV kv.1, kv.2)) ∧ kvs.length ≤ 15 ∧ Q (.ref t) (upd H2 t (.dK (mergeK [] kvs))) := by
      intro H2 c ms h2 hc nc h0 h63
      refine ⟨h2 _ _ upd_same, tp c 0 0, rfl, by show 3 ≤ 15; decide, ?_⟩
      refine k _ t c (fun b o e => ?_) ht ⟨0, 0, ms, ?_, SqL.of ?_, nc, h0, h63, by omega, by omega, by omega⟩
      · have n : b ≠ t := ne_of_none e ht
        rw [upd_ne n]
        exact h2 _ _ (s0 _ _ e)
      · rw [upd_same]
        rfl
      · rw [upd_ne nc]
        exact hc
    refine ⟨_, .inl ⟨_, SqL.of upd_same, rfl⟩, ?_⟩
    cases hns : ns.take 63 with
    | nil =>
      rw [hns] at s1
      refine iteF ?_
      refine ⟨by decide, fun r hr2 => ?_⟩
      refine fin _ r [0] (s1.trans (same_new hr2)) upd_same (fun e => ?_) (by decide) (by decide)
      rw [e, upd_ne nq, upd_same] at hr2
      cases hr2
    | cons z zs =>
      refine iteT ?_
      refine fin _ q (z :: zs) (by rw [← hns]; exact s1) (by rw [upd_same]) nq.symm (Nat.zero_lt_succ _) ?_
      rw [← hns, List.length_take]
      omega

/-! ### a number from the tape -/
abbrev s__law_draw : Stmt := topS 19
abbrev N__law_draw : List Str := ["_law_tape", "_law_many", "_law_place", "_law_count", "_law_cell", "_law_found"]
theorem sc__law_draw : FnScope N__law_draw ["_law_tape", "_law_many"] (defScope s__law_draw) := ⟨rfl, rfl, rfl, by decide +kernel, rfl, by decide +kernel, by decide +kernel⟩
theorem get_left {H : Hp} {t c : Addr} {p l : Int} (h : H t = some (.dK (tp c p l))) : DGet H t (.str "left") (some (.int l)) := DGet.k (k := .inr "left") h
theorem get_place {H : Hp} {t c : Addr} {p l : Int} (h : H t = some (.dK (tp c p l))) : DGet H t (.str "place") (some (.int p)) := DGet.k (k := .inr "place") h
theorem get_cells {H : Hp} {t c : Addr} {p l : Int} (h : H t = some (.dK (tp c p l))) : DGet H t (.str "cells") (some (.ref c)) := DGet.k (k := .inr "cells") h
theorem put_left {H : Hp} {t c : Addr} {p l q : Int} (h : H t = some (.dK (tp c p l))) : DPut H t (.str "left") (.int q) (upd H t (.dK (tp c p q))) := DPut.k (k := .inr "left") (v := .int q) h (by show 3 < sizeLine; decide)
theorem put_place {H : Hp} {t c : Addr} {p l q : Int} (h : H t = some (.dK (tp c p l))) : DPut H t (.str "place") (.int q) (upd H t (.dK (tp c q l))) := DPut.k (k := .inr "place") (v := .int q) h (by show 3 < sizeLine; decide)
def spDraw (K : PySem.W.Frag) : Sp := fun vs H Q _ => ∃ (t c : Addr) (n : Int) (b : Nat), vs = [.ref t, .int n] ∧ 1 ≤ n ∧ n < 1000000 ∧ Tape K H t c (b + 1) ∧
  ∀ (H' : Hp) (r : Int), Ext t H H' → Tape K H' t c b → 0 ≤ r → r < n → Q (.int r) H'
theorem ok_draw {f : Addr} {fd : FuncData} (F : Fun K "_law_draw" "_law_draw" s__law_draw f fd) (B : Bl mg) : FnOk P w K mg base CX0 1 f fd ["_law_tape", "_law_many"] (spDraw K) := by
  refine F.ok sc__law_draw (fun vs H Q E h => ?_) (fun cdv A outer s H vs Q E hr h => ?_)
  · obtain ⟨t, c, n, b, rfl, _⟩ := h
    rfl
  · obtain ⟨t, c, n, b, rfl, hn1, hn2, ⟨p, l, ns, h1, h2, h3, h4, h5, h6, h7, h8⟩, k⟩ := h
    have hu := hu_of hr
    refine ⟨_, (pss_cons (ps_if (pt_cmpR op_lt (pe_dget hu (pv 0) pe_str (fun _ _ => rfl)) (pv 1) (nomark _))
  (pss_cons (ps_par (i := 2) (j := 3) (by rfl) sc__law_draw.nd rfl rfl (by decide) rfl rfl (pa_cons (pe_dget hu (pv 0) pe_str (fun _ _ => rfl)) (pa_cons (pe_callB call_len (by rfl) B.len PySem.boot_len (pa_cons (pe_dget hu (pv 0) pe_str (fun _ _ => rfl)) pa_nil)) pa_nil)) (by rfl))
  (pss_cons (ps_asg (pe_tup (pa_cons (pe_ix ix_list (pe_dget hu (pv 0) pe_str (fun _ _ => rfl)) (pe_op op_mod (pe_callTy call_int1 (by rfl) B.int (by decide +kernel) (pa_cons (pv 2) pa_nil)) (pv 3)) (fun _ _ => rfl)) (pa_cons (pe_op op_add (pv 2) pe_int) pa_nil))) (pg_tup (by rfl) (pgs_cons (pg_name (i := 4) sc__law_draw.nd rfl (Or.inl rfl)) (pgs_cons (pg_sub (pv 0) pe_str (set_dict hu)) pgs_nil))))
  (pss_cons (ps_dput hu (pv 0) pe_str (pe_op op_mod (pe_callTy call_int1 (by rfl) B.int (by decide +kernel) (pa_cons (pe_op op_pow (pe_op op_add (pe_op op_add (pe_op op_mod (pe_callTy call_int1 (by rfl) B.int (by decide +kernel) (pa_cons (pv 4) pa_nil)) pe_int) (pe_op op_mul pe_int (pv 2))) pe_int) pe_int) pa_nil)) (pe_op op_add (pe_op op_pow pe_int pe_int) pe_int)) rfl)
  (pss_one (ps_if (PW.pt (pw_and (pt_cmpR op_ge (pv 4) (pe_op op_pow pe_int pe_int) (nomark _)) (pw_and1 (pt_cmpR op_lt (pv 2) (pv 3) (nomark _)))))
  (pss_one (ps_dput hu (pv 0) pe_str (pe_op op_sub (pv 4) (pe_op op_pow pe_int pe_int)) rfl))
  pss_nil)))))
  pss_nil)
  (pss_cons (ps_asg (pe_tup (pa_cons (pe_op op_mod (pe_callTy call_int1 (by rfl) B.int (by decide +kernel) (pa_cons (pe_dget hu (pv 0) pe_str (fun _ _ => rfl)) pa_nil)) (pv 1)) (pa_cons (pe_op op_fdivN (pe_dget hu (pv 0) pe_str (fun _ _ => rfl)) (pv 1)) pa_nil))) (pg_tup (by rfl) (pgs_cons (pg_name (i := 5) sc__law_draw.nd rfl (Or.inl rfl)) (pgs_cons (pg_sub (pv 0) pe_str (set_dict hu)) pgs_nil))))
  (pss_one (ps_ret (pv 5))))), ?_⟩
    -- the last two rows, from any tape
    have fin : ∀ (H1 : Hp) (p l : Int) (v2 v3 v4 : Option V), Ext t H H1 → H1 t = some (.dK (tp c p l)) → SqL K H1 c (ns.map V.int) → 0 ≤ p → p + b ≤ 1000000 → 0 ≤ l →
        tSeq (tAsg (tTup (tCons (tOp (rI (fun _ j => 0 < j) fun i j => .int (i % j)) (tCB (fun xs H Q => (∃ i, xs = [.int i] ∧ Q (.int i) H) ∨ ∃ k, xs = [.bl k] ∧ Q (.int (if k then 1 else 0)) H) (tCons (tDGet (tVar 0) (tC (.str "left"))) tNil)) (tVar 1)) (tCons (tOp (rI CDivN fun i j => .int (i.fdiv j)) (tDGet (tVar 0) (tC (.str "left"))) (tVar 1)) tNil)))
          (gTup K 2 (gCons (gName 5) (gCons (gSub (tVar 0) (tC (.str "left")) rSetD) gNil)))) (tRet (tVar 5)) { nx := fun _ H' => Q .non H', rt := Q } [some (.ref t), some (.int n), v2, v3, v4, none] H1 := by
      intro H1 p l v2 v3 v4 e1 g1 g2 g3 g4 g5
      refine ⟨_, rfl, _, _, rfl, get_left g1, .inl ⟨_, rfl, _, rfl, _, _, rfl, rfl, (by omega), ?_⟩⟩
      refine ⟨_, rfl, _, _, rfl, get_left g1, _, rfl, _, _, rfl, rfl, ⟨by omega, by omega⟩, slz rfl, fun q hq => ?_⟩
      have nq : t ≠ q := ne_of_none g1 hq
      refine ⟨q, _, rfl, SqT.of upd_same, rfl, _, _, rfl, _, _, rfl, _, rfl, t, _, rfl, put_left (by rw [upd_ne nq]; exact g1), rfl, ?_⟩
      refine ⟨_, rfl, ?_⟩
      have e2 : Ext t H (upd H1 q (.tup [.int (l % n), .int (l.fdiv n)])) := e1.trans (Ext.new hq)
      refine k _ _ (e2.trans Ext.put) ⟨p, l.fdiv n, ns, upd_same, (SqL.ext g2 ((Ext.new hq).trans Ext.put) h3), h3, h4, h5, g3, g4, Int.fdiv_nonneg g5 (by omega)⟩ (Int.emod_nonneg _ (by omega)) (Int.emod_lt_of_pos _ (by omega))
    refine ⟨_, rfl, _, _, rfl, get_left h1, _, rfl, _, _, rfl, rfl, _, rfl, ?_⟩
    refine ite2 (fun hc => ?_) (fun hc => ?_)
    · refine ⟨_, rfl, _, _, rfl, get_place h1, _, rfl, _, _, rfl, get_cells h1, _, _, rfl, .inl ⟨_, h2, rfl⟩, _, _, rfl, ?_⟩
      have hm : p % ((ns.map V.int).length : Int) = ((p % ((ns.map V.int).length : Int)).toNat : Int) := (Int.toNat_of_nonneg (Int.emod_nonneg _ (by rw [List.length_map]; omega))).symm
      have hlt : (p % ((ns.map V.int).length : Int)).toNat < ns.length := by
        have := Int.emod_lt_of_pos p (show (0 : Int) < ((ns.map V.int).length : Int) by rw [List.length_map]; omega)
        rw [List.length_map] at this ⊢
        omega
      refine ⟨_, rfl, _, _, rfl, get_cells h1, _, rfl, .inl ⟨_, rfl, _, rfl, _, _, rfl, rfl, (by rw [List.length_map]; omega), c, _, _, V.int (ns[(p % ((ns.map V.int).length : Int)).toNat]), rfl, rfl, h2, at_of hm (by rw [List.getElem?_map, List.getElem?_eq_getElem hlt]; rfl), ?_⟩⟩
      generalize ns[(p % ((ns.map V.int).length : Int)).toNat] = cell
      refine ⟨_, rfl, _, _, rfl, rfl, slz rfl, fun q hq => ?_⟩
      have nq : t ≠ q := ne_of_none h1 hq
      have g0 : (upd H q (.tup [.int cell, .int (p + 1)])) t = some (.dK (tp c p l)) := by rw [upd_ne nq]; exact h1
      refine ⟨q, _, rfl, SqT.of upd_same, rfl, _, _, rfl, _, _, rfl, _, rfl, t, _, rfl, put_place g0, rfl, ?_⟩
      have e1 : Ext t H (upd (upd H q (.tup [.int cell, .int (p + 1)])) t (.dK (tp c (p + 1) l))) := (Ext.new hq).trans Ext.put
      have hu1 : 0 ≤ cell % 2147483629 := Int.emod_nonneg _ (by decide)
      have hu2 : cell % 2147483629 < 2147483629 := Int.emod_lt_of_pos _ (by decide)
      refine ⟨_, rfl, .inl ⟨_, rfl, _, _, rfl, rfl, (show (0 : Int) < 2147483629 by decide), _, rfl, _, _, rfl, rfl, .inr ⟨by omega, by omega⟩, _, _, rfl, rfl, _, _, rfl, rfl, ?_⟩⟩
      refine ⟨_, _, rfl, rfl, ⟨by decide, by decide, ?_⟩, .inl ⟨_, rfl, ?_⟩⟩
      · show (cell % 2147483629 + 39373 * p + 69621).natAbs < 2 ^ 64
        omega
      generalize (cell % 2147483629 + 39373 * p + 69621) ^ (19 : Int).toNat = big
      refine ⟨_, _, rfl, rfl, ⟨by decide, by decide, by decide⟩, _, _, rfl, rfl, _, _, rfl, rfl, (show (0 : Int) < 10 ^ (52 : Int).toNat + 97 by decide +kernel), ?_⟩
      refine ⟨_, rfl, t, _, rfl, put_left upd_same, ?_⟩
      have hl : 0 ≤ big % (10 ^ (52 : Int).toNat + 97) := Int.emod_nonneg _ (by decide +kernel)
      generalize big % (10 ^ (52 : Int).toNat + 97) = l2 at hl ⊢
      have e3 : Ext t H (upd (upd (upd H q (.tup [.int cell, .int (p + 1)])) t (.dK (tp c (p + 1) l))) t (.dK (tp c (p + 1) l2))) := e1.trans Ext.put
      refine ⟨_, rfl, _, _, rfl, rfl, ⟨by decide, by decide, by decide⟩, _, _, rfl, rfl, _, rfl, ?_⟩
      refine ite2 (fun hc1 => ?_) (fun hc1 => ?_)
      · refine ⟨_, rfl, _, rfl, _, _, rfl, rfl, _, rfl, ?_⟩
        refine ite2 (fun hc2 => ?_) (fun hc2 => ?_)
        · refine ⟨_, rfl, _, _, rfl, rfl, ⟨by decide, by decide, by decide⟩, _, _, rfl, rfl, ?_⟩
          refine ⟨_, rfl, t, _, rfl, put_left upd_same, ?_⟩
          have hc3 : (10 : Int) ^ (18 : Int).toNat ≤ cell := of_decide_eq_true hc1
          exact fin _ (p + 1) _ _ _ _ (e3.trans Ext.put) upd_same (SqL.ext h2 (e3.trans Ext.put) h3) (by omega) (by omega) (by omega)
        · exact fin _ (p + 1) _ _ _ _ e3 upd_same (SqL.ext h2 e3 h3) (by omega) (by omega) hl
      · refine iteF ?_
        exact fin _ (p + 1) _ _ _ _ e3 upd_same (SqL.ext h2 e3 h3) (by omega) (by omega) hl
    · exact fin H p l none none none (Ext.refl _ _) h1 h2 h6 (by omega) h8
end
end L3

namespace L3
open PySem L2
section
variable {P : Program} {w : World} {K : PySem.W.Frag} {mg : Str → Option Value} {base : Heap}
theorem Fun.kn {x : Str} {st : Stmt} {f : Addr} {fd : FuncData} {k : Nat} {ps : List Str} {sp : Sp} (F : Fun K x x st f fd) (hm : mg x = some (.ref f)) (h : FnOk P w K mg base CX0 k f fd ps sp)
    (b : ∀ (kV doc pm : Value) (an : Option Addr) (cdv ct : Value) (us : List Value), us.length = ps.length → bindArgs (PySem.W.fnOf x x (defArgs st) (defBody st) (defScope st) .none kV doc pm an cdv ct) ⟨us, []⟩ = pure (ps.zip us)) : Kn P w K mg base k x ps sp :=
  ⟨f, fd, h, hm, F.kp, F.binds b⟩
abbrev s__law_pick : Stmt := topS 20
abbrev N__law_pick : List Str := ["_law_tape", "_law_items"]
theorem sc__law_pick : FnScope N__law_pick ["_law_tape", "_law_items"] (defScope s__law_pick) := ⟨rfl, rfl, rfl, by decide +kernel, rfl, by decide +kernel, by decide +kernel⟩
def spPick (K : PySem.W.Frag) : Sp := fun vs H Q _ => ∃ (t c l : Addr) (xs : List V) (b : Nat), vs = [.ref t, .ref l] ∧ SqL K H l xs ∧ 0 < xs.length ∧ xs.length < 1000000 ∧ Tape K H t c (b + 1) ∧
  ∀ (H' : Hp) (v : V), Ext t H H' → Tape K H' t c b → v ∈ xs → Q v H'
theorem ok_pick {f : Addr} {fd : FuncData} (F : Fun K "_law_pick" "_law_pick" s__law_pick f fd) (B : Bl mg) (D__law_draw : Kn P w K mg base 1 "_law_draw" ["_law_tape", "_law_many"] (spDraw K)) : FnOk P w K mg base CX0 2 f fd ["_law_tape", "_law_items"] (spPick K) := by
  refine F.ok sc__law_pick (fun vs H Q E h => ?_) (fun cdv A outer s H vs Q E hr h => ?_)
  · obtain ⟨t, c, l, xs, b, rfl, _⟩ := h
    rfl
  · obtain ⟨t, c, l, xs, b, rfl, h1, h2, h3, h4, k⟩ := h
    have hr__law_draw := hr
    refine ⟨_, (pss_one (ps_ret (pe_ix ix_list (pv 1) (pe_kn D__law_draw hr__law_draw (pa_cons (pv 0) (pa_cons (pe_callB call_len (by rfl) B.len PySem.boot_len (pa_cons (pv 1) pa_nil)) pa_nil))) (fun _ _ => rfl)))), ?_⟩
    refine ⟨_, rfl, _, rfl, _, rfl, _, _, rfl, .inl ⟨_, h1, rfl⟩, t, c, _, b, rfl, by omega, by omega, h4, fun H' r e1 e2 r1 r2 => ?_⟩
    have hj : r = (r.toNat : Int) := (Int.toNat_of_nonneg r1).symm
    have hlt : r.toNat < xs.length := by omega
    exact ⟨l, xs, r, xs[r.toNat], rfl, rfl, SqL.extT h1 h4 e1, at_of hj (List.getElem?_eq_getElem hlt), k H' _ e1 e2 (List.getElem_mem hlt)⟩

end
end L3

namespace L3
open PySem L2
structure Mn (K : PySem.W.Frag) (w : World) (mg : Str → Option Value) (bA : Addr) (es : Array DictEntry) (nb : Nat) : Prop where
  LONGEST : ∃ u, mg "LONGEST" = some u ∧ RelV (.int 8) u
  BARRED : ∃ u, mg "BARRED" = some u ∧ RelV (.ref bA) u
  kd : KDict K w bA es nb
  has : ∀ z : Str, ∃ r, PySem.W.nsIn K bA z = some r ∧ r.isSome = decide (z ∈ barL)
  BOUND : ∃ u, mg "BOUND" = some u ∧ RelV (.int (10 ^ 30)) u
  LONGEST_TEXT : ∃ u, mg "LONGEST_TEXT" = some u ∧ RelV (.int 200) u
  MOST_PARTS : ∃ u, mg "MOST_PARTS" = some u ∧ RelV (.int 1000) u
  DEEPEST : ∃ u, mg "DEEPEST" = some u ∧ RelV (.int 100) u
section
variable {P : Program} {w : World} {K : PySem.W.Frag} {mg : Str → Option Value} {base : Heap} {bA : Addr} {es : Array DictEntry} {nb : Nat}
abbrev s_is_word : Stmt := topS 3
abbrev N_is_word : List Str := ["value"]
theorem sc_is_word : FnScope N_is_word ["value"] (defScope s_is_word) := ⟨rfl, rfl, rfl, by decide +kernel, rfl, by decide +kernel, by decide +kernel⟩
def spWord : Sp := fun vs H Q _ => ∃ (t : Addr) (v : V) (d : PyData), vs = [v] ∧ Da t H v d ∧ (∀ x, d = .str x → x.length ≤ 1000) ∧ Q (.bl (isWordD d)) H
theorem ok_word {f : Addr} {fd : FuncData} (F : Fun K "is_word" "is_word" s_is_word f fd) (B : Bl mg) (B9 : Bl9 mg) (M : Mn K w mg bA es nb) : FnOk P w K mg base CX0 1 f fd ["value"] spWord := by
  refine F.ok sc_is_word (fun vs H Q E h => ?_) (fun cdv A outer s H vs Q E hr h => ?_)
  · obtain ⟨t, v, d, rfl, _⟩ := h
    rfl
  · obtain ⟨t, v, d, rfl, hd, hx, k⟩ := h
    refine ⟨_, (pss_cons (ps_if (PW.pt (pw_or (pt_not (pt_val (pe_callB call_isi (by rfl) B9.isinstance PyProof.Rows.boot_isinstance (pa_cons (pv 0) (pa_cons (pe_bltn (v := .ty "str") (by rfl) B9.str_ (by decide +kernel) rfl) pa_nil))))) (pw_or1 (pt_not (pt_chain op_le op_le pe_int (pe_callB call_len (by rfl) B.len PySem.boot_len (pa_cons (pv 0) pa_nil)) (pe_gc (by rfl) M.LONGEST))))))
  (pss_one (ps_ret pe_bl))
  pss_nil)
  (pss_one (ps_ret (pe_and (pe_bm0 PySem.F.plainAttrs_str PySem.F.slot_str_isascii PySem.F.type_str_isascii mt_isascii (pv 0)) (pe_and (pe_bm0 PySem.F.plainAttrs_str PySem.F.slot_str_isalpha PySem.F.type_str_isalpha mt_isalpha (pv 0)) (pe_one (pe_bm0 PySem.F.plainAttrs_str PySem.F.slot_str_islower PySem.F.type_str_islower mt_islower (pv 0)))))))), ?_⟩
    refine ⟨_, rfl, v, .ty "str", .type (tyName d), .type "str", isStr d, rfl, .ty "str", hd.ty, kit_str d, _, rfl, ?_⟩
    cases hs : isStr d with
    | false =>
      have e : isWordD d = false := by cases d <;> first | rfl | cases hs
      rw [e] at k
      refine iT rfl ?_
      exact iT rfl k
    | true =>
      obtain ⟨x, rfl⟩ : ∃ x, d = .str x := by
        cases d with
        | str x => exact ⟨x, rfl⟩
        | _ => cases hs
      cases hd
      have lx := hx x rfl
      refine iF rfl ?_
      refine ⟨_, rfl, .str x, x.length, rfl, ⟨by rw [sizeLine_eq]; omega, rfl⟩, _, _, rfl, rfl, _, rfl, ?_⟩
      by_cases h1 : (1 : Int) ≤ (x.length : Int)
      · refine iT (decide_eq_true h1) ?_
        refine ⟨_, _, rfl, rfl, _, rfl, ?_⟩
        by_cases h2 : (x.length : Int) ≤ 8
        · refine iF (by rw [decide_eq_true h2]; rfl) ?_
          have ew : isWordD (.str x) = (Txt.isascii x && (Txt.isalpha x && Txt.islower x)) := by
            rw [asc_low (by omega)]
            show wok x = _
            unfold wok
            rw [decide_eq_true (by omega : 1 ≤ x.length), decide_eq_true (by omega : x.length ≤ 8)]
            rfl
          rw [ew] at k
          refine ⟨_, rfl, rfl, x, rfl, rfl, trivial, _, rfl, ?_⟩
          cases h3 : Txt.isascii x with
          | false =>
            rw [h3] at k
            exact iF rfl k
          | true =>
            rw [h3] at k
            refine iT rfl ?_
            refine ⟨_, rfl, rfl, x, rfl, rfl, trivial, _, rfl, ?_⟩
            cases h4 : Txt.isalpha x with
            | false =>
              rw [h4] at k
              exact iF rfl k
            | true =>
              rw [h4] at k
              refine iT rfl ?_
              exact ⟨_, rfl, rfl, x, rfl, rfl, trivial, k⟩
        · refine iT (by rw [decide_eq_false h2]; rfl) ?_
          have e : isWordD (.str x) = false := by
            show wok x = false
            unfold wok
            rw [decide_eq_false (by omega : ¬ x.length ≤ 8)]
            simp
          rw [e] at k
          exact k
      · refine iF (decide_eq_false h1) ?_
        have e : isWordD (.str x) = false := by
          show wok x = false
          unfold wok
          rw [decide_eq_false (by omega : ¬ 1 ≤ x.length)]
          rfl
        rw [e] at k
        exact ⟨_, rfl, iT rfl k⟩
/-! ### names -/
abbrev s_is_name : Stmt := topS 4
abbrev N_is_name : List Str := ["value"]
theorem sc_is_name : FnScope N_is_name ["value"] (defScope s_is_name) := ⟨rfl, rfl, rfl, by decide +kernel, rfl, by decide +kernel, by decide +kernel⟩
def spName : Sp := fun vs H Q _ => ∃ (t : Addr) (v : V) (d : PyData), vs = [v] ∧ Da t H v d ∧ (∀ x, d = .str x → x.length ≤ 1000) ∧ Q (.bl (isNameD d)) H
theorem ok_name {f : Addr} {fd : FuncData} (F : Fun K "is_name" "is_name" s_is_name f fd) (M : Mn K w mg bA es nb) (D_is_word : Kn P w K mg base 1 "is_word" ["value"] spWord) : FnOk P w K mg base CX0 2 f fd ["value"] spName := by
  refine F.ok sc_is_name (fun vs H Q E h => ?_) (fun cdv A outer s H vs Q E hr h => ?_)
  · obtain ⟨t, v, d, rfl, _⟩ := h
    rfl
  · obtain ⟨t, v, d, rfl, hd, hx, k⟩ := h
    have hr_is_word : Room 1 _ := hr
    refine ⟨_, (pss_one (ps_ret (pe_and (pe_kn D_is_word hr_is_word (pa_cons (pv 0) pa_nil)) (pe_one (pe_cmpR (op_notIn_kd M.kd) (pv 0) (pe_gc (by rfl) M.BARRED) (by rfl)))))), ?_⟩
    refine ⟨_, rfl, t, v, d, rfl, hd, hx, ?_⟩
    refine ⟨_, rfl, ?_⟩
    cases hw : isWordD d with
    | false =>
      have e : isNameD d = false := by
        cases d with
        | str x =>
          have hw' : wok x = false := hw
          show (wok x && _) = false
          rw [hw']
          rfl
        | _ => rfl
      rw [e] at k
      exact iF rfl k
    | true =>
      obtain ⟨x, rfl⟩ : ∃ x, d = .str x := by
        cases d with
        | str x => exact ⟨x, rfl⟩
        | _ => cases hw
      cases hd
      refine iT rfl ?_
      obtain ⟨r, er, hr2⟩ := M.has x
      refine ⟨_, rfl, x, r, rfl, rfl, er, ?_⟩
      have hw' : wok x = true := hw
      have e : isNameD (.str x) = !r.isSome := by
        show (wok x && _) = _
        rw [hw', hr2]
        rfl
      rw [e] at k
      exact k
/-! ### integers, wholes -/
def isBoolD : PyData → Bool
  | .bool _ => true
  | _ => false
theorem kit_int {K : PySem.W.Frag} (d : PyData) : PySem.W.kitOne K (.type (tyName d)) (.type "int") = some (isIntD d || isBoolD d) := by
  cases d with
  | none => exact kit_ty (show kitB "NoneType" "int" = some false by decide +kernel)
  | bool _ => exact kit_ty (show kitB "bool" "int" = some true by decide +kernel)
  | int _ => exact kit_ty (show kitB "int" "int" = some true by decide +kernel)
  | str _ => exact kit_ty (show kitB "str" "int" = some false by decide +kernel)
  | list _ => exact kit_ty (show kitB "list" "int" = some false by decide +kernel)
  | tuple _ => exact kit_ty (show kitB "tuple" "int" = some false by decide +kernel)
  | dict _ => exact kit_ty (show kitB "dict" "int" = some false by decide +kernel)
theorem kit_bool {K : PySem.W.Frag} (d : PyData) : PySem.W.kitOne K (.type (tyName d)) (.type "bool") = some (isBoolD d) := by
  cases d with
  | none => exact kit_ty (show kitB "NoneType" "bool" = some false by decide +kernel)
  | bool _ => exact kit_ty (show kitB "bool" "bool" = some true by decide +kernel)
  | int _ => exact kit_ty (show kitB "int" "bool" = some false by decide +kernel)
  | str _ => exact kit_ty (show kitB "str" "bool" = some false by decide +kernel)
  | list _ => exact kit_ty (show kitB "list" "bool" = some false by decide +kernel)
  | tuple _ => exact kit_ty (show kitB "tuple" "bool" = some false by decide +kernel)
  | dict _ => exact kit_ty (show kitB "dict" "bool" = some false by decide +kernel)
abbrev s_is_integer : Stmt := topS 5
abbrev N_is_integer : List Str := ["value"]
theorem sc_is_integer : FnScope N_is_integer ["value"] (defScope s_is_integer) := ⟨rfl, rfl, rfl, by decide +kernel, rfl, by decide +kernel, by decide +kernel⟩
def spInt : Sp := fun vs H Q _ => ∃ (t : Addr) (v : V) (d : PyData), vs = [v] ∧ Da t H v d ∧ Q (.bl (isIntD d)) H
theorem ok_int {f : Addr} {fd : FuncData} (F : Fun K "is_integer" "is_integer" s_is_integer f fd) (B9 : Bl9 mg) : FnOk P w K mg base CX0 1 f fd ["value"] spInt := by
  refine F.ok sc_is_integer (fun vs H Q E h => ?_) (fun cdv A outer s H vs Q E hr h => ?_)
  · obtain ⟨t, v, d, rfl, _⟩ := h
    rfl
  · obtain ⟨t, v, d, rfl, hd, k⟩ := h
    refine ⟨_, (pss_one (ps_ret (pe_and (pe_callB call_isi (by rfl) B9.isinstance PyProof.Rows.boot_isinstance (pa_cons (pv 0) (pa_cons (pe_bltn (v := .ty "int") (by rfl) B9.int (by decide +kernel) rfl) pa_nil))) (pe_one (pe_not (pe_callB call_isi (by rfl) B9.isinstance PyProof.Rows.boot_isinstance (pa_cons (pv 0) (pa_cons (pe_bltn (v := .ty "bool") (by rfl) B9.bool (by decide +kernel) rfl) pa_nil)))))))), ?_⟩
    refine ⟨_, rfl, v, .ty "int", .type (tyName d), .type "int", _, rfl, .ty "int", hd.ty, kit_int d, _, rfl, ?_⟩
    cases hi : (isIntD d || isBoolD d) with
    | false =>
      have e : isIntD d = false := (Bool.or_eq_false_iff.mp hi).1
      rw [e] at k
      exact iF rfl k
    | true =>
      refine iT rfl ?_
      refine ⟨_, rfl, v, .ty "bool", .type (tyName d), .type "bool", isBoolD d, rfl, .ty "bool", hd.ty, kit_bool d, _, rfl, ?_⟩
      have e : isIntD d = !isBoolD d := by cases d <;> first | rfl | cases hi
      rw [e] at k
      exact k
abbrev s_is_whole : Stmt := topS 9
abbrev N_is_whole : List Str := ["value"]
theorem sc_is_whole : FnScope N_is_whole ["value"] (defScope s_is_whole) := ⟨rfl, rfl, rfl, by decide +kernel, rfl, by decide +kernel, by decide +kernel⟩
def spWhole : Sp := fun vs H Q _ => ∃ (t : Addr) (v : V) (d : PyData), vs = [v] ∧ Da t H v d ∧ Q (.bl (isWholeD d)) H
theorem ok_whole {f : Addr} {fd : FuncData} (F : Fun K "is_whole" "is_whole" s_is_whole f fd) (M : Mn K w mg bA es nb) (D_is_integer : Kn P w K mg base 1 "is_integer" ["value"] spInt) : FnOk P w K mg base CX0 2 f fd ["value"] spWhole := by
  refine F.ok sc_is_whole (fun vs H Q E h => ?_) (fun cdv A outer s H vs Q E hr h => ?_)
  · obtain ⟨t, v, d, rfl, _⟩ := h
    rfl
  · obtain ⟨t, v, d, rfl, hd, k⟩ := h
    have hr_is_integer : Room 1 _ := hr
    refine ⟨_, (pss_one (ps_ret (pe_and (pe_kn D_is_integer hr_is_integer (pa_cons (pv 0) pa_nil)) (pe_one (pe_chain op_le op_le (pe_un un_neg (pe_gc (by rfl) M.BOUND)) (pv 0) (pe_gc (by rfl) M.BOUND)))))), ?_⟩
    refine ⟨_, rfl, t, v, d, rfl, hd, ?_⟩
    refine ⟨_, rfl, ?_⟩
    cases hi : isIntD d with
    | false =>
      have e : isWholeD d = false := by cases d <;> first | rfl | cases hi
      rw [e] at k
      exact iF rfl k
    | true =>
      obtain ⟨i, rfl⟩ : ∃ i, d = .int i := by
        cases d with
        | int i => exact ⟨i, rfl⟩
        | _ => cases hi
      cases hd
      refine iT rfl ?_
      have e : isWholeD (.int i) = (decide (-(10 ^ 30) ≤ i) && decide (i ≤ 10 ^ 30)) := rfl
      rw [e] at k
      refine ⟨_, rfl, _, rfl, _, _, rfl, rfl, _, rfl, ?_⟩
      by_cases h1 : (-(10 ^ 30) : Int) ≤ i
      · rw [decide_eq_true h1] at k
        refine iT (decide_eq_true h1) ?_
        exact ⟨_, _, rfl, rfl, k⟩
      · rw [decide_eq_false h1] at k
        exact iF (decide_eq_false h1) k
abbrev s_is_text : Stmt := topS 10
abbrev N_is_text : List Str := ["value", "sign"]
theorem sc_is_text : FnScope N_is_text ["value"] (defScope s_is_text) := ⟨rfl, rfl, rfl, by decide +kernel, rfl, by decide +kernel, by decide +kernel⟩
def spText : Sp := fun vs H Q _ => ∃ (t : Addr) (v : V) (d : PyData), vs = [v] ∧ Da t H v d ∧ (∀ x, d = .str x → x.length ≤ 1000) ∧ ∀ H', Same H H' → Q (.bl (isTextD d)) H'
theorem ok_text {f : Addr} {fd : FuncData} (F : Fun K "is_text" "is_text" s_is_text f fd) (B : Bl mg) (B9 : Bl9 mg) (M : Mn K w mg bA es nb) : FnOk P w K mg base CX0 1 f fd ["value"] spText := by
  refine F.ok sc_is_text (fun vs H Q E h => ?_) (fun cdv A outer s H vs Q E hr h => ?_)
  · obtain ⟨t, v, d, rfl, _⟩ := h
    rfl
  · obtain ⟨t, v, d, rfl, hd, hx, k⟩ := h
    refine ⟨_, (pss_cons (ps_if (PW.pt (pw_or (pt_not (pt_val (pe_callB call_isi (by rfl) B9.isinstance PyProof.Rows.boot_isinstance (pa_cons (pv 0) (pa_cons (pe_bltn (v := .ty "str") (by rfl) B9.str_ (by decide +kernel) rfl) pa_nil))))) (pw_or1 (pt_cmpR op_gt (pe_callB call_len (by rfl) B.len PySem.boot_len (pa_cons (pv 0) pa_nil)) (pe_gc (by rfl) M.LONGEST_TEXT) (nomark _)))))
  (pss_one (ps_ret pe_bl))
  pss_nil)
  (pss_one (ps_ret (pe_callB (cr_all rfl) (by rfl) B9.all (by decide +kernel) (pa_cons (pe_lc (own := [("sign", 1)]) rfl sc_is_text.nd (pi_str (pv 0)) (blkOk_by (N := N_is_text) (sc := (defScope s_is_text)) (own := [("sign", 1)]) (by decide +kernel)) (fun _ _ _ _ _ => (pg_name (i := 1) sc_is_text.nd rfl (Or.inl rfl))) (fun _ _ _ _ _ => pts_nil) (fun _ _ _ _ _ => (pe_and (pe_chain op_le op_le pe_int (pe_callB call_ord (by rfl) B9.ord PyProof.Rows.boot_ord (pa_cons (pv 1) pa_nil)) pe_int) (pe_one (pe_cmpR op_ne (pe_callB call_ord (by rfl) B9.ord PyProof.Rows.boot_ord (pa_cons (pv 1) pa_nil)) pe_int (nomark _)))))) pa_nil))))), ?_⟩
    refine ⟨_, rfl, v, .ty "str", .type (tyName d), .type "str", isStr d, rfl, .ty "str", hd.ty, kit_str d, _, rfl, ?_⟩
    cases hs : isStr d with
    | false =>
      have e : isTextD d = false := by cases d <;> first | rfl | cases hs
      rw [e] at k
      refine iT rfl ?_
      exact iT rfl (k H (Same.refl H))
    | true =>
      obtain ⟨x, rfl⟩ : ∃ x, d = .str x := by
        cases d with
        | str x => exact ⟨x, rfl⟩
        | _ => cases hs
      cases hd
      have lx := hx x rfl
      refine iF rfl ?_
      refine ⟨_, rfl, .str x, x.length, rfl, ⟨by rw [sizeLine_eq]; omega, rfl⟩, _, _, rfl, rfl, ?_⟩
      refine ⟨_, rfl, ?_⟩
      by_cases h1 : (x.length : Int) > 200
      · refine iT (decide_eq_true h1) ?_
        have e : isTextD (.str x) = false := by
          show (decide (x.length ≤ 200) && _) = false
          rw [decide_eq_false (by omega)]
          rfl
        rw [e] at k
        exact k H (Same.refl H)
      · refine iF (decide_eq_false h1) ?_
        have e : isTextD (.str x) = x.cps.toList.all sgnT := by
          show (decide (x.length ≤ 200) && _) = _
          rw [decide_eq_true (by omega), ← Array.all_toList]
          rfl
        rw [e] at k
        refine ⟨_, rfl, x, rfl, fun D hD => lc_it walk_str (fun i H' => Same H H' ∧ H' D = some (.lst (((x.cps.toList.take i).map sgnT).map V.bl))) ⟨same_new hD, upd_same⟩ (fun i H' _ _ => trivial) ?_ ?_⟩
        · rintro i y H1 H2 hi ⟨s1, g1⟩ ⟨rfl, c, ec, rfl⟩
          refine ⟨rfl, ?_⟩
          have ec' : x.cps.toList[i]? = some c := by simpa using ec
          have hi' : i < x.length := hi
          have fin : ∀ b : Bool, b = sgnT c → ∃ acc, H2 D = some (.lst acc) ∧ acc.length < sizeLine ∧ Same H (upd H2 D (.lst (acc ++ [V.bl b]))) ∧ upd H2 D (.lst (acc ++ [V.bl b])) D = some (.lst (((x.cps.toList.take (i + 1)).map sgnT).map V.bl)) := fun b eb => by
            refine ⟨_, g1, szl (by simp; omega), fun b o e => ?_, ?_⟩
            · rw [upd_ne (ne_of_none e hD)]
              exact s1 _ _ e
            · rw [upd_same, List.take_add_one, ec', eb]
              simp
          refine ⟨_, rfl, ⟨#[c]⟩, rfl, rfl, _, _, rfl, rfl, _, rfl, ?_⟩
          show if decide ((32 : Int) ≤ (c : Int)) = true then _ else _
          by_cases q1 : 32 ≤ c
          · refine iT (decide_eq_true (by omega)) ?_
            refine ⟨_, _, rfl, rfl, _, rfl, ?_⟩
            show if decide ((c : Int) ≤ 126) = true then _ else _
            by_cases q2 : c ≤ 126
            · refine iT (decide_eq_true (by omega)) ?_
              refine ⟨_, rfl, ⟨#[c]⟩, rfl, rfl, rfl, ?_⟩
              refine fin _ ?_
              unfold sgnT
              rw [decide_eq_true q1, decide_eq_true q2]
              show (!decide (V.int (c : Int) = V.int 37)) = _
              by_cases q3 : c = 37
              · rw [decide_eq_true q3, decide_eq_true (by rw [q3]; rfl)]
                rfl
              · rw [decide_eq_false q3, decide_eq_false (fun z => q3 (by injection z with z; omega))]
                rfl
            · refine iF (decide_eq_false (by omega)) ?_
              refine fin _ ?_
              unfold sgnT
              rw [decide_eq_false q2]
              simp
          · refine iF (decide_eq_false (by omega)) ?_
            refine ⟨_, rfl, iF rfl (fin _ ?_)⟩
            unfold sgnT
            rw [decide_eq_false q1]
            simp
        · rintro H1 ⟨s1, g1⟩
          rw [List.take_of_length_le (by simp)] at g1
          refine ⟨D, _, rfl, SqL.of g1, ?_⟩
          have ew : (x.cps.toList.map sgnT).all id = x.cps.toList.all sgnT := by
            rw [List.all_map]
            rfl
          rw [ew]
          exact k H1 s1
end
end L3

namespace L3
open PySem L2
def heads : List Str := ["made", "whole", "text", "function", "make"]
/-- what stands first in a tuple -/
def isHead : PyData → Bool
  | .str x => decide (x ∈ heads)
  | .int i => decide (i = 1)
  | .none => true
  | .tuple [.str x, .int i] => decide (x = "whole") && decide (i = 1)
  | _ => false
def hdOk : List PyData → Bool
  | [] => true
  | d :: _ => isHead d
/-- a text is short -/
def okS : PyData → Bool
  | .str x => decide (x.length ≤ 210) && x.cps.all (fun c => !decide (c = 37))
  | _ => true
mutual
/-- texts are short, what stands first is known -/
def okV : PyData → Bool
  | .tuple ds => hdOk ds && okVT ds
  | _ => true
def okVT : List PyData → Bool
  | [_, b] => okS b
  | [_, b, e] => okS b && okVE e
  | _ => true
def okVE : PyData → Bool
  | .tuple ds => okVL ds
  | _ => true
def okVL : List PyData → Bool
  | [] => true
  | d :: ds => okV d && okVL ds
end
theorem okV_str {x : Str} (h : okS (.str x) = true) : x.length ≤ 210 := by
  simp only [okS, Bool.and_eq_true, decide_eq_true_eq] at h
  exact h.1
theorem okV_pc {x : Str} (h : okS (.str x) = true) : x.cps.toList.all (fun c => !decide (c = 37)) = true := by
  simp only [okS, Bool.and_eq_true] at h
  rw [Array.all_toList]
  exact h.2
theorem okV_two {a b : PyData} (h : okV (.tuple [a, b]) = true) : isHead a = true ∧ okS b = true := by
  simp only [okV, okVT, hdOk, Bool.and_eq_true] at h
  exact h
theorem okV_three {a b c : PyData} (h : okV (.tuple [a, b, c]) = true) : isHead a = true ∧ okS b = true ∧ okVE c = true := by
  simp only [okV, okVT, hdOk, Bool.and_eq_true] at h
  exact h
theorem okV_one {a : PyData} (h : okV (.tuple [a]) = true) : isHead a = true := by
  simp only [okV, okVT, hdOk, Bool.and_eq_true] at h
  exact h.1
theorem okVL_mem : ∀ {ds : List PyData} {d : PyData}, okVL ds = true → d ∈ ds → okV d = true
  | e :: ds, d, h, hd => by
    simp only [okVL, Bool.and_eq_true] at h
    rcases List.mem_cons.mp hd with rfl | hd
    · exact h.1
    · exact okVL_mem h.2 hd
theorem okVL_all : ∀ {ds : List PyData}, (∀ d ∈ ds, okV d = true) → okVL ds = true
  | [], _ => by simp only [okVL]
  | e :: ds, h => by
    simp only [okVL, Bool.and_eq_true]
    exact ⟨h e List.mem_cons_self, okVL_all fun d m => h d (List.mem_cons_of_mem _ m)⟩
theorem okVL_app : ∀ (a b : List PyData), okVL (a ++ b) = (okVL a && okVL b)
  | [], b => by simp [okVL]
  | d :: a, b => by simp only [List.cons_append, okVL, okVL_app a b, Bool.and_assoc]
theorem okV_inner {d : PyData} {ds : List PyData} (h : innerD d = some ds) (ho : okV d = true) : okVL ds = true := by
  unfold innerD at h
  split at h
  · split at h
    · have h := Option.some.inj h
      subst h
      have := (okV_three ho).2.2
      simpa only [okVE] using this
    · cases h
  · split at h
    · have h := Option.some.inj h
      subst h
      simp only [okVL]
    · cases h
  · split at h
    · have h := Option.some.inj h
      subst h
      simp only [okVL]
    · cases h
  · cases h
theorem head_str {x : Str} (h : isHead (.str x) = true) : x ∈ heads := of_decide_eq_true h
theorem heads_ok : ∀ x ∈ heads, (PyData.str x).shown.length ≤ 100 ∧ ∀ w ∈ (["whole", "text", "function", "made"] : List Str), decide (V.str (PyData.str x).shown = V.str ("'" ++ w ++ "'")) = decide (x = w) := by decide +kernel
theorem head_ok {d : PyData} (h : isHead d = true) : d.showable = true ∧ d.depth ≤ 60 ∧ d.shown.length ≤ 100 ∧ (∀ i, d = .int i → i.natAbs.log2 < 1920) ∧ ∀ w ∈ (["whole", "text", "function", "made"] : List Str), decide (V.str d.shown = V.str ("'" ++ w ++ "'")) = isS w d := by
  unfold isHead at h
  split at h
  · rename_i x
    obtain ⟨h1, h2⟩ := heads_ok x (of_decide_eq_true h)
    exact ⟨by simp only [PyData.showable], by simp [PyData.depth], h1, nofun, fun w hw => h2 w hw⟩
  · rename_i i
    obtain rfl : i = 1 := of_decide_eq_true h
    refine ⟨by decide +kernel, by decide, by decide +kernel, fun i e => ?_, by decide +kernel⟩
    injection e with e
    rw [← e]
    decide
  · exact ⟨by decide +kernel, by decide, by decide +kernel, nofun, by decide +kernel⟩
  · rename_i x i
    rw [Bool.and_eq_true] at h
    obtain rfl : x = "whole" := of_decide_eq_true h.1
    obtain rfl : i = 1 := of_decide_eq_true h.2
    exact ⟨by decide +kernel, by decide, by decide +kernel, nofun, by decide +kernel⟩
  · cases h
section
variable {P : Program} {w : World} {K : PySem.W.Frag} {mg : Str → Option Value} {base : Heap} {bA : Addr} {es : Array DictEntry} {nb : Nat}
abbrev s_inner_values : Stmt := topS 15
abbrev N_inner_values : List Str := ["value"]
theorem sc_inner_values : FnScope N_inner_values ["value"] (defScope s_inner_values) := ⟨rfl, rfl, rfl, by decide +kernel, rfl, by decide +kernel, by decide +kernel⟩
def spInner : Sp := fun vs H Q _ => ∃ (t : Addr) (H0 : Hp) (v : V) (d : PyData), vs = [v] ∧ Same H0 H ∧ Da t H0 v d ∧ okV d = true ∧ (∀ H', Same H H' → innerD d = none → Q .non H') ∧
  (∀ H' a xs ds, Same H H' → innerD d = some ds → H' a = some (.tup xs) → DaAll t H0 xs ds → Q (.ref a) H')
theorem ok_inner {f : Addr} {fd : FuncData} (F : Fun K "inner_values" "inner_values" s_inner_values f fd) (B : Bl mg) (B9 : Bl9 mg) (D_is_name : Kn P w K mg base 2 "is_name" ["value"] spName)
    (D_is_whole : Kn P w K mg base 2 "is_whole" ["value"] spWhole) (D_is_text : Kn P w K mg base 1 "is_text" ["value"] spText) : FnOk P w K mg base CX0 3 f fd ["value"] spInner := by
  refine F.ok sc_inner_values (fun vs H Q E h => ?_) (fun cdv A outer s H vs Q E hr h => ?_)
  · obtain ⟨t, _, v, d, rfl, _⟩ := h
    rfl
  · obtain ⟨t, H0, v, d, rfl, s0, hd0, ho, kN, kS⟩ := h
    have hd := hd0.kp (kp_same s0)
    have hr_is_name : Room 2 _ := hr.mono (by decide)
    have hr_is_whole : Room 2 _ := hr.mono (by decide)
    have hr_is_text : Room 1 _ := hr.mono (by decide)
    have hu64 := hr.units
    refine ⟨_, (pss_cons (ps_if (PW.pt (pw_or (pt_not (pt_val (pe_callB call_isi (by rfl) B9.isinstance PyProof.Rows.boot_isinstance (pa_cons (pv 0) (pa_cons (pe_bltn (v := .ty "tuple") (by rfl) B9.tuple (by decide +kernel) rfl) pa_nil))))) (pw_or1 (pt_cmpR op_eq (pe_callB call_len (by rfl) B.len PySem.boot_len (pa_cons (pv 0) pa_nil)) pe_int (nomark _)))))
  (pss_one (ps_ret pe_non))
  pss_nil)
  (pss_cons (ps_if (PW.pt (pw_and (pt_cmpR op_eq (pe_callB call_len (by rfl) B.len PySem.boot_len (pa_cons (pv 0) pa_nil)) pe_int (nomark _)) (pw_and (pt_cmpR (op_eqStr (t := t) hu64) (pe_ix ix_tup (pv 0) pe_int (fun _ _ => rfl)) pe_str (nomark _)) (pw_and (pt_val (pe_kn D_is_name hr_is_name (pa_cons (pe_ix ix_tup (pv 0) pe_int (fun _ _ => rfl)) pa_nil))) (pw_and1 (pt_val (pe_callB call_isi (by rfl) B9.isinstance PyProof.Rows.boot_isinstance (pa_cons (pe_ix ix_tup (pv 0) pe_int (fun _ _ => rfl)) (pa_cons (pe_bltn (v := .ty "tuple") (by rfl) B9.tuple (by decide +kernel) rfl) pa_nil)))))))))
  (pss_one (ps_ret (pe_ix ix_tup (pv 0) pe_int (fun _ _ => rfl))))
  pss_nil)
  (pss_cons (ps_if (PW.pt (pw_and (pt_cmpR op_eq (pe_callB call_len (by rfl) B.len PySem.boot_len (pa_cons (pv 0) pa_nil)) pe_int (nomark _)) (pw_and (pt_cmpR (op_eqStr (t := t) hu64) (pe_ix ix_tup (pv 0) pe_int (fun _ _ => rfl)) pe_str (nomark _)) (pw_and1 (pt_val (pe_kn D_is_whole hr_is_whole (pa_cons (pe_ix ix_tup (pv 0) pe_int (fun _ _ => rfl)) pa_nil)))))))
  (pss_one (ps_ret (pe_tup pa_nil)))
  pss_nil)
  (pss_cons (ps_if (PW.pt (pw_and (pt_cmpR op_eq (pe_callB call_len (by rfl) B.len PySem.boot_len (pa_cons (pv 0) pa_nil)) pe_int (nomark _)) (pw_and (pt_cmpR (op_eqStr (t := t) hu64) (pe_ix ix_tup (pv 0) pe_int (fun _ _ => rfl)) pe_str (nomark _)) (pw_and1 (pt_val (pe_kn D_is_text hr_is_text (pa_cons (pe_ix ix_tup (pv 0) pe_int (fun _ _ => rfl)) pa_nil)))))))
  (pss_one (ps_ret (pe_tup pa_nil)))
  pss_nil)
  (pss_one (ps_ret (pe_ifExp (pt_cmpR (op_eqOne (t := t) hu64) (pv 0) (pe_tup (pa_cons pe_str pa_nil)) (nomark _)) (pe_tup pa_nil) pe_non))))))), ?_⟩
    refine ⟨_, rfl, v, .ty "tuple", .type (tyName d), .type "tuple", isTup d, rfl, .ty "tuple", hd.ty, kit_tup d, _, rfl, ?_⟩
    cases ht : isTup d with
    | false =>
      have e : innerD d = none := by cases d <;> first | rfl | cases ht
      refine iT rfl ?_
      exact iT rfl (kN H (Same.refl H) e)
    | true =>
      obtain ⟨es, rfl⟩ : ∃ es, d = .tuple es := by
        cases d with
        | tuple es => exact ⟨es, rfl⟩
        | _ => cases ht
      cases id hd0 with
      | @tup a xs _ ga0 da =>
        have ga : H a = some (.tup xs) := s0 _ _ ga0
        have le := da.len
        have nq : ∀ {j : Nat}, xs.length ≠ j → decide (V.int (xs.length : Int) = V.int (j : Int)) = false := fun h => decide_eq_false fun z => h (by injection z with z; omega)
        refine iF rfl ?_
        refine ⟨_, rfl, .ref a, xs.length, rfl, .inr ⟨xs, SqT.of ga, rfl⟩, ?_⟩
        refine ⟨rfl, _, rfl, ?_⟩
        have fin : ∀ H1, Same H H1 → (innerD (.tuple es) = if isOne "function" es = true then some [] else none) → tRet (tIf (tTest (tOp (rEqOne t) (tVar 0) (tTup (tCons (tC (V.str "function")) tNil)))) (tTup tNil) (tC V.non)) { nx := fun x H' => Q V.non H', rt := Q } [some (.ref a)] H1 := fun H1 s1 e => by
          refine ⟨_, rfl, slz rfl, fun q hq => ⟨a, q, es, _, rfl, rfl, hd.kp (kp_same (s1.trans (same_new hq))), upd_same, _, rfl, ?_⟩⟩
          have s2 := s1.trans (same_new (o := .tup [.str "function"]) hq)
          cases h1 : isOne "function" es with
          | true =>
            rw [h1] at e
            exact iT rfl ⟨slz rfl, fun p hp => kS _ p [] [] (s2.trans (same_new hp)) e upd_same .nil⟩
          | false =>
            rw [h1] at e
            exact iF rfl (kN _ s2 e)
        match es, hd, ho, kN, kS, da, le, fin with
        | [], hd, ho, kN, kS, da, le, fin =>
          cases da
          exact iT rfl (kN H (Same.refl H) rfl)
        | [d1], hd, ho, kN, kS, da, le, fin =>
          have le : xs.length = 1 := le
          refine iF (nq (j := 0) (by omega)) ?_
          refine ⟨_, rfl, .ref a, xs.length, rfl, .inr ⟨xs, SqT.of ga, rfl⟩, ?_⟩
          refine ⟨rfl, _, rfl, ?_⟩
          refine iF (nq (j := 3) (by omega)) ?_
          refine ⟨_, rfl, .ref a, xs.length, rfl, .inr ⟨xs, SqT.of ga, rfl⟩, ?_⟩
          refine ⟨rfl, _, rfl, ?_⟩
          refine iF (nq (j := 2) (by omega)) ?_
          refine ⟨_, rfl, .ref a, xs.length, rfl, .inr ⟨xs, SqT.of ga, rfl⟩, ?_⟩
          refine ⟨rfl, _, rfl, ?_⟩
          refine iF (nq (j := 2) (by omega)) ?_
          exact fin H (Same.refl H) rfl
        | [d1, d2], hd, ho, kN, kS, da, le, fin =>
          have le : xs.length = 2 := le
          cases da with
          | @cons v1 _ _ _ q1 t1 =>
            cases t1 with
            | @cons v2 _ _ _ q2 t2 =>
              cases t2
              refine iF rfl ?_
              refine ⟨_, rfl, .ref a, _, rfl, .inr ⟨_, SqT.of ga, rfl⟩, ?_⟩
              refine ⟨rfl, _, rfl, ?_⟩
              refine iF rfl ?_
              refine ⟨_, rfl, .ref a, _, rfl, .inr ⟨_, SqT.of ga, rfl⟩, ?_⟩
              refine ⟨rfl, _, rfl, ?_⟩
              refine iT rfl ?_
              have hx2 : ∀ x, d2 = .str x → x.length ≤ 1000 := fun x e => by
                have z := (okV_two ho).2
                rw [e] at z
                have := okV_str z
                omega
              have q1 := q1.kp (kp_same s0)
              have q2 := q2.kp (kp_same s0)
              have ei : innerD (.tuple [d1, d2]) = if (isS "whole" d1 && isWholeD d2) || (isS "text" d1 && isTextD d2) then some [] else none := rfl
              have eo : isOne "function" [d1, d2] = false := rfl
              refine ⟨_, rfl, a, _, 0, _, rfl, rfl, SqT.of ga, rfl, d1, _, rfl, q1, _, rfl, ?_⟩
              cases hw : isS "whole" d1 with
              | true =>
                have ht : isS "text" d1 = false := by
                  cases d1 with
                  | str x =>
                    have : x = "whole" := of_decide_eq_true hw
                    rw [this]
                    rfl
                  | _ => rfl
                rw [hw, ht, Bool.true_and, Bool.false_and, Bool.or_false] at ei
                refine iT rfl ?_
                refine ⟨_, rfl, a, _, 1, _, rfl, rfl, SqT.of ga, rfl, t, v2, d2, rfl, q2, _, rfl, ?_⟩
                cases h2 : isWholeD d2 with
                | true =>
                  rw [h2] at ei
                  exact iT rfl ⟨slz rfl, fun p hp => kS _ p [] [] (same_new hp) ei upd_same .nil⟩
                | false =>
                  rw [h2] at ei
                  refine iF rfl ?_
                  refine ⟨_, rfl, .ref a, _, rfl, .inr ⟨_, SqT.of ga, rfl⟩, ?_⟩
                  refine ⟨rfl, _, rfl, ?_⟩
                  refine iT rfl ?_
                  refine ⟨_, rfl, a, _, 0, _, rfl, rfl, SqT.of ga, rfl, d1, _, rfl, q1, _, rfl, ?_⟩
                  refine iF ht ?_
                  exact fin H (Same.refl H) (by rw [ei, eo] <;> rfl)
              | false =>
                rw [hw, Bool.false_and, Bool.false_or] at ei
                refine iF rfl ?_
                refine ⟨_, rfl, .ref a, _, rfl, .inr ⟨_, SqT.of ga, rfl⟩, ?_⟩
                refine ⟨rfl, _, rfl, ?_⟩
                refine iT rfl ?_
                refine ⟨_, rfl, a, _, 0, _, rfl, rfl, SqT.of ga, rfl, d1, _, rfl, q1, _, rfl, ?_⟩
                cases ht : isS "text" d1 with
                | false =>
                  rw [ht] at ei
                  refine iF rfl ?_
                  exact fin H (Same.refl H) (by rw [ei, eo] <;> rfl)
                | true =>
                  rw [ht, Bool.true_and] at ei
                  refine iT rfl ?_
                  refine ⟨_, rfl, a, _, 1, _, rfl, rfl, SqT.of ga, rfl, t, v2, d2, rfl, q2, hx2, fun H1 s1 => ⟨_, rfl, ?_⟩⟩
                  cases h2 : isTextD d2 with
                  | true =>
                    rw [h2] at ei
                    exact iT rfl ⟨slz rfl, fun p hp => kS _ p [] [] (s1.trans (same_new hp)) ei upd_same .nil⟩
                  | false =>
                    rw [h2] at ei
                    refine iF rfl ?_
                    exact fin H1 s1 (by rw [ei, eo] <;> rfl)
        | [d1, d2, d3], hd, ho, kN, kS, da, le, fin =>
          cases da with
          | @cons v1 _ _ _ q1 t1 =>
            cases t1 with
            | @cons v2 _ _ _ q2 t2 =>
              cases t2 with
              | @cons v3 _ _ _ q3 t3 =>
                cases t3
                have q1 := q1.kp (kp_same s0)
                have q2 := q2.kp (kp_same s0)
                have q30 := q3
                have q3 := q3.kp (kp_same s0)
                have eo : isOne "function" [d1, d2, d3] = false := rfl
                have hx2 : ∀ x, d2 = .str x → x.length ≤ 1000 := fun x e => by
                  have z := (okV_three ho).2.1
                  rw [e] at z
                  have := okV_str z
                  omega
                refine iF rfl ?_
                refine ⟨_, rfl, .ref a, _, rfl, .inr ⟨_, SqT.of ga, rfl⟩, ?_⟩
                refine ⟨rfl, _, rfl, ?_⟩
                refine iT rfl ?_
                refine ⟨_, rfl, a, _, 0, _, rfl, rfl, SqT.of ga, rfl, d1, _, rfl, q1, _, rfl, ?_⟩
                cases hw : isS "made" d1 with
                | false =>
                  have ei : innerD (.tuple [d1, d2, d3]) = none := by
                    unfold innerD
                    split
                    · rename_i z
                      injection z with z
                      injection z with z1 _
                      rw [← z1, hw]
                      rfl
                    · rename_i z
                      injection z with z
                      simp at z
                    · rename_i z
                      injection z with z
                      simp at z
                    · rfl
                  refine iF rfl ?_
                  refine ⟨_, rfl, .ref a, _, rfl, .inr ⟨_, SqT.of ga, rfl⟩, ?_⟩
                  refine ⟨rfl, _, rfl, ?_⟩
                  refine iF rfl ?_
                  refine ⟨_, rfl, .ref a, _, rfl, .inr ⟨_, SqT.of ga, rfl⟩, ?_⟩
                  refine ⟨rfl, _, rfl, ?_⟩
                  refine iF rfl ?_
                  exact fin H (Same.refl H) (by rw [ei, eo] <;> rfl)
                | true =>
                  refine iT rfl ?_
                  refine ⟨_, rfl, a, _, 1, _, rfl, rfl, SqT.of ga, rfl, t, v2, d2, rfl, q2, hx2, _, rfl, ?_⟩
                  cases h2 : isNameD d2 with
                  | false =>
                    have ei : innerD (.tuple [d1, d2, d3]) = none := by
                      cases d3 <;> simp [innerD, h2]
                    refine iF rfl ?_
                    refine ⟨_, rfl, .ref a, _, rfl, .inr ⟨_, SqT.of ga, rfl⟩, ?_⟩
                    refine ⟨rfl, _, rfl, ?_⟩
                    refine iF rfl ?_
                    refine ⟨_, rfl, .ref a, _, rfl, .inr ⟨_, SqT.of ga, rfl⟩, ?_⟩
                    refine ⟨rfl, _, rfl, ?_⟩
                    refine iF rfl ?_
                    exact fin H (Same.refl H) (by rw [ei, eo] <;> rfl)
                  | true =>
                    refine iT rfl ?_
                    refine ⟨_, rfl, a, _, 2, _, rfl, rfl, SqT.of ga, rfl, v3, .ty "tuple", .type (tyName d3), .type "tuple", isTup d3, rfl, .ty "tuple", q3.ty, kit_tup d3, _, rfl, ?_⟩
                    cases h3 : isTup d3 with
                    | false =>
                      have ei : innerD (.tuple [d1, d2, d3]) = none := by
                        cases d3 with
                        | tuple _ => cases h3
                        | _ => simp [innerD]
                      refine iF rfl ?_
                      refine ⟨_, rfl, .ref a, _, rfl, .inr ⟨_, SqT.of ga, rfl⟩, ?_⟩
                      refine ⟨rfl, _, rfl, ?_⟩
                      refine iF rfl ?_
                      refine ⟨_, rfl, .ref a, _, rfl, .inr ⟨_, SqT.of ga, rfl⟩, ?_⟩
                      refine ⟨rfl, _, rfl, ?_⟩
                      refine iF rfl ?_
                      exact fin H (Same.refl H) (by rw [ei, eo] <;> rfl)
                    | true =>
                      obtain ⟨fs, rfl⟩ : ∃ fs, d3 = .tuple fs := by
                        cases d3 with
                        | tuple fs => exact ⟨fs, rfl⟩
                        | _ => cases h3
                      cases q30 with
                      | @tup a3 ys _ g3 da3 =>
                        have ei : innerD (.tuple [d1, d2, .tuple fs]) = some fs := by simp [innerD, hw, h2]
                        refine iT rfl ?_
                        exact ⟨_, rfl, a, _, 2, _, rfl, rfl, SqT.of ga, rfl, kS H a3 ys fs (Same.refl H) ei (s0 _ _ g3) da3⟩
        | _ :: _ :: _ :: _ :: _, hd, ho, kN, kS, da, le, fin =>
          have l4 : 4 ≤ xs.length := by rw [le]; simp only [List.length_cons]; omega
          refine iF (nq (j := 0) (by omega)) ?_
          refine ⟨_, rfl, .ref a, xs.length, rfl, .inr ⟨xs, SqT.of ga, rfl⟩, ?_⟩
          refine ⟨rfl, _, rfl, ?_⟩
          refine iF (nq (j := 3) (by omega)) ?_
          refine ⟨_, rfl, .ref a, xs.length, rfl, .inr ⟨xs, SqT.of ga, rfl⟩, ?_⟩
          refine ⟨rfl, _, rfl, ?_⟩
          refine iF (nq (j := 2) (by omega)) ?_
          refine ⟨_, rfl, .ref a, xs.length, rfl, .inr ⟨xs, SqT.of ga, rfl⟩, ?_⟩
          refine ⟨rfl, _, rfl, ?_⟩
          refine iF (nq (j := 2) (by omega)) ?_
          exact fin H (Same.refl H) (by simp only [innerD]; rfl)
end
end L3

set_option maxRecDepth 900000
namespace L3
open PySem L2
/-- what stands on the stack: values with their depth -/
inductive Stk (t : Addr) (H0 H : Hp) : List V → List (PyData × Nat) → Prop
  | nil : Stk t H0 H [] []
  | cons {q : Addr} {v : V} {d : PyData} {n : Nat} {vs : List V} {ps : List (PyData × Nat)} : H q = some (.tup [v, .int (n : Int)]) → Da t H0 v d → Stk t H0 H vs ps → Stk t H0 H (.ref q :: vs) ((d, n) :: ps)
theorem Stk.kp {t : Addr} {H0 H H' : Hp} (s : ∀ a xs, H a = some (.tup xs) → H' a = some (.tup xs)) : ∀ {ps : List (PyData × Nat)} {vs : List V}, Stk t H0 H vs ps → Stk t H0 H' vs ps
  | [], _, h => by cases h; exact .nil
  | (d, n) :: ps, _, h => by
    cases h with
    | cons h1 h2 h3 => exact .cons (s _ _ h1) h2 (h3.kp s)
theorem Stk.app {t : Addr} {H0 H : Hp} : ∀ {ps qs : List (PyData × Nat)} {vs ws : List V}, Stk t H0 H vs ps → Stk t H0 H ws qs → Stk t H0 H (vs ++ ws) (ps ++ qs)
  | [], _, _, _, h, g => by cases h; exact g
  | (d, n) :: ps, _, _, _, h, g => by
    cases h with
    | cons h1 h2 h3 => exact .cons h1 h2 (h3.app g)
theorem Stk.len {t : Addr} {H0 H : Hp} : ∀ {ps : List (PyData × Nat)} {vs : List V}, Stk t H0 H vs ps → vs.length = ps.length
  | [], _, h => by cases h; rfl
  | (d, n) :: ps, _, h => by
    cases h with
    | cons h1 h2 h3 => rw [List.length_cons, List.length_cons, h3.len]
theorem Stk.last {t : Addr} {H0 H : Hp} {d : PyData} {n : Nat} : ∀ {ps : List (PyData × Nat)} {vs : List V}, Stk t H0 H vs (ps ++ [(d, n)]) → ∃ vs0 q v, vs = vs0 ++ [.ref q] ∧ Stk t H0 H vs0 ps ∧ H q = some (.tup [v, .int (n : Int)]) ∧ Da t H0 v d
  | [], _, h => by
    cases h with
    | cons h1 h2 h3 =>
      cases h3
      exact ⟨[], _, _, rfl, .nil, h1, h2⟩
  | (d', n') :: ps, _, h => by
    cases h with
    | cons h1 h2 h3 =>
      obtain ⟨vs0, q, v, rfl, g1, g2, g3⟩ := Stk.last (ps := ps) h3
      exact ⟨_, q, v, rfl, .cons h1 h2 g1, g2, g3⟩
theorem daAll_last {t : Addr} {H : Hp} {d : PyData} : ∀ {ds : List PyData} {vs : List V}, DaAll t H vs (ds ++ [d]) → ∃ vs0 v, vs = vs0 ++ [v] ∧ DaAll t H vs0 ds ∧ Da t H v d
  | [], _, h => by
    cases h with
    | cons h1 h2 =>
      cases h2
      exact ⟨[], _, rfl, .nil, h1⟩
  | e :: ds, _, h => by
    cases h with
    | cons h1 h2 =>
      obtain ⟨vs0, v, rfl, g1, g2⟩ := daAll_last (ds := ds) h2
      exact ⟨_, v, rfl, .cons h1 g1, g2⟩
theorem DaAll.get {t : Addr} {H : Hp} : ∀ {i : Nat} {vs : List V} {ds : List PyData} {v : V}, DaAll t H vs ds → vs[i]? = some v → ∃ d, ds[i]? = some d ∧ Da t H v d
  | _, _, [], _, h, e => by cases h; cases e
  | 0, _, d :: ds, _, h, e => by
    cases h with
    | cons h1 h2 =>
      cases e
      exact ⟨d, rfl, h1⟩
  | i + 1, _, d :: ds, _, h, e => by
    cases h with
    | cons h1 h2 => exact DaAll.get (i := i) h2 e
/-- sizes together -/
def szP (ps : List (PyData × Nat)) : Nat := (ps.map fun p => psz p.1).sum
theorem szP_app (a b : List (PyData × Nat)) : szP (a ++ b) = szP a + szP b := by
  unfold szP
  rw [List.map_append, List.sum_append]
theorem szP_map (n : Nat) : ∀ (ds : List PyData), szP (ds.map fun d => (d, n)) = pszL ds
  | [] => rfl
  | d :: ds => by
    have := szP_map n ds
    unfold szP at this ⊢
    simp only [List.map_cons, List.sum_cons, pszL]
    rw [this]
theorem szP_len : ∀ (ps : List (PyData × Nat)), ps.length ≤ szP ps
  | [] => Nat.le_refl _
  | (d, n) :: ps => by
    have := psz_pos d
    have := szP_len ps
    unfold szP at this ⊢
    simp only [List.length_cons, List.map_cons, List.sum_cons]
    omega
section
variable {P : Program} {w : World} {K : PySem.W.Frag} {mg : Str → Option Value} {base : Heap} {bA : Addr} {es : Array DictEntry} {nb : Nat}
abbrev s_is_value : Stmt := topS 14
abbrev N_is_value : List Str := ["value", "waiting", "many", "part", "depth", "inner", "row"]
theorem sc_is_value : FnScope N_is_value ["value"] (defScope s_is_value) := ⟨rfl, rfl, rfl, by decide +kernel, rfl, by decide +kernel, by decide +kernel⟩
def spIsV : Sp := fun vs H Q _ => ∃ (t : Addr) (v : V) (d : PyData), vs = [v] ∧ Da t H v d ∧ okV d = true ∧ psz d ≤ 900000 ∧ ∀ H', Same H H' → Q (.bl (due d)) H'
theorem ok_isv {f : Addr} {fd : FuncData} (F : Fun K "is_value" "is_value" s_is_value f fd) (B : Bl mg) (M : Mn K w mg bA es nb) (D_inner_values : Kn P w K mg base 3 "inner_values" ["value"] spInner) : FnOk P w K mg base CX0 4 f fd ["value"] spIsV := by
  refine F.ok sc_is_value (fun vs H Q E h => ?_) (fun cdv A outer s H vs Q E hr h => ?_)
  · obtain ⟨t, v, d, rfl, _⟩ := h
    rfl
  · obtain ⟨t, v, d, rfl, hd, hok, hsz, k⟩ := h
    have hr_inner_values : Room 3 _ := hr
    have hu64 := hr.units
    refine ⟨_, (pss_cons (ps_set (i := 1) sc_is_value.nd rfl (Or.inl rfl) (pe_lst (pa_cons (pe_tup (pa_cons (pv 0) (pa_cons pe_int pa_nil))) pa_nil)))
  (pss_cons (ps_set (i := 2) sc_is_value.nd rfl (Or.inl rfl) pe_int)
  (pss_cons (ps_while PassesOwn.never (pt_truth (pv 1) (by intro _; rfl))
  (pss_cons (ps_asg (pe_bm0 PySem.F.plainAttrs_list PySem.F.slot_list_pop PySem.F.type_list_pop mt_pop (pv 1)) (pg_tup (by rfl) (pgs_cons (pg_name (i := 3) sc_is_value.nd rfl (Or.inl rfl)) (pgs_cons (pg_name (i := 4) sc_is_value.nd rfl (Or.inr rfl)) pgs_nil))))
  (pss_cons (ps_aug (i := 2) sc_is_value.nd rfl (Or.inl rfl) pe_int ip_add)
  (pss_cons (ps_set (i := 5) sc_is_value.nd rfl (Or.inl rfl) (pe_kn D_inner_values hr_inner_values (pa_cons (pv 3) pa_nil)))
  (pss_cons (ps_if (PW.pt (pw_or (pt_cmpR op_isN (pv 5) pe_non (nomark _)) (pw_or (pt_cmpR op_gt (pv 2) (pe_gc (by rfl) M.MOST_PARTS) (nomark _)) (pw_or1 (pt_cmpR op_gt (pv 4) (pe_gc (by rfl) M.DEEPEST) (nomark _))))))
  (pss_one (ps_ret pe_bl))
  pss_nil)
  (pss_one (ps_expr (pe_bm PySem.F.plainAttrs_list PySem.F.slot_list_extend PySem.F.type_list_extend mt_extend (pv 1) (pa_cons (pe_lc (own := [("row", 6)]) rfl sc_is_value.nd (pi_tup (pv 5)) (blkOk_by (N := N_is_value) (sc := (defScope s_is_value)) (own := [("row", 6)]) (by decide +kernel)) (fun _ _ _ _ _ => (pg_name (i := 6) sc_is_value.nd rfl (Or.inl rfl))) (fun _ _ _ _ _ => pts_nil) (fun _ _ _ _ _ => (pe_tup (pa_cons (pv 6) (pa_cons (pe_op op_add (pv 4) pe_int) pa_nil))))) pa_nil)))))))))
  (pss_one (ps_ret pe_bl))))), ?_⟩
    refine ⟨_, rfl, slz rfl, fun q1 hq1 => ⟨slz rfl, fun lw hlw => ?_⟩⟩
    have s1 : Same H (upd (upd H q1 (.tup [v, .int 1])) lw (.lst [.ref q1])) := (same_new hq1).trans (same_new hlw)
    have g0 : (upd (upd H q1 (.tup [v, .int 1])) lw (.lst [.ref q1])) q1 = some (.tup [v, .int 1]) := by
      rw [upd_ne (ne_of_none upd_same hlw)]
      exact upd_same
    have g1 : (upd (upd H q1 (.tup [v, .int 1])) lw (.lst [.ref q1])) lw = some (.lst [.ref q1]) := upd_same
    have hl0 : H lw = none := by
      cases z : H lw with
      | none => rfl
      | some o =>
        rw [same_new hq1 _ _ z] at hlw
        cases hlw
    generalize upd (upd H q1 (.tup [v, .int 1])) lw (.lst [.ref q1]) = H1 at s1 g0 g1 ⊢
    refine ⟨fun m σ H' => ∃ (ps : List (PyData × Nat)) (vs : List V) (many : Nat) (v3 v4 v5 : Option V), σ = [some v, some (.ref lw), some (.int (many : Int)), v3, v4, v5, none] ∧ Same H H' ∧ H' lw = some (.lst vs) ∧ Stk t H H' vs ps ∧ okVL (ps.map (·.1)) = true ∧ m = szP ps ∧ szP ps ≤ 900000 ∧ many ≤ 1000 ∧ chk ps many = due d, ⟨szP [(d, 1)], [(d, 1)], [.ref q1], 0, none, none, none, rfl, s1, g1, .cons g0 hd .nil, by simp only [List.map, okVL, hok]; rfl, rfl, by simpa [szP] using hsz, by omega, chk_first d⟩, ?_⟩
    rintro m σ H2 ⟨ps, vs, many, v3, v4, v5, rfl, s2, g2, st, ho, rfl, hz, hm, hk⟩
    refine ⟨_, rfl, _, .inl ⟨vs, SqL.of g2, rfl⟩, ?_⟩
    rcases List.eq_nil_or_concat ps with rfl | ⟨ps0, ⟨e, n⟩, rfl⟩
    · cases st
      refine iteF ?_
      have e : due d = true := by
        rw [← hk]
        exact decide_eq_true (by omega)
      rw [e] at k
      exact k H2 s2
    · rw [List.concat_eq_append] at *
      obtain ⟨vs0, q, u, rfl, st0, gq, de⟩ := st.last
      have hne : (!(vs0 ++ [V.ref q]).isEmpty) = true := by cases vs0 <;> rfl
      refine iT hne ?_
      have lz : szP (ps0 ++ [(e, n)]) = szP ps0 + psz e := by rw [szP_app]; rfl
      refine ⟨fun σ' H' => ∃ (ps : List (PyData × Nat)) (vs : List V) (many : Nat) (v3 v4 v5 : Option V), σ' = [some v, some (.ref lw), some (.int (many : Int)), v3, v4, v5, none] ∧ Same H H' ∧ H' lw = some (.lst vs) ∧ Stk t H H' vs ps ∧ okVL (ps.map (·.1)) = true ∧ szP ps < szP (ps0 ++ [(e, n)]) ∧ szP ps ≤ 900000 ∧ many ≤ 1000 ∧ chk ps many = due d, ?_, ?_⟩
      · rintro σ' H' ⟨ps, vs, many, v3, v4, v5, e1, e2, e3, e4, e5, e6, e7, e8, e9⟩
        exact ⟨szP ps, e6, ps, vs, many, v3, v4, v5, e1, e2, e3, e4, e5, rfl, e7, e8, e9⟩
      · rw [List.map_append, okVL_app, Bool.and_eq_true] at ho
        obtain ⟨ho0, ho1⟩ := ho
        have ho1 : okV e = true := okVL_mem ho1 (List.mem_singleton.mpr rfl)
        have S3 : Same H (upd H2 lw (.lst vs0)) := fun b o z => by
          rw [upd_ne (ne_of_none z hl0)]
          exact s2 _ _ z
        have K3 : ∀ a xs, H2 a = some (.tup xs) → (upd H2 lw (.lst vs0)) a = some (.tup xs) := fun a xs z => by
          rw [upd_ne (fun y => by rw [y, g2] at z; cases z)]
          exact z
        refine ⟨_, rfl, .inl ⟨rfl, _, SqL.of g2⟩, lw, vs0 ++ [.ref q], .ref q, rfl, rfl, g2, by simp, ?_⟩
        rw [List.dropLast_concat]
        have gq3 := K3 _ _ gq
        have st3 := st0.kp K3
        have g3 : (upd H2 lw (.lst vs0)) lw = some (.lst vs0) := upd_same
        generalize upd H2 lw (.lst vs0) = H3 at S3 gq3 st3 g3 ⊢
        refine ⟨q, _, rfl, SqT.of gq3, rfl, _, _, rfl, _, _, rfl, rfl, ?_⟩
        refine ⟨_, rfl, _, _, rfl, rfl, ?_⟩
        have hp1 := psz_pos e
        have cl := chk_last (ps := ps0) (d := e) (n := n) (many := many)
        rw [hk] at cl
        refine ⟨_, rfl, t, H, _, e, rfl, S3, de, ho1, fun H4 s4 ei => ?_, fun H4 a4 xs ds s4 ei g4 da4 => ?_⟩
        · rw [ei] at cl
          have cl : due d = false := cl
          rw [cl] at k
          refine ⟨_, rfl, rfl, _, rfl, ?_⟩
          exact iT rfl (k H4 (S3.trans s4))
        · rw [ei] at cl
          have cl : due d = (decide (many + 1 ≤ 1000) && decide (n ≤ 100) && chk (ps0 ++ ds.map fun e => (e, n + 1)) (many + 1)) := cl
          refine ⟨_, rfl, rfl, _, rfl, ?_⟩
          refine iF rfl ?_
          refine ⟨_, rfl, _, _, rfl, rfl, _, rfl, ?_⟩
          by_cases c1 : (1000 : Int) < (many : Int) + 1
          · rw [decide_eq_false (by omega : ¬ many + 1 ≤ 1000)] at cl
            have cl : due d = false := cl
            rw [cl] at k
            refine iT (decide_eq_true c1) ?_
            exact iT rfl (k H4 (S3.trans s4))
          · rw [decide_eq_true (by omega : many + 1 ≤ 1000), Bool.true_and] at cl
            refine iF (decide_eq_false c1) ?_
            refine ⟨_, rfl, _, _, rfl, rfl, _, rfl, ?_⟩
            by_cases c2 : (100 : Int) < (n : Int)
            · rw [decide_eq_false (by omega : ¬ n ≤ 100)] at cl
              have cl : due d = false := cl
              rw [cl] at k
              exact iT (decide_eq_true c2) (k H4 (S3.trans s4))
            · rw [decide_eq_true (by omega : n ≤ 100), Bool.true_and] at cl
              refine iF (decide_eq_false c2) ?_
              have g34 : H4 lw = some (.lst vs0) := s4 _ _ g3
              have st4 := st3.kp (H' := H4) fun a xs z => s4 _ _ z
              have oi := okV_inner ei ho1
              have il := inner_less ei
              have dl := pszL_len ds
              have lx := da4.len
              refine ⟨_, rfl, .inl ⟨rfl, _, SqL.of g34⟩, ?_⟩
              refine ⟨_, rfl, a4, rfl, ⟨_, SqT.of g4⟩, fun D hD => ?_⟩
              have nD : lw ≠ D := ne_of_none g34 hD
              refine lc_tup (K := K) (a := a4) (xs := xs) (fun i H' => Same H4 H' ∧ ∃ acc, H' D = some (.lst acc) ∧ Stk t H H' acc ((ds.take i).map fun d => (d, n + 1))) ⟨same_new hD, [], upd_same, .nil⟩ (fun i H' _ ⟨s1, _⟩ => SqT.of (s1 _ _ g4)) (fun i x H' hx ⟨s5, acc, g5, st5⟩ => ⟨rfl, ?_⟩) (fun H5 ⟨s5, acc, g5, st5⟩ => ?_)
              · obtain ⟨di, edi, ddi⟩ := da4.get hx
                have hi : i < xs.length := (List.getElem?_eq_some_iff.mp hx).1
                refine ⟨_, rfl, _, rfl, _, _, rfl, rfl, slz rfl, fun p hp => ⟨acc, ?_, ?_, ?_, acc ++ [.ref p], upd_same, ?_⟩⟩
                · rw [upd_ne (ne_of_none g5 hp)]
                  exact g5
                · rw [st5.len]
                  simp
                  exact szl (by omega)
                · intro b o z
                  rw [upd_ne (ne_of_none z hD)]
                  exact same_new hp _ _ (s5 _ _ z)
                · rw [List.take_add_one, edi, List.map_append]
                  have ku : ∀ a' ys, H' a' = some (.tup ys) → (upd (upd H' p (.tup [x, .int ((n : Int) + 1)])) D (.lst (acc ++ [.ref p]))) a' = some (.tup ys) := fun a' ys z => by
                    rw [upd_ne (fun y => by rw [y, g5] at z; cases z)]
                    exact same_new hp _ _ z
                  refine (st5.kp ku).app (.cons ?_ ddi .nil)
                  rw [upd_ne (fun y => by rw [y, g5] at hp; cases hp)]
                  exact upd_same
              · rw [lx, List.take_length] at st5
                refine ⟨lw, D, vs0, acc, rfl, rfl, s5 _ _ g34, g5, by rw [st0.len, st5.len, sizeLine_eq]; have := szP_len ps0; rw [List.length_map]; omega, ?_⟩
                have nl : ∀ {a : Addr} {o : HO}, H a = some o → a ≠ lw := fun z => ne_of_none z hl0
                refine ⟨ps0 ++ ds.map fun d => (d, n + 1), vs0 ++ acc, many + 1, _, _, _, rfl, fun b o z => ?_, upd_same, ?_, ?_, ?_, ?_, by omega, cl.symm⟩
                · rw [upd_ne (nl z)]
                  exact s5 _ _ (s4 _ _ (S3 _ _ z))
                · refine ((st4.kp fun a xs z => s5 _ _ z).app st5).kp fun a xs z => ?_
                  rw [upd_ne fun y => by rw [y, s5 _ _ g34] at z; cases z]
                  exact z
                · rw [List.map_append, okVL_app, ho0, Bool.true_and, List.map_map]
                  show okVL (ds.map fun d => d) = true
                  rw [List.map_id']
                  exact oi
                · rw [lz, szP_app, szP_map]
                  omega
                · rw [szP_app, szP_map]
                  rw [lz] at hz
                  omega
abbrev s_parts_of : Stmt := topS 16
abbrev N_parts_of : List Str := ["value", "many", "waiting", "part"]
theorem sc_parts_of : FnScope N_parts_of ["value"] (defScope s_parts_of) := ⟨rfl, rfl, rfl, by decide +kernel, rfl, by decide +kernel, by decide +kernel⟩
def spParts : Sp := fun vs H Q _ => ∃ (t : Addr) (v : V) (d : PyData) (p : Nat × Nat), vs = [v] ∧ Da t H v d ∧ okV d = true ∧ meas d = some p ∧ p.1 ≤ 1000 ∧ psz d ≤ 900000 ∧ ∀ H', Same H H' → Q (.int (p.1 : Int)) H'
theorem ok_parts {f : Addr} {fd : FuncData} (F : Fun K "parts_of" "parts_of" s_parts_of f fd) (B : Bl mg) (D_inner_values : Kn P w K mg base 3 "inner_values" ["value"] spInner) : FnOk P w K mg base CX0 4 f fd ["value"] spParts := by
  refine F.ok sc_parts_of (fun vs H Q E h => ?_) (fun cdv A outer s H vs Q E hr h => ?_)
  · obtain ⟨t, v, d, p, rfl, _⟩ := h
    rfl
  · obtain ⟨t, v, d, p, rfl, hd, hok, hm, hp, hsz, k⟩ := h
    have hr_inner_values : Room 3 _ := hr
    have hu64 := hr.units
    refine ⟨_, (pss_cons (ps_set (i := 1) sc_parts_of.nd rfl (Or.inl rfl) pe_int)
  (pss_cons (ps_set (i := 2) sc_parts_of.nd rfl (Or.inl rfl) (pe_lst (pa_cons (pv 0) pa_nil)))
  (pss_cons (ps_while PassesOwn.never (pt_truth (pv 2) (by intro _; rfl))
  (pss_cons (ps_aug (i := 1) sc_parts_of.nd rfl (Or.inl rfl) pe_int ip_add)
  (pss_cons (ps_set (i := 3) sc_parts_of.nd rfl (Or.inl rfl) (pe_bm0 PySem.F.plainAttrs_list PySem.F.slot_list_pop PySem.F.type_list_pop mt_pop (pv 2)))
  (pss_one (ps_expr (pe_bm PySem.F.plainAttrs_list PySem.F.slot_list_extend PySem.F.type_list_extend mt_extendT (pv 2) (pa_cons (pe_kn D_inner_values hr_inner_values (pa_cons (pv 3) pa_nil)) pa_nil)))))))
  (pss_one (ps_ret (pv 1)))))), ?_⟩
    refine ⟨_, rfl, slz rfl, fun lw hlw => ?_⟩
    have s1 : Same H (upd H lw (.lst [v])) := same_new hlw
    have g1 : (upd H lw (.lst [v])) lw = some (.lst [v]) := upd_same
    generalize upd H lw (.lst [v]) = H1 at s1 g1 ⊢
    have m1 : measL [d] = some p := by
      simp only [measL, hm]
      simp
    refine ⟨fun m σ H' => ∃ (ds : List PyData) (vs : List V) (many : Nat) (q : Nat × Nat) (v3 : Option V), σ = [some v, some (.int (many : Int)), some (.ref lw), v3] ∧ Same H H' ∧ H' lw = some (.lst vs) ∧ DaAll t H vs ds ∧ okVL ds = true ∧ measL ds = some q ∧ many + q.1 = p.1 ∧ pszL ds ≤ 900000 ∧ m = q.1, ⟨p.1, [d], [v], 0, p, none, rfl, s1, g1, .cons hd .nil, by simp only [okVL, hok]; rfl, m1, by omega, by simpa [pszL] using hsz, rfl⟩, ?_⟩
    rintro m σ H2 ⟨ds, vs, many, q, v3, rfl, s2, g2, da, ho, hq, hmq, hz, rfl⟩
    refine ⟨_, rfl, _, .inl ⟨vs, SqL.of g2, rfl⟩, ?_⟩
    rcases List.eq_nil_or_concat ds with rfl | ⟨ds0, e, rfl⟩
    · cases da
      refine iteF ?_
      have hq : some ((0 : Nat), (0 : Nat)) = some q := hq
      have hq := Option.some.inj hq
      rw [← hq] at hmq
      have e : many = p.1 := hmq
      rw [e]
      exact ⟨_, rfl, k H2 s2⟩
    · rw [List.concat_eq_append] at *
      obtain ⟨vs0, u, rfl, da0, de⟩ := daAll_last da
      have hne : (!(vs0 ++ [u]).isEmpty) = true := by cases vs0 <;> rfl
      refine iT hne ?_
      obtain ⟨es, q', ei, hq', e1⟩ := parts_step hq
      rw [okVL_app, Bool.and_eq_true] at ho
      obtain ⟨ho0, ho1⟩ := ho
      have ho1 : okV e = true := okVL_mem ho1 (List.mem_singleton.mpr rfl)
      refine ⟨fun σ' H' => ∃ (ds : List PyData) (vs : List V) (many : Nat) (q : Nat × Nat) (v3 : Option V), σ' = [some v, some (.int (many : Int)), some (.ref lw), v3] ∧ Same H H' ∧ H' lw = some (.lst vs) ∧ DaAll t H vs ds ∧ okVL ds = true ∧ measL ds = some q ∧ many + q.1 = p.1 ∧ pszL ds ≤ 900000 ∧ q.1 = q'.1, ?_, ?_⟩
      · rintro σ' H' ⟨ds, vs, many, q2, v3, f1, f2, f3, f4, f5, f6, f7, f8, f9⟩
        exact ⟨q2.1, by omega, ds, vs, many, q2, v3, f1, f2, f3, f4, f5, f6, f7, f8, rfl⟩
      · have nl : ∀ {a : Addr} {o : HO}, H a = some o → a ≠ lw := fun z => ne_of_none z hlw
        have S3 : Same H (upd H2 lw (.lst vs0)) := fun b o z => by
          rw [upd_ne (nl z)]
          exact s2 _ _ z
        refine ⟨_, rfl, _, _, rfl, rfl, ?_⟩
        refine ⟨_, rfl, .inl ⟨rfl, _, SqL.of g2⟩, lw, vs0 ++ [u], u, rfl, rfl, g2, by simp, ?_⟩
        rw [List.dropLast_concat]
        have g3 : (upd H2 lw (.lst vs0)) lw = some (.lst vs0) := upd_same
        generalize upd H2 lw (.lst vs0) = H3 at S3 g3 ⊢
        have il := inner_less ei
        have oi := okV_inner ei ho1
        have lz : pszL (ds0 ++ [e]) = pszL ds0 + psz e := by rw [pszL_app]; simp [pszL]
        refine ⟨_, rfl, .inl ⟨rfl, _, SqL.of g3⟩, ?_⟩
        refine ⟨_, rfl, t, H, _, e, rfl, S3, de, ho1, fun H4 s4 z => (by rw [ei] at z; cases z), fun H4 a4 xs ds s4 ei2 g4 da4 => ?_⟩
        have ei2 : es = ds := Option.some.inj (ei.symm.trans ei2)
        subst ei2
        have dl := pszL_len ds0
        have d2 := pszL_len es
        refine ⟨lw, a4, vs0, xs, rfl, rfl, s4 _ _ g3, SqT.of g4, by rw [da0.len, da4.len, sizeLine_eq]; omega, ?_⟩
        have nl4 := s4 _ _ g3
        refine ⟨ds0 ++ es, vs0 ++ xs, many + 1, q', _, rfl, fun b o z => ?_, upd_same, da0.app da4, ?_, hq', by omega, ?_, rfl⟩
        · rw [upd_ne (nl z)]
          exact s4 _ _ (S3 _ _ z)
        · rw [okVL_app, ho0, oi]
          rfl
        · rw [pszL_app]
          rw [lz] at hz
          omega
end
end L3

namespace L3
open PySem L2
structure Bl5 (mg : Str → Option Value) : Prop where
  sum : mg "sum" = none
/-- signs that are none of some -/
def badS (p : Nat → Bool) (cs : List Nat) : List Str := (cs.filter fun c => !p c).map fun c => (⟨#[c]⟩ : Str)
theorem badS_empty (p : Nat → Bool) : ∀ (cs : List Nat), ((badS p cs).map V.str).isEmpty = cs.all p
  | [] => rfl
  | c :: cs => by
    have ih := badS_empty p cs
    unfold badS at ih ⊢
    rw [List.filter_cons, List.all_cons]
    cases hc : p c with
    | true => exact ih
    | false => rfl
theorem badS_len (p : Nat → Bool) (cs : List Nat) : (badS p cs).length ≤ cs.length := by
  unfold badS
  rw [List.length_map]
  exact List.length_filter_le _ _
theorem badS_add (p : Nat → Bool) (cs : List Nat) (c : Nat) : badS p (cs ++ [c]) = if p c then badS p cs else badS p cs ++ [⟨#[c]⟩] := by
  unfold badS
  rw [List.filter_append, List.map_append, List.filter_cons]
  cases p c <;> simp
theorem lo_abc (c : Nat) : decide (c ∈ ("abcdefghijklmnopqrstuvwxyz" : Str).cps.toList) = lo c := by
  have e : ("abcdefghijklmnopqrstuvwxyz" : Str).cps.toList = (List.range 26).map (· + 97) := by decide +kernel
  rw [e, Bool.eq_iff_iff, decide_eq_true_eq]
  unfold lo
  simp only [List.mem_map, List.mem_range, Bool.and_eq_true, decide_eq_true_eq]
  constructor
  · rintro ⟨a, h, rfl⟩
    omega
  · intro h
    exact ⟨c - 97, by omega, by omega⟩
section
variable {P : Program} {w : World} {K : PySem.W.Frag} {mg : Str → Option Value} {base : Heap}
abbrev s__law_is_name : Stmt := topS 21
abbrev N__law_is_name : List Str := ["_law_thing", "_law_words", "_law_sign"]
theorem sc__law_is_name : FnScope N__law_is_name ["_law_thing"] (defScope s__law_is_name) := ⟨rfl, rfl, rfl, by decide +kernel, rfl, by decide +kernel, by decide +kernel⟩
def spLN : Sp := fun vs H Q _ => ∃ (t : Addr) (v : V) (d : PyData), vs = [v] ∧ Da t H v d ∧ okS d = true ∧ ∀ H', Same H H' → Q (.bl (isNameD d)) H'
theorem split_bar : Txt.split "data role case define derive picks above settles member as if given let and in match end" " " = barL := by decide +kernel
theorem ok_ln {f : Addr} {fd : FuncData} (F : Fun K "_law_is_name" "_law_is_name" s__law_is_name f fd) (B : Bl mg) (B9 : Bl9 mg) : FnOk P w K mg base CX0 1 f fd ["_law_thing"] spLN := by
  refine F.ok sc__law_is_name (fun vs H Q E h => ?_) (fun cdv A outer s H vs Q E hr h => ?_)
  · obtain ⟨t, v, d, rfl, _⟩ := h
    rfl
  · obtain ⟨t, v, d, rfl, hd, hok, k⟩ := h
    have hu64 := hr.units
    refine ⟨_, (pss_cons (ps_set (i := 1) sc__law_is_name.nd rfl (Or.inl rfl) pe_str)
  (pss_cons (ps_if (PW.pt (pw_or (pt_not (pt_val (pe_callB call_isi (by rfl) B9.isinstance PyProof.Rows.boot_isinstance (pa_cons (pv 0) (pa_cons (pe_bltn (v := .ty "str") (by rfl) B9.str_ (by decide +kernel) rfl) pa_nil))))) (pw_or (pt_not (pt_chain op_le op_le pe_int (pe_callB call_len (by rfl) B.len PySem.boot_len (pa_cons (pv 0) pa_nil)) pe_int)) (pw_or1 (pt_cmpR op_in_seq (pv 0) (pe_bm PySem.F.plainAttrs_str PySem.F.slot_str_split PySem.F.type_str_split mt_split (pv 1) (pa_cons pe_str pa_nil)) (by rfl))))))
  (pss_one (ps_ret pe_bl))
  pss_nil)
  (pss_one (ps_ret (pe_cmpR (op_eqNilL hu64) (pe_lc (own := [("_law_sign", 2)]) rfl sc__law_is_name.nd (pi_str (pv 0)) (blkOk_by (N := N__law_is_name) (sc := (defScope s__law_is_name)) (own := [("_law_sign", 2)]) (by decide +kernel)) (fun _ _ _ _ _ => (pg_name (i := 2) sc__law_is_name.nd rfl (Or.inl rfl))) (fun _ _ _ _ _ => (pts_one (pt_cmpR op_notInS (pv 2) pe_str (by rfl)))) (fun _ _ _ _ _ => (pv 2))) (pe_lst pa_nil) (nomark _)))))), ?_⟩
    refine ⟨_, rfl, v, .ty "str", .type (tyName d), .type "str", isStr d, rfl, .ty "str", hd.ty, kit_str d, _, rfl, ?_⟩
    cases hs : isStr d with
    | false =>
      have e : isNameD d = false := by cases d <;> first | rfl | cases hs
      rw [e] at k
      exact iT rfl (iT rfl (k H (Same.refl H)))
    | true =>
      obtain ⟨x, rfl⟩ : ∃ x, d = .str x := by
        cases d with
        | str x => exact ⟨x, rfl⟩
        | _ => cases hs
      cases hd
      have lx := okV_str hok
      refine iF rfl ?_
      have e0 : isNameD (.str x) = (wok x && !decide (x ∈ barL)) := rfl
      refine ⟨_, rfl, .str x, x.length, rfl, ⟨by rw [sizeLine_eq]; omega, rfl⟩, _, _, rfl, rfl, _, rfl, ?_⟩
      by_cases h1 : (1 : Int) ≤ (x.length : Int)
      · refine iT (decide_eq_true h1) ?_
        refine ⟨_, _, rfl, rfl, _, rfl, ?_⟩
        by_cases h2 : (x.length : Int) ≤ 8
        · refine iF (by rw [decide_eq_true h2]; rfl) ?_
          refine ⟨_, rfl, _, rfl, rfl, _, _, rfl, rfl, by decide, slz (by decide), fun q hq => ?_⟩
          rw [split_bar]
          have s2 := same_new (o := .lst (barL.map V.str)) hq
          have g2 : (upd H q (.lst (barL.map V.str))) q = some (.lst (barL.map V.str)) := upd_same
          generalize upd H q (.lst (barL.map V.str)) = H2 at s2 g2 ⊢
          refine ⟨q, _, rfl, .inl (SqL.of g2), rfl, flat_words _, _, rfl, ?_⟩
          rw [inV_words]
          by_cases h3 : x ∈ barL
          · have e : isNameD (.str x) = false := by rw [e0, decide_eq_true h3, Bool.not_true, Bool.and_false]
            rw [e] at k
            exact iT (by rw [decide_eq_true h3]; rfl) (k H2 s2)
          · refine iF (by rw [decide_eq_false h3]; rfl) ?_
            have e : isNameD (.str x) = wok x := by rw [e0, decide_eq_false h3, Bool.not_false, Bool.and_true]
            have e2 : wok x = x.cps.toList.all lo := by
              unfold wok
              rw [decide_eq_true (by omega : 1 ≤ x.length), decide_eq_true (by omega : x.length ≤ 8), ← Array.all_toList]
              rfl
            rw [e, e2] at k
            refine ⟨_, rfl, x, rfl, fun D hD => lc_it walk_str (fun i H' => Same H2 H' ∧ H' D = some (.lst ((badS lo (x.cps.toList.take i)).map V.str))) ⟨same_new hD, upd_same⟩ (fun i H' _ _ => trivial) ?_ ?_⟩
            · rintro i y H4 H5 hi ⟨s4, g4⟩ ⟨rfl, c, ec, rfl⟩
              refine ⟨rfl, ?_⟩
              have ec' : x.cps.toList[i]? = some c := by simpa using ec
              have hi' : i < x.length := hi
              have lb := badS_len lo (x.cps.toList.take i)
              rw [List.length_take] at lb
              have tk : x.cps.toList.take (i + 1) = x.cps.toList.take i ++ [c] := by
                rw [List.take_add_one, ec']
                rfl
              refine ⟨_, rfl, c, _, rfl, rfl, _, rfl, ?_⟩
              rw [lo_abc, tk, badS_add]
              cases hc : lo c with
              | true => exact iF rfl ⟨s4, g4⟩
              | false =>
                refine iT rfl ⟨_, rfl, _, g4, szl (by rw [List.length_map]; omega), fun b o e => ?_, ?_⟩
                · rw [upd_ne (ne_of_none e hD)]
                  exact s4 _ _ e
                · rw [upd_same]
                  simp
            · rintro H4 ⟨s4, g4⟩
              rw [show x.cps.toList.take x.cps.size = x.cps.toList from by rw [List.take_of_length_le (by simp)]] at g4
              refine ⟨slz rfl, fun z hz => ?_⟩
              have s5 := same_new (o := .lst []) hz
              have g5 : (upd H4 z (.lst [])) z = some (.lst []) := upd_same
              generalize upd H4 z (.lst []) = H5 at s5 g5 ⊢
              refine ⟨_, z, _, rfl, rfl, SqL.of (s5 _ _ g4), SqL.of g5, ?_⟩
              rw [badS_empty]
              exact k H5 (s2.trans (s4.trans s5))
        · have e : isNameD (.str x) = false := by
            rw [e0]
            unfold wok
            rw [decide_eq_false (by omega : ¬ x.length ≤ 8)]
            simp
          rw [e] at k
          exact iT (by rw [decide_eq_false h2]; rfl) (k H (Same.refl H))
      · have e : isNameD (.str x) = false := by
          rw [e0]
          unfold wok
          rw [decide_eq_false (by omega : ¬ 1 ≤ x.length)]
          rfl
        rw [e] at k
        exact iF (decide_eq_false h1) ⟨_, rfl, k H (Same.refl H)⟩
theorem qw : (("'" ++ "whole" ++ "'" : Str) = "'whole'") ∧ (("'" ++ "text" ++ "'" : Str) = "'text'") ∧ (("'" ++ "function" ++ "'" : Str) = "'function'") ∧ (("'" ++ "made" ++ "'" : Str) = "'made'") := by decide +kernel
theorem lt_one (c d : Nat) : decide ((#[c] : Array Nat).toList < (#[d] : Array Nat).toList) = decide (c < d) := by
  rw [Bool.eq_iff_iff, decide_eq_true_eq, decide_eq_true_eq]
  show [c] < [d] ↔ _
  rw [List.cons_lt_cons_iff]
  simp
abbrev s__law_is_plain : Stmt := topS 22
abbrev N__law_is_plain : List Str := ["_law_thing", "_law_sign"]
theorem sc__law_is_plain : FnScope N__law_is_plain ["_law_thing"] (defScope s__law_is_plain) := ⟨rfl, rfl, rfl, by decide +kernel, rfl, by decide +kernel, by decide +kernel⟩
def spPlain : Sp := fun vs H Q _ => ∃ (t : Addr) (v : V) (a b : PyData), vs = [v] ∧ Da t H v (.tuple [a, b]) ∧ isHead a = true ∧ okS b = true ∧ ∀ H', Same H H' → Q (.bl ((isS "whole" a && isWholeD b) || (isS "text" a && isTextD b))) H'
theorem gok_plain {f : Addr} {fd : FuncData} (F : Fun K "_law_is_plain" "_law_is_plain" s__law_is_plain f fd) (hb : Binds K fd ["_law_thing"] []) (B : Bl mg) (B9 : Bl9 mg) : FnG P w K mg base 1 f spPlain := by
  refine fnG_of F sc__law_is_plain (fun vs H Q E h => ?_) hb (fun cdv A outer s H vs Q hr hg h => ?_)
  · obtain ⟨t, v, a, b, rfl, _⟩ := h
    rfl
  · obtain ⟨t, v, a, b, rfl, hd, ha, hbk, k⟩ := h
    have hu64 := hr.units
    have hgd := grd_deep (env := PyProof.Rows.envOfC "_law_is_plain" (defScope s__law_is_plain) s.heap.objs.size f cdv) hg
    refine ⟨_, (pss_cons (ps_if (pt_cmpR op_eq (pe_callB (call_reprV t hgd hu64) (by rfl) B.repr (by decide +kernel) (pa_cons (pe_ix ix_tup (pv 0) pe_int (fun _ _ => rfl)) pa_nil)) pe_str (nomark _))
  (pss_one (ps_ret (pe_and (pe_callB call_isi (by rfl) B9.isinstance PyProof.Rows.boot_isinstance (pa_cons (pe_ix ix_tup (pv 0) pe_int (fun _ _ => rfl)) (pa_cons (pe_bltn (v := .ty "int") (by rfl) B9.int (by decide +kernel) rfl) pa_nil))) (pe_and (pe_not (pe_callB call_isi (by rfl) B9.isinstance PyProof.Rows.boot_isinstance (pa_cons (pe_ix ix_tup (pv 0) pe_int (fun _ _ => rfl)) (pa_cons (pe_bltn (v := .ty "bool") (by rfl) B9.bool (by decide +kernel) rfl) pa_nil)))) (pe_one (pe_cmpR op_le (pe_callB call_abs (by rfl) B9.abs PyProof.Rows.boot_abs (pa_cons (pe_ix ix_tup (pv 0) pe_int (fun _ _ => rfl)) pa_nil)) (pe_op op_pow pe_int pe_int) (nomark _)))))))
  pss_nil)
  (pss_cons (ps_if (PW.pt (pw_or (pt_cmpR op_ne (pe_callB (call_reprV t hgd hu64) (by rfl) B.repr (by decide +kernel) (pa_cons (pe_ix ix_tup (pv 0) pe_int (fun _ _ => rfl)) pa_nil)) pe_str (nomark _)) (pw_or (pt_not (pt_val (pe_callB call_isi (by rfl) B9.isinstance PyProof.Rows.boot_isinstance (pa_cons (pe_ix ix_tup (pv 0) pe_int (fun _ _ => rfl)) (pa_cons (pe_bltn (v := .ty "str") (by rfl) B9.str_ (by decide +kernel) rfl) pa_nil))))) (pw_or1 (pt_cmpR op_gt (pe_callB call_len (by rfl) B.len PySem.boot_len (pa_cons (pe_ix ix_tup (pv 0) pe_int (fun _ _ => rfl)) pa_nil)) pe_int (nomark _))))))
  (pss_one (ps_ret pe_bl))
  pss_nil)
  (pss_one (ps_ret (pe_cmpR (op_eqNilL hu64) (pe_lc (own := [("_law_sign", 1)]) rfl sc__law_is_plain.nd (pi_str (pe_ix ix_tup (pv 0) pe_int (fun _ _ => rfl))) (blkOk_by (N := N__law_is_plain) (sc := (defScope s__law_is_plain)) (own := [("_law_sign", 1)]) (by decide +kernel)) (fun _ _ _ _ _ => (pg_name (i := 1) sc__law_is_plain.nd rfl (Or.inl rfl))) (fun _ _ _ _ _ => (pts_one (pt_not (pt_chain op_le_str op_le_str pe_str (pv 1) pe_str)))) (fun _ _ _ _ _ => (pv 1))) (pe_lst pa_nil) (nomark _)))))), ?_⟩
    cases id hd with
    | @tup p xs _ ga da =>
      cases da with
      | @cons v1 _ _ _ q1 t1 =>
        cases t1 with
        | @cons v2 _ _ _ q2 t2 =>
          cases t2
          obtain ⟨o1, o2, o3, o4, o5⟩ := head_ok ha
          have o5w : decide (V.str a.shown = V.str "'whole'") = isS "whole" a := by
            have := o5 "whole" (by decide)
            rw [qw.1] at this
            exact this
          have o5t : decide (V.str a.shown = V.str "'text'") = isS "text" a := by
            have := o5 "text" (by decide)
            rw [qw.2.1] at this
            exact this
          have sz : a.shown.length ≤ sizeLine := Nat.le_of_lt (szl (by omega))
          refine ⟨_, rfl, p, _, 0, _, rfl, rfl, SqT.of ga, rfl, v1, a, rfl, q1, o1, o2, sz, o4, ?_⟩
          refine ⟨rfl, _, rfl, ?_⟩
          cases hw : isS "whole" a with
          | true =>
            have hx : isS "text" a = false := by
              cases a with
              | str x =>
                have : x = "whole" := of_decide_eq_true hw
                rw [this]
                rfl
              | _ => rfl
            rw [hw, hx, Bool.true_and, Bool.false_and, Bool.or_false] at k
            refine iT (o5w.trans hw) ?_
            refine ⟨_, rfl, p, _, 1, _, rfl, rfl, SqT.of ga, rfl, v2, .ty "int", .type (tyName b), .type "int", _, rfl, .ty "int", q2.ty, kit_int b, _, rfl, ?_⟩
            cases hi : (isIntD b || isBoolD b) with
            | false =>
              have e : isWholeD b = false := by cases b <;> first | rfl | cases hi
              rw [e] at k
              exact iF rfl (k H (Same.refl H))
            | true =>
              refine iT rfl ?_
              refine ⟨_, rfl, p, _, 1, _, rfl, rfl, SqT.of ga, rfl, v2, .ty "bool", .type (tyName b), .type "bool", isBoolD b, rfl, .ty "bool", q2.ty, kit_bool b, _, rfl, ?_⟩
              refine ⟨_, rfl, ?_⟩
              cases hj : isBoolD b with
              | true =>
                have e : isWholeD b = false := by cases b <;> first | rfl | cases hj
                rw [e] at k
                exact iF rfl (k H (Same.refl H))
              | false =>
                refine iT rfl ?_
                obtain ⟨i, rfl⟩ : ∃ i, b = .int i := by
                  cases b with
                  | int i => exact ⟨i, rfl⟩
                  | bool _ => cases hj
                  | _ => cases hi
                cases q2
                refine ⟨_, rfl, p, _, 1, _, rfl, rfl, SqT.of ga, rfl, i, rfl, ?_⟩
                refine ⟨_, _, rfl, rfl, ⟨by decide, by decide, by decide⟩, _, _, rfl, rfl, ?_⟩
                have e : decide ((if i < 0 then -i else i) ≤ (10 : Int) ^ (30 : Int).toNat) = isWholeD (.int i) := by
                  show decide ((if i < 0 then -i else i) ≤ (10 : Int) ^ 30) = (decide (-(10 ^ 30) ≤ i) && decide (i ≤ 10 ^ 30))
                  rw [Bool.eq_iff_iff]
                  simp only [Bool.and_eq_true, decide_eq_true_eq]
                  split <;> omega
                have kk := k H (Same.refl H)
                rw [← e] at kk
                exact kk
          | false =>
            rw [hw, Bool.false_and, Bool.false_or] at k
            refine iF (o5w.trans hw) ?_
            refine ⟨_, rfl, p, _, 0, _, rfl, rfl, SqT.of ga, rfl, v1, a, rfl, q1, o1, o2, sz, o4, ?_⟩
            refine ⟨rfl, _, rfl, ?_⟩
            rw [o5t]
            cases hx : isS "text" a with
            | false =>
              rw [hx] at k
              exact iT rfl (iT rfl (k H (Same.refl H)))
            | true =>
              rw [hx, Bool.true_and] at k
              refine iF rfl ?_
              refine ⟨_, rfl, p, _, 1, _, rfl, rfl, SqT.of ga, rfl, v2, .ty "str", .type (tyName b), .type "str", isStr b, rfl, .ty "str", q2.ty, kit_str b, _, rfl, ?_⟩
              cases hs : isStr b with
              | false =>
                have e : isTextD b = false := by cases b <;> first | rfl | cases hs
                rw [e] at k
                exact iT rfl (iT rfl (k H (Same.refl H)))
              | true =>
                obtain ⟨x, rfl⟩ : ∃ x, b = .str x := by
                  cases b with
                  | str x => exact ⟨x, rfl⟩
                  | _ => cases hs
                cases q2
                have lx := okV_str hbk
                have pc := okV_pc hbk
                refine iF rfl ?_
                refine ⟨_, rfl, p, _, 1, _, rfl, rfl, SqT.of ga, rfl, .str x, x.length, rfl, ⟨by rw [sizeLine_eq]; omega, rfl⟩, _, _, rfl, rfl, _, rfl, ?_⟩
                by_cases h2 : (200 : Int) < (x.length : Int)
                · have e : isTextD (.str x) = false := by
                    show (decide (x.length ≤ 200) && _) = false
                    rw [decide_eq_false (by omega)]
                    rfl
                  rw [e] at k
                  exact iT (decide_eq_true h2) (k H (Same.refl H))
                · refine iF (decide_eq_false h2) ?_
                  have e : isTextD (.str x) = x.cps.toList.all (fun c => decide (32 ≤ c) && decide (c ≤ 126)) := by
                    show (decide (x.length ≤ 200) && x.cps.all sgnT) = _
                    rw [decide_eq_true (by omega), ← Array.all_toList, Bool.true_and]
                    rw [List.all_eq_true] at pc
                    rw [Bool.eq_iff_iff, List.all_eq_true, List.all_eq_true]
                    unfold sgnT
                    constructor
                    · intro z c m
                      exact (Bool.and_eq_true _ _ ▸ z c m : _ ∧ _).1
                    · intro z c m
                      rw [z c m, pc c m]
                      rfl
                  rw [e] at k
                  refine ⟨_, rfl, p, _, 1, _, rfl, rfl, SqT.of ga, rfl, x, rfl, fun D hD => lc_it walk_str (fun i H' => Same H H' ∧ H' D = some (.lst ((badS (fun c => decide (32 ≤ c) && decide (c ≤ 126)) (x.cps.toList.take i)).map V.str))) ⟨same_new hD, upd_same⟩ (fun i H' _ _ => trivial) ?_ ?_⟩
                  · rintro i y H4 H5 hi ⟨s4, g4⟩ ⟨rfl, c, ec, rfl⟩
                    refine ⟨rfl, ?_⟩
                    have ec' : x.cps.toList[i]? = some c := by simpa using ec
                    have hi' : i < x.length := hi
                    have lb := badS_len (fun c => decide (32 ≤ c) && decide (c ≤ 126)) (x.cps.toList.take i)
                    rw [List.length_take] at lb
                    have tk : x.cps.toList.take (i + 1) = x.cps.toList.take i ++ [c] := by
                      rw [List.take_add_one, ec']
                      rfl
                    rw [tk, badS_add]
                    have put : (decide (32 ≤ c) && decide (c ≤ 126)) = false → ∃ acc, H5 D = some (.lst acc) ∧ acc.length < sizeLine ∧ Same H (upd H5 D (.lst (acc ++ [.str ⟨#[c]⟩]))) ∧ upd H5 D (.lst (acc ++ [.str ⟨#[c]⟩])) D = some (.lst (List.map V.str (if (decide (32 ≤ c) && decide (c ≤ 126)) = true then badS (fun c => decide (32 ≤ c) && decide (c ≤ 126)) (x.cps.toList.take i) else badS (fun c => decide (32 ≤ c) && decide (c ≤ 126)) (x.cps.toList.take i) ++ [⟨#[c]⟩]))) := fun z => by
                      refine ⟨_, g4, szl (by rw [List.length_map]; omega), fun b o e => ?_, ?_⟩
                      · rw [upd_ne (ne_of_none e hD)]
                        exact s4 _ _ e
                      · rw [upd_same, z]
                        simp
                    refine ⟨_, rfl, _, _, rfl, rfl, _, rfl, ?_⟩
                    show if (!decide ((#[c] : Array Nat).toList < (#[32] : Array Nat).toList)) = true then _ else _
                    rw [lt_one]
                    by_cases q1 : 32 ≤ c
                    · rw [decide_eq_false (by omega : ¬ c < 32)]
                      refine iT rfl ?_
                      refine ⟨_, _, rfl, rfl, _, rfl, ?_⟩
                      by_cases q2 : c ≤ 126
                      · refine iF ?_ ⟨s4, ?_⟩
                        · show (!(!decide ((#[126] : Array Nat).toList < (#[c] : Array Nat).toList))) = false
                          rw [lt_one, decide_eq_false (by omega : ¬ 126 < c)]
                          rfl
                        · rw [decide_eq_true q1, decide_eq_true q2]
                          exact g4
                      · refine iT ?_ ⟨_, rfl, put (by rw [decide_eq_false q2, Bool.and_false])⟩
                        show (!(!decide ((#[126] : Array Nat).toList < (#[c] : Array Nat).toList))) = true
                        rw [lt_one, decide_eq_true (by omega : 126 < c)]
                        rfl
                    · rw [decide_eq_true (by omega : c < 32)]
                      refine iF rfl ?_
                      exact ⟨_, rfl, iT rfl ⟨_, rfl, put (by rw [decide_eq_false q1, Bool.false_and])⟩⟩
                  · rintro H4 ⟨s4, g4⟩
                    rw [show x.cps.toList.take x.cps.size = x.cps.toList from by rw [List.take_of_length_le (by simp)]] at g4
                    refine ⟨slz rfl, fun z hz => ?_⟩
                    have s5 := same_new (o := .lst []) hz
                    have g5 : (upd H4 z (.lst [])) z = some (.lst []) := upd_same
                    generalize upd H4 z (.lst []) = H5 at s5 g5 ⊢
                    refine ⟨_, z, _, rfl, rfl, SqL.of (s5 _ _ g4), SqL.of g5, ?_⟩
                    rw [badS_empty]
                    exact k H5 (s4.trans s5)
end
end L3

namespace L3
open PySem L2
/-- what the law found of some values -/
abbrev Ms := List (Option (Nat × Nat))
inductive Res (H : Hp) : List V → Ms → Prop
  | nil : Res H [] []
  | no {vs : List V} {rs : Ms} : Res H vs rs → Res H (.non :: vs) (none :: rs)
  | yes {a : Addr} {p : Nat × Nat} {vs : List V} {rs : Ms} : H a = some (.tup [.int (p.1 : Int), .int (p.2 : Int)]) → Res H vs rs → Res H (.ref a :: vs) (some p :: rs)
theorem Res.kp {H H' : Hp} (s : ∀ a xs, H a = some (.tup xs) → H' a = some (.tup xs)) : ∀ {rs : Ms} {vs : List V}, Res H vs rs → Res H' vs rs
  | [], _, h => by cases h; exact .nil
  | none :: rs, _, h => by
    cases h with
    | no h => exact .no (h.kp s)
  | some p :: rs, _, h => by
    cases h with
    | yes h1 h => exact .yes (s _ _ h1) (h.kp s)
theorem Res.app {H : Hp} : ∀ {rs qs : Ms} {vs ws : List V}, Res H vs rs → Res H ws qs → Res H (vs ++ ws) (rs ++ qs)
  | [], _, _, _, h, g => by cases h; exact g
  | none :: rs, _, _, _, h, g => by
    cases h with
    | no h => exact .no (h.app g)
  | some p :: rs, _, _, _, h, g => by
    cases h with
    | yes h1 h => exact .yes h1 (h.app g)
theorem Res.len {H : Hp} : ∀ {rs : Ms} {vs : List V}, Res H vs rs → vs.length = rs.length
  | [], _, h => by cases h; rfl
  | none :: rs, _, h => by
    cases h with
    | no h => rw [List.length_cons, List.length_cons, h.len]
  | some p :: rs, _, h => by
    cases h with
    | yes h1 h => rw [List.length_cons, List.length_cons, h.len]
def rDat : Option (Nat × Nat) → PyData
  | none => .none
  | some p => .tuple [.int (p.1 : Int), .int (p.2 : Int)]
theorem Res.dp {K : PySem.W.Frag} {H : Hp} : ∀ {rs : Ms} {vs : List V}, Res H vs rs → DpAll K H vs (rs.map rDat)
  | [], _, h => by cases h; exact .nil
  | none :: rs, _, h => by
    cases h with
    | no h => exact .cons .non h.dp
  | some p :: rs, _, h => by
    cases h with
    | yes h1 h => exact .cons (.tup (SqT.of h1) (.cons (.int _) (.cons (.int _) .nil))) h.dp
theorem rDat_lay : ∀ (rs : Ms), PyData.canLayAll0 (rs.map rDat) = true ∧ PyData.depthAll (rs.map rDat) ≤ 1
  | [] => by simp [PyData.canLayAll0, PyData.depthAll]
  | none :: rs => by
    obtain ⟨h1, h2⟩ := rDat_lay rs
    simp only [List.map_cons, rDat, PyData.canLayAll0, PyData.depthAll, PyData.canLay0, PyData.depth, h1]
    exact ⟨rfl, by omega⟩
  | some p :: rs => by
    obtain ⟨h1, h2⟩ := rDat_lay rs
    simp only [List.map_cons, rDat, PyData.canLayAll0, PyData.depthAll, PyData.canLay0, PyData.depth, h1]
    exact ⟨rfl, by omega⟩
theorem rDat_shaped (rs : Ms) : SeqAt.shaped (.list (rs.map rDat)) = true := by
  obtain ⟨h1, h2⟩ := rDat_lay rs
  unfold SeqAt.shaped
  rw [Bool.and_eq_true]
  refine ⟨by simp only [PyData.canLay0, h1], decide_eq_true ?_⟩
  simp only [PyData.depth]
  omega
theorem rDat_none : ∀ (rs : Ms), (rs.map rDat).any (fun z => PyData.eqv z .none) = rs.any (fun r => r.isNone)
  | [] => rfl
  | none :: rs => by simp [rDat, PyData.eqv]
  | some p :: rs => by
    simp only [List.map_cons, List.any_cons, rDat_none rs, rDat, PyData.eqv, Option.isNone_some]
theorem measL_not : ∀ {ds : List PyData}, (ds.map meas).any (fun r => r.isNone) = true → measL ds = none
  | [], h => by cases h
  | d :: ds, h => by
    simp only [List.map_cons, List.any_cons, Bool.or_eq_true] at h
    simp only [measL]
    rcases h with h | h
    · rw [Option.isNone_iff_eq_none.mp h]
    · rw [measL_not h]
      cases meas d <;> rfl
theorem measL_all : ∀ {ds : List PyData}, (ds.map meas).any (fun r => r.isNone) = false → ∃ ps : List (Nat × Nat), ds.map meas = ps.map some ∧ measL ds = some ((ps.map (·.1)).sum, (ps.map (·.2)).foldr max 0)
  | [], _ => ⟨[], rfl, by simp [measL]⟩
  | d :: ds, h => by
    simp only [List.map_cons, List.any_cons, Bool.or_eq_false_iff] at h
    obtain ⟨ps, e1, e2⟩ := measL_all h.2
    cases hm : meas d with
    | none =>
      rw [hm] at h
      cases h.1
    | some p =>
      refine ⟨p :: ps, by rw [List.map_cons, List.map_cons, e1, hm], ?_⟩
      simp only [measL, hm, e2, List.map_cons, List.sum_cons, List.foldr_cons]
theorem Res.get {H : Hp} : ∀ {i : Nat} {ps : List (Nat × Nat)} {vs : List V} {v : V}, Res H vs (ps.map some) → vs[i]? = some v → ∃ (a : Addr) (p : Nat × Nat), v = .ref a ∧ ps[i]? = some p ∧ H a = some (.tup [.int (p.1 : Int), .int (p.2 : Int)])
  | _, [], _, _, h, e => by cases h; cases e
  | 0, p :: ps, _, _, h, e => by
    cases h with
    | yes h1 h =>
      cases e
      exact ⟨_, p, rfl, rfl, h1⟩
  | i + 1, p :: ps, _, _, h, e => by
    cases h with
    | yes h1 h => exact Res.get (i := i) h e
theorem sum_cast : ∀ (ns : List Nat), (ns.map fun (n : Nat) => (n : Int)).sum = ((ns.sum : Nat) : Int)
  | [] => rfl
  | n :: ns => by
    rw [List.map_cons, List.sum_cons, List.sum_cons, sum_cast ns]
    omega
theorem foldr_max : ∀ (ns : List Nat), (∀ n ∈ ns, n ≤ ns.foldr max 0) ∧ (ns.foldr max 0 = 0 ∨ ns.foldr max 0 ∈ ns)
  | [] => ⟨fun _ h => (by cases h), .inl rfl⟩
  | n :: ns => by
    obtain ⟨h1, h2⟩ := foldr_max ns
    rw [List.foldr_cons]
    refine ⟨fun m hm => ?_, ?_⟩
    · rcases List.mem_cons.mp hm with rfl | hm
      · omega
      · have := h1 m hm
        omega
    · by_cases c : n ≤ ns.foldr max 0
      · rw [Nat.max_eq_right c]
        rcases h2 with h2 | h2
        · exact .inl h2
        · exact .inr (List.mem_cons_of_mem _ h2)
      · rw [Nat.max_eq_left (by omega)]
        exact .inr List.mem_cons_self
theorem max_cast {ns : List Nat} {m : Int} (h1 : m ∈ (0 : Int) :: ns.map fun (n : Nat) => (n : Int)) (h2 : ∀ y ∈ (0 : Int) :: ns.map (fun (n : Nat) => (n : Int)), y ≤ m) : m = ((ns.foldr max 0 : Nat) : Int) := by
  obtain ⟨g1, g2⟩ := foldr_max ns
  have le : m ≤ ((ns.foldr max 0 : Nat) : Int) := by
    rcases List.mem_cons.mp h1 with rfl | h1
    · omega
    · obtain ⟨n, hn, rfl⟩ := List.mem_map.mp h1
      have := g1 n hn
      omega
  have ge : ((ns.foldr max 0 : Nat) : Int) ≤ m := by
    rcases g2 with g2 | g2
    · rw [g2]
      exact h2 0 List.mem_cons_self
    · exact h2 _ (List.mem_cons_of_mem _ (List.mem_map.mpr ⟨_, g2, rfl⟩))
  omega
theorem depth_mem : ∀ {ds : List PyData} {d : PyData}, d ∈ ds → d.depth ≤ PyData.depthAll ds
  | e :: ds, d, h => by
    simp only [PyData.depthAll]
    rcases List.mem_cons.mp h with rfl | h
    · omega
    · have := depth_mem h
      omega
theorem psz_mem : ∀ {ds : List PyData} {d : PyData}, d ∈ ds → psz d ≤ pszL ds
  | e :: ds, d, h => by
    simp only [pszL]
    rcases List.mem_cons.mp h with rfl | h
    · omega
    · have := psz_mem h
      omega
section
variable {P : Program} {w : World} {K : PySem.W.Frag} {mg : Str → Option Value} {base : Heap}
abbrev s__law_measured : Stmt := topS 23
abbrev N__law_measured : List Str := ["_law_thing", "_law_inner", "_law_part", "_law_row"]
theorem sc__law_measured : FnScope N__law_measured ["_law_thing"] (defScope s__law_measured) := ⟨rfl, rfl, rfl, by decide +kernel, rfl, by decide +kernel, by decide +kernel⟩
def spMeas : Nat → Sp
  | 0 => fun _ _ _ _ => False
  | n + 1 => fun vs H Q _ => ∃ (t : Addr) (v : V) (d : PyData), vs = [v] ∧ Da t H v d ∧ okV d = true ∧ d.depth ≤ 2 * n ∧ psz d ≤ 900000 ∧ (∀ H', Same H H' → meas d = none → Q .non H') ∧
    (∀ H' a p, Same H H' → meas d = some p → H' a = some (.tup [.int (p.1 : Int), .int (p.2 : Int)]) → Q (.ref a) H')
theorem gok_meas {f : Addr} {fd : FuncData} (n : Nat) (F : Fun K "_law_measured" "_law_measured" s__law_measured f fd) (hb : Binds K fd ["_law_thing"] []) (B : Bl mg) (B9 : Bl9 mg) (B5 : Bl5 mg) (D__law_is_name : Kn P w K mg base 1 "_law_is_name" ["_law_thing"] spLN)
    (D__law_is_plain : KnG P w K mg base 1 "_law_is_plain" spPlain) (D__law_measured : KnG P w K mg base (n + 1) "_law_measured" (spMeas n)) : FnG P w K mg base (n + 2) f (spMeas (n + 1)) := by
  refine fnG_of F sc__law_measured (fun vs H Q E h => ?_) hb (fun cdv A outer s H vs Q hr hg h => ?_)
  · obtain ⟨t, v, d, rfl, _⟩ := h
    rfl
  · obtain ⟨t, v, d, rfl, hd, hok, hdep, hsz, kN, kS⟩ := h
    have hr__law_is_name : Room 1 _ := hr.mono (by omega)
    have hr__law_is_plain : Room 1 _ := hr.mono (by omega)
    have hr__law_measured : Room (n + 1) _ := hr
    have hu64 := hr.units
    have hu65 : (A.deeper (PyProof.Rows.envOfC "_law_measured" (defScope s__law_measured) s.heap.objs.size f cdv)).units + 65 < cLine := by
      have := hr.un
      omega
    have hgd := grd_deep (env := PyProof.Rows.envOfC "_law_measured" (defScope s__law_measured) s.heap.objs.size f cdv) hg
    refine ⟨_, (pss_cons (ps_if (PW.pt (pw_or (pt_not (pt_val (pe_callB call_isi (by rfl) B9.isinstance PyProof.Rows.boot_isinstance (pa_cons (pv 0) (pa_cons (pe_bltn (v := .ty "tuple") (by rfl) B9.tuple (by decide +kernel) rfl) pa_nil))))) (pw_or1 (pt_not (pt_chain op_le op_le pe_int (pe_callB call_len (by rfl) B.len PySem.boot_len (pa_cons (pv 0) pa_nil)) pe_int)))))
  (pss_one (ps_ret pe_non))
  pss_nil)
  (pss_cons (ps_if (pt_cmpR op_eq (pe_callB call_len (by rfl) B.len PySem.boot_len (pa_cons (pv 0) pa_nil)) pe_int (nomark _))
  (pss_one (ps_ret (pe_ifExp (pt_cmpR op_eq (pe_callB (call_reprV t hgd hu64) (by rfl) B.repr (by decide +kernel) (pa_cons (pe_ix ix_tup (pv 0) pe_int (fun _ _ => rfl)) pa_nil)) pe_str (nomark _)) (pe_tup (pa_cons pe_int (pa_cons pe_int pa_nil))) pe_non)))
  pss_nil)
  (pss_cons (ps_if (pt_cmpR op_eq (pe_callB call_len (by rfl) B.len PySem.boot_len (pa_cons (pv 0) pa_nil)) pe_int (nomark _))
  (pss_one (ps_ret (pe_ifExp (pt_val (pe_kg D__law_is_plain hr__law_is_plain hgd (pa_cons (pv 0) pa_nil))) (pe_tup (pa_cons pe_int (pa_cons pe_int pa_nil))) pe_non)))
  pss_nil)
  (pss_cons (ps_if (PW.pt (pw_or (pt_cmpR op_ne (pe_callB (call_reprV t hgd hu64) (by rfl) B.repr (by decide +kernel) (pa_cons (pe_ix ix_tup (pv 0) pe_int (fun _ _ => rfl)) pa_nil)) pe_str (nomark _)) (pw_or (pt_not (pt_val (pe_kn D__law_is_name hr__law_is_name (pa_cons (pe_ix ix_tup (pv 0) pe_int (fun _ _ => rfl)) pa_nil)))) (pw_or1 (pt_not (pt_val (pe_callB call_isi (by rfl) B9.isinstance PyProof.Rows.boot_isinstance (pa_cons (pe_ix ix_tup (pv 0) pe_int (fun _ _ => rfl)) (pa_cons (pe_bltn (v := .ty "tuple") (by rfl) B9.tuple (by decide +kernel) rfl) pa_nil)))))))))
  (pss_one (ps_ret pe_non))
  pss_nil)
  (pss_cons (ps_setLc (i := 1) (own := [("_law_part", 2)]) rfl sc__law_measured.nd rfl rfl (sw_true rfl rfl rfl (by decide +kernel)) (pi_tup (pe_ix ix_tup (pv 0) pe_int (fun _ _ => rfl))) (blkOk_by (N := N__law_measured) (sc := (defScope s__law_measured)) (own := [("_law_part", 2)]) (by decide +kernel)) (fun _ _ _ _ _ => (pg_name (i := 2) sc__law_measured.nd rfl (Or.inl rfl))) (fun _ _ _ _ _ => pts_nil) (fun _ _ _ _ _ => (pe_kg D__law_measured hr__law_measured hgd (pa_cons (pv 2) pa_nil))))
  (pss_cons (ps_if (pt_cmpR (op_inD hu65) pe_non (pv 1) (by rfl))
  (pss_one (ps_ret pe_non))
  pss_nil)
  (pss_one (ps_ret (pe_tup (pa_cons (pe_op op_add pe_int (pe_callB (cr_sum rfl) (by rfl) B5.sum (by decide +kernel) (pa_cons (pe_lc (own := [("_law_row", 3)]) rfl sc__law_measured.nd (pi_list (pv 1)) (blkOk_by (N := N__law_measured) (sc := (defScope s__law_measured)) (own := [("_law_row", 3)]) (by decide +kernel)) (fun _ _ _ _ _ => (pg_name (i := 3) sc__law_measured.nd rfl (Or.inl rfl))) (fun _ _ _ _ _ => pts_nil) (fun _ _ _ _ _ => (pe_ix (show IxR _ (rIxT K) from ix_tup) (pv 3) pe_int (fun _ _ => rfl)))) pa_nil))) (pa_cons (pe_op op_add pe_int (pe_callB (cr_max rfl) (by rfl) B9.max PyProof.Rows.boot_max (pa_cons (pe_op op_cat (pe_lst (pa_cons pe_int pa_nil)) (pe_lc (own := [("_law_row", 3)]) rfl sc__law_measured.nd (pi_list (pv 1)) (blkOk_by (N := N__law_measured) (sc := (defScope s__law_measured)) (own := [("_law_row", 3)]) (by decide +kernel)) (fun _ _ _ _ _ => (pg_name (i := 3) sc__law_measured.nd rfl (Or.inl rfl))) (fun _ _ _ _ _ => pts_nil) (fun _ _ _ _ _ => (pe_ix (show IxR _ (rIxT K) from ix_tup) (pv 3) pe_int (fun _ _ => rfl))))) pa_nil))) pa_nil))))))))))), ?_⟩
    refine ⟨_, rfl, v, .ty "tuple", .type (tyName d), .type "tuple", isTup d, rfl, .ty "tuple", hd.ty, kit_tup d, _, rfl, ?_⟩
    cases ht : isTup d with
    | false =>
      have e : meas d = none := by
        cases d with
        | tuple _ => cases ht
        | _ => simp only [meas]
      exact iT rfl (iT rfl (kN H (Same.refl H) e))
    | true =>
      obtain ⟨es, rfl⟩ : ∃ es, d = .tuple es := by
        cases d with
        | tuple es => exact ⟨es, rfl⟩
        | _ => cases ht
      cases id hd with
      | @tup a xs _ ga da =>
        have le := da.len
        refine iF rfl ?_
        refine ⟨_, rfl, .ref a, xs.length, rfl, .inr ⟨xs, SqT.of ga, rfl⟩, _, _, rfl, rfl, _, rfl, ?_⟩
        match es, hd, hok, hdep, hsz, kN, kS, da, le with
        | [], hd, hok, hdep, hsz, kN, kS, da, le =>
          cases da
          exact iF rfl ⟨_, rfl, iT rfl (kN H (Same.refl H) (by simp only [meas, measT]))⟩
        | [d1], hd, hok, hdep, hsz, kN, kS, da, le =>
          cases da with
          | @cons v1 _ _ _ q1 t1 =>
            cases t1
            refine iT rfl ?_
            refine ⟨_, _, rfl, rfl, _, rfl, ?_⟩
            refine iF rfl ?_
            refine ⟨_, rfl, .ref a, _, rfl, .inr ⟨_, SqT.of ga, rfl⟩, ?_⟩
            refine ⟨rfl, _, rfl, ?_⟩
            refine iT rfl ?_
            obtain ⟨o1, o2, o3, o4, o5⟩ := head_ok (okV_one hok)
            have o5f : decide (V.str d1.shown = V.str "'function'") = isS "function" d1 := by
              have := o5 "function" (by decide)
              rw [qw.2.2.1] at this
              exact this
            refine ⟨_, rfl, a, _, 0, _, rfl, rfl, SqT.of ga, rfl, v1, d1, rfl, q1, o1, o2, Nat.le_of_lt (szl (by omega)), o4, ?_⟩
            refine ⟨rfl, _, rfl, ?_⟩
            cases hw : isS "function" d1 with
            | true => exact iT (o5f.trans hw) ⟨slz rfl, fun p hp => kS _ p (1, 1) (same_new hp) (by simp only [meas, measT, hw]; rfl) upd_same⟩
            | false => exact iF (o5f.trans hw) (kN H (Same.refl H) (by simp only [meas, measT, hw]; rfl))
        | [d1, d2], hd, hok, hdep, hsz, kN, kS, da, le =>
          obtain ⟨hh, hb2⟩ := okV_two hok
          cases da with
          | @cons v1 _ _ _ q1 t1 =>
            cases t1 with
            | @cons v2 _ _ _ q2 t2 =>
              cases t2
              refine iT rfl ?_
              refine ⟨_, _, rfl, rfl, _, rfl, ?_⟩
              refine iF rfl ?_
              refine ⟨_, rfl, .ref a, _, rfl, .inr ⟨_, SqT.of ga, rfl⟩, ?_⟩
              refine ⟨rfl, _, rfl, ?_⟩
              refine iF rfl ?_
              refine ⟨_, rfl, .ref a, _, rfl, .inr ⟨_, SqT.of ga, rfl⟩, ?_⟩
              refine ⟨rfl, _, rfl, ?_⟩
              refine iT rfl ?_
              refine ⟨_, rfl, t, _, d1, d2, rfl, hd, hh, hb2, fun H1 s1 => ⟨_, rfl, ?_⟩⟩
              cases hw : ((isS "whole" d1 && isWholeD d2) || (isS "text" d1 && isTextD d2)) with
              | true => exact iT rfl ⟨slz rfl, fun p hp => kS _ p (1, 1) (s1.trans (same_new hp)) (by simp only [meas, measT, hw]; rfl) upd_same⟩
              | false => exact iF rfl (kN H1 s1 (by simp only [meas, measT, hw]; rfl))
        | [d1, d2, d3], hd, hok, hdep, hsz, kN, kS, da, le =>
          obtain ⟨hh, hb2, hb3⟩ := okV_three hok
          cases da with
          | @cons v1 _ _ _ q1 t1 =>
            cases t1 with
            | @cons v2 _ _ _ q2 t2 =>
              cases t2 with
              | @cons v3 _ _ _ q3 t3 =>
                cases t3
                refine iT rfl ?_
                refine ⟨_, _, rfl, rfl, _, rfl, ?_⟩
                refine iF rfl ?_
                refine ⟨_, rfl, .ref a, _, rfl, .inr ⟨_, SqT.of ga, rfl⟩, ?_⟩
                refine ⟨rfl, _, rfl, ?_⟩
                refine iF rfl ?_
                refine ⟨_, rfl, .ref a, _, rfl, .inr ⟨_, SqT.of ga, rfl⟩, ?_⟩
                refine ⟨rfl, _, rfl, ?_⟩
                refine iF rfl ?_
                obtain ⟨o1, o2, o3, o4, o5⟩ := head_ok hh
                have o5m : decide (V.str d1.shown = V.str "'made'") = isS "made" d1 := by
                  have := o5 "made" (by decide)
                  rw [qw.2.2.2] at this
                  exact this
                refine ⟨_, rfl, a, _, 0, _, rfl, rfl, SqT.of ga, rfl, v1, d1, rfl, q1, o1, o2, Nat.le_of_lt (szl (by omega)), o4, ?_⟩
                refine ⟨rfl, _, rfl, ?_⟩
                rw [o5m]
                cases hw : isS "made" d1 with
                | false => exact iT rfl (iT rfl (kN H (Same.refl H) (by simp only [meas, measT, hw]; rfl)))
                | true =>
                  refine iF rfl ?_
                  refine ⟨_, rfl, a, _, 1, _, rfl, rfl, SqT.of ga, rfl, t, v2, d2, rfl, q2, hb2, fun H1 s1 => ⟨_, rfl, ?_⟩⟩
                  cases hn : isNameD d2 with
                  | false => exact iT rfl (iT rfl (kN H1 s1 (by simp only [meas, measT, hn, Bool.and_false]; rfl)))
                  | true =>
                    refine iF rfl ?_
                    refine ⟨_, rfl, a, _, 2, _, rfl, rfl, SqT.of (s1 _ _ ga), rfl, v3, .ty "tuple", .type (tyName d3), .type "tuple", isTup d3, rfl, .ty "tuple", (q3.kp (kp_same s1)).ty, kit_tup d3, _, rfl, ?_⟩
                    cases h3 : isTup d3 with
                    | false =>
                      have e : meas (.tuple [d1, d2, d3]) = none := by
                        simp only [meas, measT, hw, hn]
                        cases d3 with
                        | tuple _ => cases h3
                        | _ => simp only [measE]; rfl
                      exact iT rfl (kN H1 s1 e)
                    | true =>
                      obtain ⟨fs, rfl⟩ : ∃ fs, d3 = .tuple fs := by
                        cases d3 with
                        | tuple fs => exact ⟨fs, rfl⟩
                        | _ => cases h3
                      have em : meas (.tuple [d1, d2, .tuple fs]) = (measL fs).map fun p => (1 + p.1, 1 + p.2) := by
                        simp only [meas, measT, measE, hw, hn]
                        rfl
                      rw [em] at kN kS
                      cases q3 with
                      | @tup a3 ys _ g3 da3 =>
                        refine iF rfl ?_
                        have dfs : PyData.depthAll fs + 2 ≤ 2 * n := by
                          have z := hdep
                          simp only [PyData.depth, PyData.depthAll] at z
                          omega
                        have zfs : pszL fs ≤ 900000 := by
                          have z := hsz
                          simp only [psz, pszL] at z
                          omega
                        have ofs : okVL fs = true := by simpa only [okVE] using hb3
                        obtain ⟨m, rfl⟩ : ∃ m, n = m + 1 := ⟨n - 1, by omega⟩
                        have l3 := da3.len
                        have p3 := pszL_len fs
                        refine ⟨_, rfl, a, _, 2, _, rfl, rfl, SqT.of (s1 _ _ ga), rfl, a3, rfl, ⟨_, SqT.of (s1 _ _ g3)⟩, fun D hD => ?_⟩
                        refine lc_tup (K := K) (a := a3) (xs := ys) (fun i H' => Same H1 H' ∧ ∃ acc, H' D = some (.lst acc) ∧ Res H' acc ((fs.take i).map meas)) ⟨same_new hD, [], upd_same, .nil⟩ (fun i H' _ ⟨s2, _⟩ => SqT.of (s2 _ _ (s1 _ _ g3))) (fun i x H' hx ⟨s2, acc, g2, r2⟩ => ⟨rfl, ?_⟩) (fun H2 ⟨s2, acc, g2, r2⟩ => ?_)
                        · obtain ⟨di, edi, ddi⟩ := da3.get hx
                          have mi : di ∈ fs := List.mem_of_getElem? edi
                          have hi : i < ys.length := (List.getElem?_eq_some_iff.mp hx).1
                          have tk : (fs.take (i + 1)).map meas = (fs.take i).map meas ++ [meas di] := by
                            rw [List.take_add_one, edi, List.map_append]
                            rfl
                          have dd := depth_mem mi
                          have dz := psz_mem mi
                          have la : acc.length < sizeLine := by
                            rw [r2.len]
                            exact szl (by rw [List.length_map, List.length_take]; omega)
                          have S2 := s1.trans s2
                          refine ⟨_, rfl, t, x, di, rfl, ddi.kp (kp_same S2), okVL_mem ofs mi, by omega, by omega, fun H3 s3 e => ⟨acc, s3 _ _ g2, la, ?_, acc ++ [.non], upd_same, ?_⟩, fun H3 b p s3 e g3' => ⟨acc, s3 _ _ g2, la, ?_, acc ++ [.ref b], upd_same, ?_⟩⟩
                          · intro b o z
                            rw [upd_ne (ne_of_none z hD)]
                            exact s3 _ _ (s2 _ _ z)
                          · rw [tk, e]
                            have ku : ∀ a' zs, H' a' = some (.tup zs) → (upd H3 D (.lst (acc ++ [.non]))) a' = some (.tup zs) := fun a' zs z => by
                              rw [upd_ne (fun y => by rw [y, g2] at z; cases z)]
                              exact s3 _ _ z
                            exact (r2.kp ku).app (.no .nil)
                          · intro b o z
                            rw [upd_ne (ne_of_none z hD)]
                            exact s3 _ _ (s2 _ _ z)
                          · rw [tk, e]
                            have ku : ∀ a' zs, H3 a' = some (.tup zs) → (upd H3 D (.lst (acc ++ [.ref b]))) a' = some (.tup zs) := fun a' zs z => by
                              rw [upd_ne (fun y => by rw [y, s3 _ _ g2] at z; cases z)]
                              exact z
                            exact ((r2.kp fun a' zs z => s3 _ _ z).kp ku).app (.yes (ku _ _ g3') .nil)
                        · rw [l3, List.take_length] at r2
                          have S2 := s1.trans s2
                          refine ⟨_, rfl, .none, _, .non, .lst (SqL.of g2) r2.dp, rfl, rDat_shaped _, _, rfl, ?_⟩
                          rw [rDat_none]
                          cases hany : (fs.map meas).any (fun r => r.isNone) with
                          | true => exact iT rfl (kN H2 S2 (by rw [measL_not hany]; rfl))
                          | false =>
                            refine iF rfl ?_
                            obtain ⟨ps, e1, e2⟩ := measL_all hany
                            rw [e2] at kS
                            rw [e1] at r2
                            have lp : acc.length = ps.length := by rw [r2.len, List.length_map]
                            have lp2 : ps.length = fs.length := by
                              have := congrArg List.length e1
                              rw [List.length_map, List.length_map] at this
                              exact this.symm
                            refine ⟨_, rfl, D, rfl, ⟨_, SqL.of g2⟩, fun D1 hD1 => ?_⟩
                            refine lc_list (K := K) (a := D) (xs := acc) (fun i H' => Same H2 H' ∧ H' D1 = some (.lst ((((ps.take i).map (·.1)).map fun (n : Nat) => (n : Int)).map V.int))) ⟨same_new hD1, upd_same⟩ (fun i H' _ ⟨s3, _⟩ => SqL.of (s3 _ _ g2)) (fun i x H' hx ⟨s3, g3'⟩ => ⟨rfl, ?_⟩) (fun H3 ⟨s3, g3'⟩ => ?_)
                            · obtain ⟨b, p, rfl, ep, gb⟩ := r2.get hx
                              have hi : i < acc.length := (List.getElem?_eq_some_iff.mp hx).1
                              refine ⟨_, rfl, b, _, 0, _, rfl, rfl, SqT.of (s3 _ _ gb), rfl, _, g3', szl (by simp; omega), fun c o z => ?_, ?_⟩
                              · rw [upd_ne (ne_of_none z hD1)]
                                exact s3 _ _ z
                              · rw [upd_same, List.take_add_one, ep]
                                simp
                            · rw [lp, List.take_length] at g3'
                              refine ⟨D1, _, rfl, SqL.of g3', _, _, rfl, rfl, ?_⟩
                              rw [sum_cast]
                              have g2' := s3 _ _ g2
                              refine ⟨slz rfl, fun z1 hz1 => ?_⟩
                              have s4 := same_new (o := .lst [V.int 0]) hz1
                              have g4 : (upd H3 z1 (.lst [V.int 0])) z1 = some (.lst [V.int 0]) := upd_same
                              change tLc _ _ _ _ _ _ (upd H3 z1 (.lst [V.int 0])) _
                              generalize upd H3 z1 (.lst [V.int 0]) = H4 at s4 g4 ⊢
                              have g2'' := s4 _ _ g2'
                              refine ⟨_, rfl, D, rfl, ⟨_, SqL.of g2''⟩, fun D2 hD2 => ?_⟩
                              refine lc_list (K := K) (a := D) (xs := acc) (fun i H' => Same H4 H' ∧ H' D2 = some (.lst ((((ps.take i).map (·.2)).map fun (n : Nat) => (n : Int)).map V.int))) ⟨same_new hD2, upd_same⟩ (fun i H' _ ⟨s5, _⟩ => SqL.of (s5 _ _ g2'')) (fun i x H' hx ⟨s5, g5⟩ => ⟨rfl, ?_⟩) (fun H5 ⟨s5, g5⟩ => ?_)
                              · obtain ⟨b, p, rfl, ep, gb⟩ := r2.get hx
                                have hi : i < acc.length := (List.getElem?_eq_some_iff.mp hx).1
                                refine ⟨_, rfl, b, _, 1, _, rfl, rfl, SqT.of (s5 _ _ (s4 _ _ (s3 _ _ gb))), rfl, _, g5, szl (by simp; omega), fun c o z => ?_, ?_⟩
                                · rw [upd_ne (ne_of_none z hD2)]
                                  exact s5 _ _ z
                                · rw [upd_same, List.take_add_one, ep]
                                  simp
                              · rw [lp, List.take_length] at g5
                                refine ⟨z1, D2, _, _, rfl, rfl, s5 _ _ g4, g5, Nat.le_of_lt (szl (by simp; omega)), fun z2 hz2 => ?_⟩
                                refine ⟨z2, (0 : Int) :: (ps.map (·.2)).map (fun (n : Nat) => (n : Int)), rfl, SqL.of upd_same, by simp, fun m hm hmax => ?_⟩
                                rw [max_cast hm hmax]
                                refine ⟨_, _, rfl, rfl, slz rfl, fun q hq => ?_⟩
                                refine kS _ q _ (S2.trans (s3.trans (s4.trans (s5.trans ((same_new hz2).trans (same_new hq)))))) rfl ?_
                                rw [upd_same]
                                rfl
        | _ :: _ :: _ :: _ :: _, hd, hok, hdep, hsz, kN, kS, da, le =>
          have l4 : 4 ≤ xs.length := by rw [le]; simp only [List.length_cons]; omega
          refine iT (decide_eq_true (by omega)) ?_
          refine ⟨_, _, rfl, rfl, _, rfl, ?_⟩
          refine iT (by rw [decide_eq_false (by omega)]; rfl) ?_
          exact kN H (Same.refl H) (by simp only [meas, measT])
end
end L3

namespace L3
open PySem L2
theorem kp_ext {K : PySem.W.Frag} {t c : Addr} {b : Nat} {H H' : Hp} (e : Ext t H H') (T : Tape K H t c b) : Kp t H H' := by
  obtain ⟨_, _, _, h, _⟩ := T
  exact ⟨fun a xs g => e a _ (fun z => by rw [z, h] at g; cases g) g, fun a xs g => e a _ (fun z => by rw [z, h] at g; cases g) g, fun a kvs n g => e a _ n g⟩
def oddA : List PyData := [.none, .bool true, .int 0, .str "", .str "whole", .tuple [], .list [], .dict [], .tuple [.str "whole"], .tuple [.str "function", .int 1], .tuple [.str "function", .tuple []], .list [.str "function"], .tuple [.none]]
def oddB : List PyData := [.tuple [.str "whole", .int (((10 ^ 30) + 1))], .tuple [.str "whole", .int ((-((10 ^ 30)) - 1))], .tuple [.str "whole", .bool false], .tuple [.str "whole", .str "1"], .tuple [.str "text", .str (repS "y" 201)]]
def oddC : List PyData := [.tuple [.str "text", .int 1], .tuple [.str "text", .str "a\nb"], .tuple [.str "text", .tuple [.str "a"]], .tuple [.str "made", .str "no"], .tuple [.str "made", .str "no", .list []], .tuple [.str "made", .str "in", .tuple []]]
def oddD : List PyData := [.tuple [.str "made", .str "End", .tuple []], .tuple [.str "made", .str "", .tuple []], .tuple [.str "made", .str "abcdefghi", .tuple []], .tuple [.str "made", .str "end", .tuple []], .tuple [.str "made", .none, .tuple []]]
def oddE : List PyData := [.tuple [.str "made", .str "no", .tuple [], .tuple []], .tuple [.str "made", .str "no", .tuple [.str "whole", .int 1]], .tuple [.str "made", .str "a b", .tuple []], .list [.str "made", .str "no", .tuple []], .tuple [.int 1, .int 2]]
def oddF : List PyData := [.tuple [.str "make", .str "no", .tuple []], .tuple [.tuple [.str "whole", .int 1]], .tuple [.str "made", .str "no", .tuple [.tuple []]], .tuple [.str "whole", .int 1, .int 1], .tuple [.str "text", .none]]
def odds : List PyData := oddA ++ oddB ++ oddC ++ oddD ++ oddE ++ oddF
/-- sizes of what is drawn -/
def Bd (n : Nat) (d : PyData) : Prop := okV d = true ∧ psz d ≤ 100 * 4 ^ n ∧ d.depth ≤ 2 * n + 8
theorem odds_okV : okVL odds = true := by
  simp only [odds, oddA, oddB, oddC, oddD, oddE, oddF, List.cons_append, List.nil_append, okVL, okV, okVT, okVE, okS, hdOk, isHead]
  decide +kernel
theorem odds_bd : ∀ d ∈ odds, okV d = true ∧ psz d ≤ 100 ∧ d.depth ≤ 8 := by
  have h : (odds.all fun d => decide (psz d ≤ 100) && decide (d.depth ≤ 8)) = true := by decide +kernel
  intro d hd
  have := List.all_eq_true.mp h d hd
  simp only [Bool.and_eq_true, decide_eq_true_eq] at this
  exact ⟨okVL_mem odds_okV hd, this.1, this.2⟩
section
variable {P : Program} {w : World} {K : PySem.W.Frag} {mg : Str → Option Value} {base : Heap}
abbrev s__law_odd_value : Stmt := topS 25
abbrev N__law_odd_value : List Str := ["_law_tape", "_law_some"]
theorem sc__law_odd_value : FnScope N__law_odd_value ["_law_tape"] (defScope s__law_odd_value) := ⟨rfl, rfl, rfl, by decide +kernel, rfl, by decide +kernel, by decide +kernel⟩
def spOdd (K : PySem.W.Frag) : Sp := fun vs H Q _ => ∃ (t c : Addr) (b : Nat), vs = [.ref t] ∧ Tape K H t c (b + 1) ∧ ∀ (H' : Hp) (v : V) (d : PyData), Ext t H H' → Tape K H' t c b → Da t H' v d → d ∈ odds → Q v H'
theorem ok_odd {f : Addr} {fd : FuncData} (F : Fun K "_law_odd_value" "_law_odd_value" s__law_odd_value f fd) (D__law_pick : Kn P w K mg base 2 "_law_pick" ["_law_tape", "_law_items"] (spPick K)) : FnOk P w K mg base CX0 3 f fd ["_law_tape"] (spOdd K) := by
  refine F.ok sc__law_odd_value (fun vs H Q E h => ?_) (fun cdv A outer s H vs Q E hr h => ?_)
  · obtain ⟨t, c, b, rfl, _⟩ := h
    rfl
  · obtain ⟨t, c, b, rfl, T, k⟩ := h
    have hr__law_pick : Room 2 _ := hr
    refine ⟨_, (pss_cons (ps_set (i := 1) sc__law_odd_value.nd rfl (Or.inl rfl) (pl_lstL (t := t) (pl_cons (pl_c pe_non fun _ => .non) (pl_cons (pl_c pe_bl fun _ => .bl _) (pl_cons (pl_c pe_int fun _ => .int _) (pl_cons (pl_c pe_str fun _ => .str _) (pl_cons (pl_c pe_str fun _ => .str _) (pl_cons (pl_tup pl_nil) (pl_cons (pl_lst pl_nil) (pl_cons pl_d0 (pl_cons (pl_tup (pl_cons (pl_c pe_str fun _ => .str _) pl_nil)) (pl_cons (pl_tup (pl_cons (pl_c pe_str fun _ => .str _) (pl_cons (pl_c pe_int fun _ => .int _) pl_nil))) (pl_cons (pl_tup (pl_cons (pl_c pe_str fun _ => .str _) (pl_cons (pl_tup pl_nil) pl_nil))) (pl_cons (pl_lst (pl_cons (pl_c pe_str fun _ => .str _) pl_nil)) (pl_cons (pl_tup (pl_cons (pl_c pe_non fun _ => .non) pl_nil)) pl_nil)))))))))))))))
  (pss_cons (ps_set (i := 1) sc__law_odd_value.nd rfl (Or.inl rfl) (pe_op op_cat (pv 1) (pl_lstL (t := t) (pl_cons (pl_tup (pl_cons (pl_c pe_str fun _ => .str _) (pl_cons (pl_addI (pl_pow pe_int pe_int ⟨by decide, by decide, by decide⟩) (pl_c pe_int fun _ => .int _)) pl_nil))) (pl_cons (pl_tup (pl_cons (pl_c pe_str fun _ => .str _) (pl_cons (pl_subI (pl_negE (pl_pow pe_int pe_int ⟨by decide, by decide, by decide⟩)) (pl_c pe_int fun _ => .int _)) pl_nil))) (pl_cons (pl_tup (pl_cons (pl_c pe_str fun _ => .str _) (pl_cons (pl_c pe_bl fun _ => .bl _) pl_nil))) (pl_cons (pl_tup (pl_cons (pl_c pe_str fun _ => .str _) (pl_cons (pl_c pe_str fun _ => .str _) pl_nil))) (pl_cons (pl_tup (pl_cons (pl_c pe_str fun _ => .str _) (pl_cons (pl_rep pe_str pe_int) pl_nil))) pl_nil))))))))
  (pss_cons (ps_set (i := 1) sc__law_odd_value.nd rfl (Or.inl rfl) (pe_op op_cat (pv 1) (pl_lstL (t := t) (pl_cons (pl_tup (pl_cons (pl_c pe_str fun _ => .str _) (pl_cons (pl_c pe_int fun _ => .int _) pl_nil))) (pl_cons (pl_tup (pl_cons (pl_c pe_str fun _ => .str _) (pl_cons (pl_c pe_str fun _ => .str _) pl_nil))) (pl_cons (pl_tup (pl_cons (pl_c pe_str fun _ => .str _) (pl_cons (pl_tup (pl_cons (pl_c pe_str fun _ => .str _) pl_nil)) pl_nil))) (pl_cons (pl_tup (pl_cons (pl_c pe_str fun _ => .str _) (pl_cons (pl_c pe_str fun _ => .str _) pl_nil))) (pl_cons (pl_tup (pl_cons (pl_c pe_str fun _ => .str _) (pl_cons (pl_c pe_str fun _ => .str _) (pl_cons (pl_lst pl_nil) pl_nil)))) (pl_cons (pl_tup (pl_cons (pl_c pe_str fun _ => .str _) (pl_cons (pl_c pe_str fun _ => .str _) (pl_cons (pl_tup pl_nil) pl_nil)))) pl_nil)))))))))
  (pss_cons (ps_set (i := 1) sc__law_odd_value.nd rfl (Or.inl rfl) (pe_op op_cat (pv 1) (pl_lstL (t := t) (pl_cons (pl_tup (pl_cons (pl_c pe_str fun _ => .str _) (pl_cons (pl_c pe_str fun _ => .str _) (pl_cons (pl_tup pl_nil) pl_nil)))) (pl_cons (pl_tup (pl_cons (pl_c pe_str fun _ => .str _) (pl_cons (pl_c pe_str fun _ => .str _) (pl_cons (pl_tup pl_nil) pl_nil)))) (pl_cons (pl_tup (pl_cons (pl_c pe_str fun _ => .str _) (pl_cons (pl_c pe_str fun _ => .str _) (pl_cons (pl_tup pl_nil) pl_nil)))) (pl_cons (pl_tup (pl_cons (pl_c pe_str fun _ => .str _) (pl_cons (pl_c pe_str fun _ => .str _) (pl_cons (pl_tup pl_nil) pl_nil)))) (pl_cons (pl_tup (pl_cons (pl_c pe_str fun _ => .str _) (pl_cons (pl_c pe_non fun _ => .non) (pl_cons (pl_tup pl_nil) pl_nil)))) pl_nil))))))))
  (pss_cons (ps_set (i := 1) sc__law_odd_value.nd rfl (Or.inl rfl) (pe_op op_cat (pv 1) (pl_lstL (t := t) (pl_cons (pl_tup (pl_cons (pl_c pe_str fun _ => .str _) (pl_cons (pl_c pe_str fun _ => .str _) (pl_cons (pl_tup pl_nil) (pl_cons (pl_tup pl_nil) pl_nil))))) (pl_cons (pl_tup (pl_cons (pl_c pe_str fun _ => .str _) (pl_cons (pl_c pe_str fun _ => .str _) (pl_cons (pl_tup (pl_cons (pl_c pe_str fun _ => .str _) (pl_cons (pl_c pe_int fun _ => .int _) pl_nil))) pl_nil)))) (pl_cons (pl_tup (pl_cons (pl_c pe_str fun _ => .str _) (pl_cons (pl_c pe_str fun _ => .str _) (pl_cons (pl_tup pl_nil) pl_nil)))) (pl_cons (pl_lst (pl_cons (pl_c pe_str fun _ => .str _) (pl_cons (pl_c pe_str fun _ => .str _) (pl_cons (pl_tup pl_nil) pl_nil)))) (pl_cons (pl_tup (pl_cons (pl_c pe_int fun _ => .int _) (pl_cons (pl_c pe_int fun _ => .int _) pl_nil))) pl_nil))))))))
  (pss_one (ps_ret (pe_kn D__law_pick hr__law_pick (pa_cons (pv 0) (pa_cons (pe_op op_cat (pv 1) (pl_lstL (t := t) (pl_cons (pl_tup (pl_cons (pl_c pe_str fun _ => .str _) (pl_cons (pl_c pe_str fun _ => .str _) (pl_cons (pl_tup pl_nil) pl_nil)))) (pl_cons (pl_tup (pl_cons (pl_tup (pl_cons (pl_c pe_str fun _ => .str _) (pl_cons (pl_c pe_int fun _ => .int _) pl_nil))) pl_nil)) (pl_cons (pl_tup (pl_cons (pl_c pe_str fun _ => .str _) (pl_cons (pl_c pe_str fun _ => .str _) (pl_cons (pl_tup (pl_cons (pl_tup pl_nil) pl_nil)) pl_nil)))) (pl_cons (pl_tup (pl_cons (pl_c pe_str fun _ => .str _) (pl_cons (pl_c pe_int fun _ => .int _) (pl_cons (pl_c pe_int fun _ => .int _) pl_nil)))) (pl_cons (pl_tup (pl_cons (pl_c pe_str fun _ => .str _) (pl_cons (pl_c pe_non fun _ => .non) pl_nil))) pl_nil))))))) pa_nil)))))))))), ?_⟩
    have hT : ∀ {H' : Hp}, Tape K H' t c (b + 1) → ∃ o, H' t = some o := fun T => by
      obtain ⟨_, _, _, h, _⟩ := T
      exact ⟨_, h⟩
    refine ⟨hT T, fun H1 l1 vs1 s1 n1 g1 d1 => ?_⟩
    have T1 := T.same s1
    have S1 := s1
    have D1 : DaAll t H1 vs1 (oddA) := d1
    refine ⟨_, rfl, hT T1, fun H' l' vs' s' n' g' d' => ?_⟩
    refine ⟨l1, l', vs1, vs', rfl, rfl, s' _ _ g1, g', by rw [D1.len, d'.len, sizeLine_eq]; decide, fun l2 hl2 => ?_⟩
    have s'' := same_new (o := .lst (vs1 ++ vs')) hl2
    have D2 : DaAll t (upd H' l2 (.lst (vs1 ++ vs'))) (vs1 ++ vs') ((oddA) ++ oddB) := (DaAll.app (D1.kp (kp_same s')) d').kp (kp_same s'')
    have g2 : (upd H' l2 (.lst (vs1 ++ vs'))) l2 = some (.lst (vs1 ++ vs')) := upd_same
    have S2 := S1.trans (s'.trans s'')
    have T2 := T.same S2
    generalize upd H' l2 (.lst (vs1 ++ vs')) = H2 at D2 g2 S2 T2 ⊢
    generalize vs1 ++ vs' = vs2 at D2 g2 ⊢
    clear d' g' n' s' s''
    refine ⟨_, rfl, hT T2, fun H' l' vs' s' n' g' d' => ?_⟩
    refine ⟨l2, l', vs2, vs', rfl, rfl, s' _ _ g2, g', by rw [D2.len, d'.len, sizeLine_eq]; decide, fun l3 hl3 => ?_⟩
    have s'' := same_new (o := .lst (vs2 ++ vs')) hl3
    have D3 : DaAll t (upd H' l3 (.lst (vs2 ++ vs'))) (vs2 ++ vs') (((oddA) ++ oddB) ++ oddC) := (DaAll.app (D2.kp (kp_same s')) d').kp (kp_same s'')
    have g3 : (upd H' l3 (.lst (vs2 ++ vs'))) l3 = some (.lst (vs2 ++ vs')) := upd_same
    have S3 := S2.trans (s'.trans s'')
    have T3 := T.same S3
    generalize upd H' l3 (.lst (vs2 ++ vs')) = H3 at D3 g3 S3 T3 ⊢
    generalize vs2 ++ vs' = vs3 at D3 g3 ⊢
    clear d' g' n' s' s''
    refine ⟨_, rfl, hT T3, fun H' l' vs' s' n' g' d' => ?_⟩
    refine ⟨l3, l', vs3, vs', rfl, rfl, s' _ _ g3, g', by rw [D3.len, d'.len, sizeLine_eq]; decide, fun l4 hl4 => ?_⟩
    have s'' := same_new (o := .lst (vs3 ++ vs')) hl4
    have D4 : DaAll t (upd H' l4 (.lst (vs3 ++ vs'))) (vs3 ++ vs') ((((oddA) ++ oddB) ++ oddC) ++ oddD) := (DaAll.app (D3.kp (kp_same s')) d').kp (kp_same s'')
    have g4 : (upd H' l4 (.lst (vs3 ++ vs'))) l4 = some (.lst (vs3 ++ vs')) := upd_same
    have S4 := S3.trans (s'.trans s'')
    have T4 := T.same S4
    generalize upd H' l4 (.lst (vs3 ++ vs')) = H4 at D4 g4 S4 T4 ⊢
    generalize vs3 ++ vs' = vs4 at D4 g4 ⊢
    clear d' g' n' s' s''
    refine ⟨_, rfl, hT T4, fun H' l' vs' s' n' g' d' => ?_⟩
    refine ⟨l4, l', vs4, vs', rfl, rfl, s' _ _ g4, g', by rw [D4.len, d'.len, sizeLine_eq]; decide, fun l5 hl5 => ?_⟩
    have s'' := same_new (o := .lst (vs4 ++ vs')) hl5
    have D5 : DaAll t (upd H' l5 (.lst (vs4 ++ vs'))) (vs4 ++ vs') (((((oddA) ++ oddB) ++ oddC) ++ oddD) ++ oddE) := (DaAll.app (D4.kp (kp_same s')) d').kp (kp_same s'')
    have g5 : (upd H' l5 (.lst (vs4 ++ vs'))) l5 = some (.lst (vs4 ++ vs')) := upd_same
    have S5 := S4.trans (s'.trans s'')
    have T5 := T.same S5
    generalize upd H' l5 (.lst (vs4 ++ vs')) = H5 at D5 g5 S5 T5 ⊢
    generalize vs4 ++ vs' = vs5 at D5 g5 ⊢
    clear d' g' n' s' s''
    refine ⟨_, rfl, _, rfl, hT T5, fun H' l' vs' s' n' g' d' => ?_⟩
    refine ⟨l5, l', vs5, vs', rfl, rfl, s' _ _ g5, g', by rw [D5.len, d'.len, sizeLine_eq]; decide, fun l6 hl6 => ?_⟩
    have s'' := same_new (o := .lst (vs5 ++ vs')) hl6
    have D6 : DaAll t (upd H' l6 (.lst (vs5 ++ vs'))) (vs5 ++ vs') ((((((oddA) ++ oddB) ++ oddC) ++ oddD) ++ oddE) ++ oddF) := (DaAll.app (D5.kp (kp_same s')) d').kp (kp_same s'')
    have g6 : (upd H' l6 (.lst (vs5 ++ vs'))) l6 = some (.lst (vs5 ++ vs')) := upd_same
    have S6 := S5.trans (s'.trans s'')
    have T6 := T.same S6
    generalize upd H' l6 (.lst (vs5 ++ vs')) = H6 at D6 g6 S6 T6 ⊢
    generalize vs5 ++ vs' = vs6 at D6 g6 ⊢
    clear d' g' n' s' s''
    refine ⟨t, c, l6, _, b, rfl, SqL.of g6, by rw [D6.len]; decide, by rw [D6.len]; decide, T6, fun H' v e' T' hv => ?_⟩
    obtain ⟨d, hd, dv⟩ := D6.mem hv
    exact k H' v d ((same_ext S6).trans e') T' (dv.kp (kp_ext e' T6)) hd
end
end L3

namespace L3
open PySem L2
/-- a value of so many layers -/
inductive Vl : Nat → PyData → Prop
  | whole (n : Nat) (i : Int) : Vl n (.tuple [.str "whole", .int i])
  | text (n : Nat) (x : Str) : okS (.str x) = true → Vl n (.tuple [.str "text", .str x])
  | func (n : Nat) : Vl n (.tuple [.str "function"])
  | made (n : Nat) (x : Str) (ds : List PyData) : okS (.str x) = true → ds.length ≤ 3 → (∀ d ∈ ds, Vl n d) → Vl (n + 1) (.tuple [.str "made", .str x, .tuple ds])
theorem isHead_made : isHead (.str "made") = true ∧ isHead (.str "whole") = true ∧ isHead (.str "text") = true ∧ isHead (.str "function") = true := by decide +kernel
theorem psz_three (a b : Str) (ds : List PyData) : psz (.tuple [.str a, .str b, .tuple ds]) = 4 + pszL ds := by
  simp only [psz, pszL]
  omega
theorem depth_three (a b : Str) (ds : List PyData) : (PyData.tuple [.str a, .str b, .tuple ds]).depth = PyData.depthAll ds + 2 := by
  simp only [PyData.depth, PyData.depthAll]
  omega
theorem okV_made {x : Str} {ds : List PyData} (hx : okS (.str x) = true) (h : okVL ds = true) : okV (.tuple [.str "made", .str x, .tuple ds]) = true := by
  rw [okV, hdOk, okVT, okVE, isHead_made.1, hx, h]
  rfl
theorem pszL_bd {k : Nat} : ∀ {ds : List PyData}, (∀ d ∈ ds, psz d ≤ k) → pszL ds ≤ ds.length * k
  | [], _ => by simp [pszL]
  | d :: ds, h => by
    have h1 := h d List.mem_cons_self
    have h2 := pszL_bd fun e m => h e (List.mem_cons_of_mem _ m)
    simp only [pszL, List.length_cons, Nat.succ_mul]
    omega
theorem depthAll_bd {k : Nat} : ∀ {ds : List PyData}, (∀ d ∈ ds, d.depth ≤ k) → PyData.depthAll ds ≤ k
  | [], _ => by simp [PyData.depthAll]
  | d :: ds, h => by
    have h1 := h d List.mem_cons_self
    have h2 := depthAll_bd fun e m => h e (List.mem_cons_of_mem _ m)
    simp only [PyData.depthAll]
    omega
theorem Bd.made {n : Nat} {x : Str} {ds : List PyData} (hx : okS (.str x) = true) (hl : ds.length ≤ 3) (h : ∀ d ∈ ds, Bd n d) : Bd (n + 1) (.tuple [.str "made", .str x, .tuple ds]) := by
  have h2 := pszL_bd fun d m => (h d m).2.1
  have h3 := depthAll_bd fun d m => (h d m).2.2
  have h4 : ds.length * (100 * 4 ^ n) ≤ 3 * (100 * 4 ^ n) := Nat.mul_le_mul_right _ hl
  have h5 : 1 ≤ 4 ^ n := Nat.one_le_pow _ _ (by decide)
  refine ⟨okV_made hx (okVL_all fun d m => (h d m).1), ?_, ?_⟩
  · rw [psz_three, Nat.pow_succ]
    omega
  · rw [depth_three]
    omega
theorem bd_flat {n : Nat} {d : PyData} (h1 : okV d = true) (h2 : psz d ≤ 100) (h3 : d.depth ≤ 8) : Bd n d := by
  have h5 : 1 ≤ 4 ^ n := Nat.one_le_pow _ _ (by decide)
  exact ⟨h1, by omega, by omega⟩
theorem Vl.bd : ∀ {n : Nat} {d : PyData}, Vl n d → Bd n d
  | n, _, .whole _ i => bd_flat (by simp only [okV, hdOk, okVT, isHead_made.2.1, okS]; rfl) (by simp [psz, pszL]) (by simp [PyData.depth, PyData.depthAll])
  | n, _, .text _ x hx => bd_flat (by simp only [okV, hdOk, okVT, isHead_made.2.2.1, hx]; rfl) (by simp [psz, pszL]) (by simp [PyData.depth, PyData.depthAll])
  | n, _, .func _ => bd_flat (by simp only [okV, hdOk, okVT, isHead_made.2.2.2]; rfl) (by simp [psz, pszL]) (by simp [PyData.depth, PyData.depthAll])
  | _, _, .made n x ds hx hl h => Bd.made hx hl fun d m => (h d m).bd
/-- values have tuples alone -/
theorem Vl.keep {t : Addr} {H H' : Hp} (u : ∀ a xs, H a = some (.tup xs) → H' a = some (.tup xs)) : ∀ {n : Nat} {d : PyData} {v : V}, Vl n d → Da t H v d → Da t H' v d
  | _, _, _, .whole _ i, h => by
    cases h with
    | tup g a =>
      cases a with
      | cons h1 a =>
        cases h1
        cases a with
        | cons h2 a =>
          cases h2
          cases a
          exact .tup (u _ _ g) (.cons (.str _) (.cons (.int _) .nil))
  | _, _, _, .text _ x _, h => by
    cases h with
    | tup g a =>
      cases a with
      | cons h1 a =>
        cases h1
        cases a with
        | cons h2 a =>
          cases h2
          cases a
          exact .tup (u _ _ g) (.cons (.str _) (.cons (.str _) .nil))
  | _, _, _, .func _, h => by
    cases h with
    | tup g a =>
      cases a with
      | cons h1 a =>
        cases h1
        cases a
        exact .tup (u _ _ g) (.cons (.str _) .nil)
  | _, _, _, .made n x ds _ _ hv, h => by
    cases h with
    | tup g a =>
      cases a with
      | cons h1 a =>
        cases h1
        cases a with
        | cons h2 a =>
          cases h2
          cases a with
          | cons h3 a =>
            cases a
            cases h3 with
            | @tup q ys _ g3 a3 =>
              have all : ∀ {es : List PyData} {vs : List V}, (∀ d ∈ es, d ∈ ds) → DaAll t H vs es → DaAll t H' vs es := by
                intro es
                induction es with
                | nil => intro vs _ h; cases h; exact .nil
                | cons e es ih =>
                  intro vs hm h
                  cases h with
                  | cons k1 k2 => exact .cons ((hv e (hm e List.mem_cons_self)).keep u k1) (ih (fun d m => hm d (List.mem_cons_of_mem _ m)) k2)
              exact .tup (u _ _ g) (.cons (.str _) (.cons (.str _) (.cons (.tup (u _ _ g3) (all (fun d m => m) a3)) .nil)))
theorem vl_keepAll {t : Addr} {n : Nat} {H H' : Hp} (u : ∀ a xs, H a = some (.tup xs) → H' a = some (.tup xs)) : ∀ {ds : List PyData} {vs : List V}, (∀ d ∈ ds, Vl n d) → DaAll t H vs ds → DaAll t H' vs ds
  | [], _, _, h => by cases h; exact .nil
  | d :: ds, _, hv, h => by
    cases h with
    | cons k1 k2 => exact .cons ((hv d List.mem_cons_self).keep u k1) (vl_keepAll u (fun e m => hv e (List.mem_cons_of_mem _ m)) k2)
theorem key_way {K : PySem.W.Frag} {t c : Addr} {b n : Nat} {H : Hp} {F : Hp → Int → Prop} {G : Prop} (g : (∀ H1 r, Ext t H H1 → Tape K H1 t c b → 0 ≤ r → (r < 3 ∨ (r < 5 ∧ 1 ≤ n)) → F H1 r) → G)
    (h : ∀ H1 r, Ext t H H1 → Tape K H1 t c b → 0 ≤ r → (r < 3 ∨ (r < 5 ∧ 1 ≤ n)) → F H1 r) : G := g h
section
variable {P : Program} {w : World} {K : PySem.W.Frag} {mg : Str → Option Value} {base : Heap}
abbrev s__law_some_value : Stmt := topS 24
abbrev N__law_some_value : List Str := ["_law_tape", "_law_deep", "_law_way", "_law_name", "_law_k"]
theorem sc__law_some_value : FnScope N__law_some_value ["_law_tape", "_law_deep"] (defScope s__law_some_value) := ⟨rfl, rfl, rfl, by decide +kernel, rfl, by decide +kernel, by decide +kernel⟩
def scost : Nat → Nat
  | 0 => 0
  | n + 1 => 4 + 4 * scost n
def spSome (K : PySem.W.Frag) : Nat → Sp
  | 0 => fun _ _ _ _ => False
  | n + 1 => fun vs H Q _ => ∃ (t c : Addr) (b : Nat), vs = [.ref t, .int ((n + 1 : Nat) : Int)] ∧ Tape K H t c (b + scost (n + 1)) ∧ ∀ (H' : Hp) (v : V) (d : PyData), Ext t H H' → Tape K H' t c b → Da t H' v d → Vl (n + 1) d → Q v H'
theorem ok_some {n : Nat} {f : Addr} {fd : FuncData} (F : Fun K "_law_some_value" "_law_some_value" s__law_some_value f fd) (B : Bl mg) (D__law_draw : Kn P w K mg base 1 "_law_draw" ["_law_tape", "_law_many"] (spDraw K)) (D__law_pick : Kn P w K mg base 2 "_law_pick" ["_law_tape", "_law_items"] (spPick K))
    (D__law_some_value : Kn P w K mg base (n + 2) "_law_some_value" ["_law_tape", "_law_deep"] (spSome K n)) : FnOk P w K mg base CX0 (n + 3) f fd ["_law_tape", "_law_deep"] (spSome K (n + 1)) := by
  refine F.ok sc__law_some_value (fun vs H Q E h => ?_) (fun cdv A outer s H vs Q E hr h => ?_)
  · obtain ⟨t, c, b, rfl, _⟩ := h
    rfl
  · obtain ⟨t, c, b, rfl, T, k⟩ := h
    have hr__law_draw : Room 1 _ := hr.mono (by omega)
    have hr__law_pick : Room 2 _ := hr.mono (by omega)
    have hr__law_some_value : Room (n + 2) _ := hr
    refine ⟨_, (pss_cons (ps_set (i := 2) sc__law_some_value.nd rfl (Or.inl rfl) (pe_kn D__law_draw hr__law_draw (pa_cons (pv 0) (pa_cons (pe_ifExp (pt_cmpR op_gt (pv 1) pe_int (nomark _)) pe_int pe_int) pa_nil))))
  (pss_cons (ps_if (pt_cmpR op_eq (pv 2) pe_int (nomark _))
  (pss_one (ps_ret (pe_tup (pa_cons pe_str (pa_cons (pe_kn D__law_pick hr__law_pick (pa_cons (pv 0) (pa_cons (pl_lstL (t := t) (pl_cons (pl_c pe_int fun _ => .int _) (pl_cons (pl_c pe_int fun _ => .int _) (pl_cons (pl_neg pe_int) (pl_cons (pl_pow pe_int pe_int ⟨by decide, by decide, by decide⟩) (pl_cons (pl_negE (pl_pow pe_int pe_int ⟨by decide, by decide, by decide⟩)) (pl_cons (pl_c pe_int fun _ => .int _) pl_nil))))))) pa_nil))) pa_nil)))))
  pss_nil)
  (pss_cons (ps_if (pt_cmpR op_eq (pv 2) pe_int (nomark _))
  (pss_one (ps_ret (pe_tup (pa_cons pe_str (pa_cons (pe_kn D__law_pick hr__law_pick (pa_cons (pv 0) (pa_cons (pl_lstL (t := t) (pl_cons (pl_c pe_str fun _ => .str _) (pl_cons (pl_c pe_str fun _ => .str _) (pl_cons (pl_c pe_str fun _ => .str _) (pl_cons (pl_rep pe_str pe_int) (pl_cons (pl_c pe_str fun _ => .str _) pl_nil)))))) pa_nil))) pa_nil)))))
  pss_nil)
  (pss_cons (ps_if (pt_cmpR op_eq (pv 2) pe_int (nomark _))
  (pss_one (ps_ret (pe_kn D__law_pick hr__law_pick (pa_cons (pv 0) (pa_cons (pl_lstL (t := t) (pl_cons (pl_tup (pl_cons (pl_c pe_str fun _ => .str _) pl_nil)) (pl_cons (pl_tup (pl_cons (pl_c pe_str fun _ => .str _) (pl_cons (pl_c pe_str fun _ => .str _) (pl_cons (pl_tup pl_nil) pl_nil)))) pl_nil))) pa_nil)))))
  pss_nil)
  (pss_cons (ps_set (i := 3) sc__law_some_value.nd rfl (Or.inl rfl) (pe_kn D__law_pick hr__law_pick (pa_cons (pv 0) (pa_cons (pl_lstL (t := t) (pl_cons (pl_c pe_str fun _ => .str _) (pl_cons (pl_c pe_str fun _ => .str _) (pl_cons (pl_c pe_str fun _ => .str _) (pl_cons (pl_c pe_str fun _ => .str _) (pl_cons (pl_c pe_str fun _ => .str _) (pl_cons (pl_c pe_str fun _ => .str _) (pl_cons (pl_c pe_str fun _ => .str _) (pl_cons (pl_c pe_str fun _ => .str _) (pl_cons (pl_c pe_str fun _ => .str _) pl_nil)))))))))) pa_nil))))
  (pss_one (ps_ret (pe_tup (pa_cons pe_str (pa_cons (pv 3) (pa_cons (pe_callTy call_tuple_of (by rfl) B.tuple (by decide +kernel) (pa_cons (pe_lc (own := [("_law_k", 4)]) rfl sc__law_some_value.nd (pi_range1 (by rfl) B.range (pa_cons (pe_kn D__law_draw hr__law_draw (pa_cons (pv 0) (pa_cons pe_int pa_nil))) pa_nil)) (blkOk_by (N := N__law_some_value) (sc := (defScope s__law_some_value)) (own := [("_law_k", 4)]) (by decide +kernel)) (fun _ _ _ _ _ => (pg_name (i := 4) sc__law_some_value.nd rfl (Or.inl rfl))) (fun _ _ _ _ _ => pts_nil) (fun _ _ _ _ _ => (pe_kn D__law_some_value hr__law_some_value (pa_cons (pv 0) (pa_cons (pe_op op_sub (pv 1) pe_int) pa_nil))))) pa_nil)) pa_nil))))))))))), ?_⟩
    refine ⟨_, rfl, _, rfl, _, _, rfl, rfl, _, rfl, ?_⟩
    have hT : ∀ {H' : Hp} {j : Nat}, Tape K H' t c j → ∃ o, H' t = some o := fun T => by
      obtain ⟨_, _, _, h, _⟩ := T
      exact ⟨_, h⟩
    have ec : scost (n + 1) = 4 + 4 * scost n := rfl
    refine' key_way (K := K) (t := t) (c := c) (b := b + 3 + 4 * scost n) (n := n) (H := H) (fun h => ?_) (fun H1 r e1 T1 r1 r2 => ?_)
    rotate_left
    · by_cases hn : 1 ≤ n
      · refine iT (decide_eq_true (by omega)) ?_
        exact ⟨t, c, 5, b + 3 + 4 * scost n, rfl, by decide, by decide, T.less (by omega), fun H1 r e1 T1 r1 r2 => h H1 r e1 T1 r1 (.inr ⟨r2, hn⟩)⟩
      · refine iF (decide_eq_false (by omega)) ?_
        exact ⟨t, c, 3, b + 3 + 4 * scost n, rfl, by decide, by decide, T.less (by omega), fun H1 r e1 T1 r1 r2 => h H1 r e1 T1 r1 (.inl r2)⟩
    · refine ⟨_, rfl, rfl, _, rfl, ?_⟩
      by_cases c0 : r = 0
      · subst c0
        refine iT rfl ?_
        refine ⟨_, rfl, hT T1, fun H2 l vs s2 n2 g2 d2 => ?_⟩
        have T2 := T1.same s2
        refine ⟨t, c, l, vs, b + 2 + 4 * scost n, rfl, SqL.of g2, by rw [d2.len]; decide, by rw [d2.len]; decide, T2.less (by omega), fun H3 v e3 T3 hv => ?_⟩
        obtain ⟨d, hd, dv⟩ := d2.mem hv
        refine ⟨slz rfl, fun p hp => ?_⟩
        have dv3 := (dv.kp (kp_ext e3 T2)).kp (kp_same (same_new (o := .tup [.str "whole", v]) hp))
        obtain ⟨i, rfl⟩ : ∃ i, d = .int i := by
          simp only [List.mem_cons, List.not_mem_nil, or_false] at hd
          rcases hd with rfl | rfl | rfl | rfl | rfl | rfl <;> exact ⟨_, rfl⟩
        exact k _ _ _ ((e1.trans (same_ext s2)).trans (e3.trans (Ext.new hp))) ((T3.new hp).less (by omega)) (.tup upd_same (.cons (.str _) (.cons dv3 .nil))) (.whole _ i)
      · refine iF (decide_eq_false (fun z => c0 (by injection z))) ?_
        refine ⟨_, rfl, rfl, _, rfl, ?_⟩
        by_cases c1 : r = 1
        · subst c1
          refine iT rfl ?_
          refine ⟨_, rfl, hT T1, fun H2 l vs s2 n2 g2 d2 => ?_⟩
          have T2 := T1.same s2
          refine ⟨t, c, l, vs, b + 2 + 4 * scost n, rfl, SqL.of g2, by rw [d2.len]; decide, by rw [d2.len]; decide, T2.less (by omega), fun H3 v e3 T3 hv => ?_⟩
          obtain ⟨d, hd, dv⟩ := d2.mem hv
          refine ⟨slz rfl, fun p hp => ?_⟩
          have dv3 := (dv.kp (kp_ext e3 T2)).kp (kp_same (same_new (o := .tup [.str "text", v]) hp))
          obtain ⟨x, hx, rfl⟩ : ∃ x, okS (.str x) = true ∧ d = .str x := by
            simp only [List.mem_cons, List.not_mem_nil, or_false] at hd
            rcases hd with rfl | rfl | rfl | rfl | rfl <;> exact ⟨_, by decide +kernel, rfl⟩
          exact k _ _ _ ((e1.trans (same_ext s2)).trans (e3.trans (Ext.new hp))) ((T3.new hp).less (by omega)) (.tup upd_same (.cons (.str _) (.cons dv3 .nil))) (.text _ x hx)
        · refine iF (decide_eq_false (fun z => c1 (by injection z))) ?_
          refine ⟨_, rfl, rfl, _, rfl, ?_⟩
          by_cases c2 : r = 2
          · subst c2
            refine iT rfl ?_
            refine ⟨_, rfl, hT T1, fun H2 l vs s2 n2 g2 d2 => ?_⟩
            have T2 := T1.same s2
            refine ⟨t, c, l, vs, b + 2 + 4 * scost n, rfl, SqL.of g2, by rw [d2.len]; decide, by rw [d2.len]; decide, T2.less (by omega), fun H3 v e3 T3 hv => ?_⟩
            obtain ⟨d, hd, dv⟩ := d2.mem hv
            have hv : Vl (n + 1) d := by
              simp only [List.mem_cons, List.not_mem_nil, or_false] at hd
              rcases hd with rfl | rfl
              · exact .func _
              · exact .made n _ [] (by decide +kernel) (by decide) (fun d m => (by cases m))
            exact k _ _ _ ((e1.trans (same_ext s2)).trans e3) (T3.less (by omega)) (dv.kp (kp_ext e3 T2)) hv
          · refine iF (decide_eq_false (fun z => c2 (by injection z))) ?_
            obtain ⟨r4, hn⟩ : r < 5 ∧ 1 ≤ n := by
              rcases r2 with r2 | r2
              · omega
              · exact r2
            obtain ⟨m, rfl⟩ : ∃ m, n = m + 1 := ⟨n - 1, by omega⟩
            refine ⟨_, rfl, hT T1, fun H2 l vs s2 n2 g2 d2 => ?_⟩
            have T2 := T1.same s2
            refine ⟨t, c, l, vs, b + 2 + 4 * scost (m + 1), rfl, SqL.of g2, by rw [d2.len]; decide, by rw [d2.len]; decide, T2.less (by omega), fun H3 v e3 T3 hv => ?_⟩
            obtain ⟨d, hd, dv⟩ := d2.mem hv
            obtain ⟨x, hx, rfl⟩ : ∃ x, okS (.str x) = true ∧ d = .str x := by
              simp only [List.mem_cons, List.not_mem_nil, or_false] at hd
              rcases hd with rfl | rfl | rfl | rfl | rfl | rfl | rfl | rfl | rfl <;> exact ⟨_, by decide +kernel, rfl⟩
            cases dv
            have E3 := (e1.trans (same_ext s2)).trans e3
            refine ⟨_, rfl, _, rfl, t, c, 4, b + 1 + 4 * scost (m + 1), rfl, by decide, by decide, T3.less (by omega), fun H4 r' e4 T4 r'1 r'2 => ?_⟩
            obtain ⟨i', rfl⟩ : ∃ i : Nat, r' = (i : Int) := ⟨r'.toNat, (Int.toNat_of_nonneg r'1).symm⟩
            refine ⟨_, rfl, by omega, by omega, fun D hD => ?_⟩
            have nD : D ≠ t := T4.ne hD
            refine lc_range (lo := 0) (n := i') (fun j H' => Ext t H4 H' ∧ Tape K H' t c (b + 1 + (4 - j) * scost (m + 1)) ∧ ∃ acc ds, H' D = some (.lst acc) ∧ DaAll t H' acc ds ∧ ds.length = j ∧ ∀ d ∈ ds, Vl (m + 1) d) ⟨Ext.new hD, by simpa using T4.new hD, [], [], upd_same, .nil, rfl, fun d m => (by cases m)⟩ (fun j H' hj ⟨e5, T5, acc, ds, g5, d5, l5, v5⟩ => ⟨rfl, ?_⟩) (fun H5 ⟨e5, T5, acc, ds, g5, d5, l5, v5⟩ => ?_)
            · have es : (4 - j) * scost (m + 1) = (4 - (j + 1)) * scost (m + 1) + scost (m + 1) := by
                rw [show 4 - j = (4 - (j + 1)) + 1 by omega, Nat.succ_mul]
              refine ⟨_, rfl, _, rfl, _, _, rfl, rfl, t, c, b + 1 + (4 - (j + 1)) * scost (m + 1), ?_, T5.less (by omega), fun H6 v d e6 T6 d6 v6 => ⟨acc, e6 _ _ nD g5, szl (by rw [d5.len]; omega), ?_⟩⟩
              · show [V.ref t, V.int (((m + 1 + 1 : Nat) : Int) - 1)] = _
                rw [show ((m + 1 + 1 : Nat) : Int) - 1 = ((m + 1 : Nat) : Int) by omega]
              · have u6 : ∀ a xs, H6 a = some (.tup xs) → (upd H6 D (.lst (acc ++ [v]))) a = some (.tup xs) := fun a xs z => by
                  rw [upd_ne (fun y => by rw [y, e6 _ _ nD g5] at z; cases z)]
                  exact z
                have vd := vl_keepAll u6 v5 (d5.kp (kp_ext e6 T5))
                have v1 := v6.keep u6 d6
                exact ⟨(e5.trans e6).upd hD, T4.put (e5.trans e6) T6 hD, acc ++ [v], ds ++ [d], upd_same, vd.app (.cons v1 .nil), by rw [List.length_append, l5]; rfl, fun d' md => (List.mem_append.mp md).elim (v5 d') fun z => by rw [List.mem_singleton.mp z]; exact v6⟩
            · refine ⟨D, acc, rfl, .inl ⟨SqL.of g5, fun l' hl' => ⟨slz rfl, fun p hp => ?_⟩⟩⟩
              have s6 := (same_new (o := .tup acc) hl').trans (same_new (o := .tup [.str "made", .str x, .ref l']) hp)
              have gl : (upd (upd H5 l' (.tup acc)) p (.tup [.str "made", .str x, .ref l'])) l' = some (.tup acc) := by
                rw [upd_ne (ne_of_none upd_same hp)]
                exact upd_same
              refine k _ _ _ ((E3.trans (e4.trans e5)).trans (same_ext s6)) ((T5.same s6).less (by omega)) (.tup upd_same (.cons (.str _) (.cons (.str _) (.cons (.tup gl (d5.kp (kp_same s6))) .nil)))) (.made _ x ds hx (by omega) v5)
end
end L3

namespace L3
open PySem L2
section
variable {P : Program} {w : World} {K : PySem.W.Frag} {mg : Str → Option Value} {base : Heap}
abbrev s__law_bent : Stmt := topS 26
abbrev N__law_bent : List Str := ["_law_tape", "_law_thing", "_law_at"]
theorem sc__law_bent : FnScope N__law_bent ["_law_tape", "_law_thing"] (defScope s__law_bent) := ⟨rfl, rfl, rfl, by decide +kernel, rfl, by decide +kernel, by decide +kernel⟩
theorem at_ofG {α : Type} {xs : List α} {z : Int} {j : Nat} {v : α} (e : z = (j : Int)) (h : xs[j]? = some v) : atI xs z = some v := by
  rw [e]
  exact atI_nat h
theorem key_two {K : PySem.W.Frag} {t c : Addr} {b : Nat} {H : Hp} {F : Hp → Prop} {G : Prop} (g : (∀ H1, Ext t H H1 → Tape K H1 t c b → F H1) → G)
    (h : ∀ H1, Ext t H H1 → Tape K H1 t c b → F H1) : G := g h
def bcost (n : Nat) : Nat := 4 * (n + 1)
def spBent (K : PySem.W.Frag) : Nat → Sp
  | 0 => fun _ _ _ _ => False
  | n + 1 => fun vs H Q _ => ∃ (t c : Addr) (v : V) (d : PyData) (b : Nat), vs = [.ref t, v] ∧ Da t H v d ∧ Vl n d ∧ Tape K H t c (b + bcost n) ∧ ∀ (H' : Hp) (v' : V) (d' : PyData), Ext t H H' → Tape K H' t c b → Da t H' v' d' → Bd n d' → Q v' H'
theorem ok_bent {n : Nat} {f : Addr} {fd : FuncData} (F : Fun K "_law_bent" "_law_bent" s__law_bent f fd) (B : Bl mg) (D__law_draw : Kn P w K mg base 1 "_law_draw" ["_law_tape", "_law_many"] (spDraw K)) (D__law_pick : Kn P w K mg base 2 "_law_pick" ["_law_tape", "_law_items"] (spPick K))
    (D__law_odd_value : Kn P w K mg base 3 "_law_odd_value" ["_law_tape"] (spOdd K)) (D__law_bent : Kn P w K mg base (n + 3) "_law_bent" ["_law_tape", "_law_thing"] (spBent K n)) : FnOk P w K mg base CX0 (n + 4) f fd ["_law_tape", "_law_thing"] (spBent K (n + 1)) := by
  refine F.ok sc__law_bent (fun vs H Q E h => ?_) (fun cdv A outer s H vs Q E hr h => ?_)
  · obtain ⟨t, c, v, d, b, rfl, _⟩ := h
    rfl
  · obtain ⟨t, c, v, d, b, rfl, hd, hv, T, k⟩ := h
    have hr__law_draw : Room 1 _ := hr.mono (by omega)
    have hr__law_pick : Room 2 _ := hr.mono (by omega)
    have hr__law_odd_value : Room 3 _ := hr.mono (by omega)
    have hr__law_bent : Room (n + 3) _ := hr
    have hu64 := hr.units
    have eb : bcost n = 4 * (n + 1) := rfl
    refine ⟨_, (pss_cons (ps_if (PW.pt (pw_and (pt_cmpR op_eq (pe_ix ix_tup (pv 1) pe_int (fun _ _ => rfl)) pe_str (nomark _)) (pw_and (pt_cmpR (op_neNil hu64) (pe_ix ix_tup (pv 1) pe_int (fun _ _ => rfl)) (pe_tup pa_nil) (nomark _)) (pw_and1 (pt_cmpR op_gt (pe_kn D__law_draw hr__law_draw (pa_cons (pv 0) (pa_cons pe_int pa_nil))) pe_int (nomark _))))))
  (pss_cons (ps_set (i := 2) sc__law_bent.nd rfl (Or.inl rfl) (pe_kn D__law_draw hr__law_draw (pa_cons (pv 0) (pa_cons (pe_callB call_len (by rfl) B.len PySem.boot_len (pa_cons (pe_ix ix_tup (pv 1) pe_int (fun _ _ => rfl)) pa_nil)) pa_nil))))
  (pss_one (ps_ret (pe_tup (pa_cons pe_str (pa_cons (pe_ix ix_tup (pv 1) pe_int (fun _ _ => rfl)) (pa_cons (pe_op op_catA (pe_op op_catA (pe_slice sl_tupA (pe_ix ix_tup (pv 1) pe_int (fun _ _ => rfl)) po_none (po_some (pv 2))) (pe_tup (pa_cons (pe_kn D__law_bent hr__law_bent (pa_cons (pv 0) (pa_cons (pe_ix ix_tup (pe_ix ix_tup (pv 1) pe_int (fun _ _ => rfl)) (pv 2) (fun _ _ => rfl)) pa_nil))) pa_nil))) (pe_slice sl_tupA (pe_ix ix_tup (pv 1) pe_int (fun _ _ => rfl)) (po_some (pe_op op_add (pv 2) pe_int)) po_none)) pa_nil)))))))
  pss_nil)
  (pss_cons (ps_if (PW.pt (pw_and (pt_cmpR op_eq (pe_ix ix_tup (pv 1) pe_int (fun _ _ => rfl)) pe_str (nomark _)) (pw_and1 (pt_cmpR op_eq (pe_kn D__law_draw hr__law_draw (pa_cons (pv 0) (pa_cons pe_int pa_nil))) pe_int (nomark _)))))
  (pss_one (ps_ret (pe_kn D__law_pick hr__law_pick (pa_cons (pv 0) (pa_cons (pe_lst (pa_cons (pe_tup (pa_cons pe_str (pa_cons (pe_ix ix_tup (pv 1) pe_int (fun _ _ => rfl)) (pa_cons (pe_callTy call_listN (by rfl) B.list (by decide +kernel) (pa_cons (pe_ix ix_tup (pv 1) pe_int (fun _ _ => rfl)) pa_nil)) pa_nil)))) (pa_cons (pe_lstN (pa_cons pe_str (pa_cons (pe_ix ix_tup (pv 1) pe_int (fun _ _ => rfl)) (pa_cons (pe_ix ix_tup (pv 1) pe_int (fun _ _ => rfl)) pa_nil)))) (pa_cons (pe_op op_catA (pv 1) (pe_tup (pa_cons (pe_tup pa_nil) pa_nil))) (pa_cons (pe_slice sl_tupA (pv 1) po_none (po_some pe_int)) pa_nil))))) pa_nil)))))
  pss_nil)
  (pss_one (ps_ret (pe_kn D__law_odd_value hr__law_odd_value (pa_cons (pv 0) pa_nil)))))), ?_⟩
    have odd : ∀ {H1 : Hp}, Ext t H H1 → Tape K H1 t c (b + 1) → spOdd K [.ref t] H1 Q E0 := fun e1 T1 => ⟨t, c, b, rfl, T1, fun H' v' d' e' T' dv hm => by
      obtain ⟨o1, o2, o3⟩ := odds_bd _ hm
      exact k H' v' d' (e1.trans e') T' dv (bd_flat o1 o2 o3)⟩
    cases hv with
    | whole i =>
      cases id hd with
      | tup ga da =>
        cases da with
        | cons q1 t1 =>
          cases q1
          cases t1 with
          | cons q2 t2 =>
          cases t2
          refine ⟨_, rfl, _, _, 0, .str "whole", rfl, rfl, SqT.of ga, rfl, rfl, _, rfl, ?_⟩
          refine iF rfl ?_
          refine ⟨_, rfl, _, _, 0, .str "whole", rfl, rfl, SqT.of ga, rfl, rfl, _, rfl, ?_⟩
          refine iF rfl ?_
          exact ⟨_, rfl, odd (Ext.refl _ _) (T.less (by omega))⟩
    | text x hx =>
      cases id hd with
      | tup ga da =>
        cases da with
        | cons q1 t1 =>
          cases q1
          cases t1 with
          | cons q2 t2 =>
          cases t2
          refine ⟨_, rfl, _, _, 0, .str "text", rfl, rfl, SqT.of ga, rfl, rfl, _, rfl, ?_⟩
          refine iF rfl ?_
          refine ⟨_, rfl, _, _, 0, .str "text", rfl, rfl, SqT.of ga, rfl, rfl, _, rfl, ?_⟩
          refine iF rfl ?_
          exact ⟨_, rfl, odd (Ext.refl _ _) (T.less (by omega))⟩
    | func =>
      cases id hd with
      | tup ga da =>
        cases da with
        | cons q1 t1 =>
          cases q1
          cases t1
          refine ⟨_, rfl, _, _, 0, .str "function", rfl, rfl, SqT.of ga, rfl, rfl, _, rfl, ?_⟩
          refine iF rfl ?_
          refine ⟨_, rfl, _, _, 0, .str "function", rfl, rfl, SqT.of ga, rfl, rfl, _, rfl, ?_⟩
          refine iF rfl ?_
          exact ⟨_, rfl, odd (Ext.refl _ _) (T.less (by omega))⟩
    | made m x ds hx hl hv =>
      cases id hd with
      | @tup a _ _ ga da =>
        cases da with
        | cons q1 t1 =>
          cases q1
          cases t1 with
          | cons q2 t2 =>
            cases q2
            cases t2 with
            | cons q3 t3 =>
              cases t3
              cases q3 with
              | @tup a3 ys _ g3 d3 =>
                have l3 := d3.len
                refine ⟨_, rfl, _, _, 0, _, rfl, rfl, SqT.of ga, rfl, rfl, _, rfl, ?_⟩
                refine iT rfl ?_
                refine ⟨_, rfl, _, _, 2, _, rfl, rfl, SqT.of ga, rfl, slz rfl, fun p hp => ?_⟩
                have s1 := same_new (o := .tup []) hp
                have g1 : (upd H p (.tup [])) p = some (.tup []) := upd_same
                change rNeNil _ _ (upd H p (.tup [])) _
                generalize upd H p (.tup []) = H1 at s1 g1 ⊢
                have T1 := T.same s1
                refine ⟨a3, p, ys, rfl, rfl, s1 _ _ g3, g1, _, rfl, ?_⟩
                have hvd := Vl.made m x ds hx hl hv
                have le3 : ys.length ≤ 3 := by omega
                -- the second if, from any later heap
                refine' key_two (K := K) (t := t) (c := c) (b := b + 2) (H := H) (fun h => ?_) (fun H2 e2 T2 => ?_)
                rotate_left
                · cases hy : ys.isEmpty with
                  | true => exact iF rfl (iF rfl (h H1 (same_ext s1) (T1.less (by omega))))
                  | false =>
                    refine iT rfl ?_
                    refine ⟨_, rfl, t, c, 3, b + 3 + 4 * (m + 1), rfl, by decide, by decide, T1.less (by omega), fun H2 r e2 T2 r1 r2 => ⟨_, _, rfl, rfl, _, rfl, ?_⟩⟩
                    have E2 := (same_ext s1).trans e2
                    by_cases c0 : 0 < r
                    · refine iT (decide_eq_true c0) ?_
                      have lx : 1 ≤ ys.length := by
                        cases ys with
                        | nil => cases hy
                        | cons _ _ => simp
                      have K2 := kp_ext E2 T
                      refine ⟨_, rfl, _, rfl, _, _, 2, _, rfl, rfl, SqT.of (K2.u _ _ ga), rfl, .ref a3, ys.length, rfl, .inr ⟨ys, SqT.of (K2.u _ _ g3), rfl⟩, t, c, (ys.length : Int), b + 2 + 4 * (m + 1), rfl, by omega, by omega, T2.less (by omega), fun H3 at' e3 T3 a1 a2 => ?_⟩
                      obtain ⟨l, y, r', dl, dx, dr, rfl, rfl, el, q1, q2, q3⟩ := daAll_split at'.toNat (by omega) d3
                      obtain rfl : at' = (l.length : Int) := by omega
                      have E3 := E2.trans e3
                      have K3 := kp_ext E3 T
                      have atx : atI (l ++ y :: r') (l.length : Int) = some y := at_ofG rfl (by simp)
                      have hdx : Vl m dx := hv dx (by simp)
                      refine ⟨_, rfl, _, _, 1, _, rfl, rfl, SqT.of (K3.u _ _ ga), rfl, ?_⟩
                      refine ⟨_, rfl, _, _, 2, _, rfl, rfl, SqT.of (K3.u _ _ ga), rfl, _, rfl, _, rfl, slA_ok (K3.u _ _ g3) fun H5 p5 s5 g5 => ?_⟩
                      rw [cut_front] at g5
                      have T5 := T3.same s5
                      have K5 := kp_ext (E3.trans (same_ext s5)) T
                      refine ⟨_, rfl, _, rfl, _, _, 2, _, rfl, rfl, SqT.of (K5.u _ _ ga), rfl, _, rfl, _, _, _, _, rfl, rfl, SqT.of (K5.u _ _ g3), atx, t, c, y, dx, b, rfl, q2.kp K5, hdx, T5.less (by unfold bcost; omega), fun H6 v6 d6 E6 T6 da6 bd6 => ?_⟩
                      refine ⟨slz rfl, fun q7 hq7 => ?_⟩
                      have s7 := same_new (o := .tup [v6]) hq7
                      have g7 : (upd H6 q7 (.tup [v6])) q7 = some (.tup [v6]) := upd_same
                      generalize upd H6 q7 (.tup [v6]) = H7 at s7 g7 ⊢
                      have E7 := (E3.trans (same_ext s5)).trans (E6.trans (same_ext s7))
                      have K7 := kp_ext E7 T
                      have g5' := s7 _ _ ((kp_ext E6 T5).u _ _ g5)
                      have ll : l.length + r'.length ≤ 2 := by
                        rw [List.length_append, List.length_cons] at le3
                        omega
                      refine catA_ok g5' g7 (by show _ + 1 ≤ _; omega) fun H8 p8 s8 g8 => ?_
                      refine ⟨_, rfl, _, _, 2, _, rfl, rfl, SqT.of (s8 _ _ (K7.u _ _ ga)), rfl, _, rfl, _, _, rfl, rfl, _, rfl, ?_⟩
                      unfold tNoPart
                      refine slA_ok (s8 _ _ (K7.u _ _ g3)) fun H9 p9 s9 g9 => ?_
                      rw [cut_back] at g9
                      refine catA_ok (s9 _ _ g8) g9 (by rw [List.length_append]; show _ + 1 + _ ≤ _; omega) fun H10 p10 s10 g10 => ?_
                      refine ⟨slz rfl, fun q hq => ?_⟩
                      have s11 := same_new (o := .tup [.str "made", .str x, .ref p10]) hq
                      have S11 := s8.trans (s9.trans (s10.trans s11))
                      have E11 := E7.trans (same_ext S11)
                      have K11 := kp_ext E11 T
                      have da := ((q1.kp K11).app (.cons (da6.kp (kp_same (s7.trans S11))) .nil)).app (q3.kp K11)
                      refine k _ _ (.tuple [.str "made", .str x, .tuple (dl ++ [d6] ++ dr)]) E11 (T6.same (s7.trans S11)) (.tup upd_same (.cons (.str _) (.cons (.str _) (.cons (.tup (s11 _ _ g10) da) .nil)))) (Bd.made hx ?_ fun d md => ?_)
                      · rw [List.length_append, List.length_cons] at hl
                        rw [List.length_append, List.length_append]
                        show _ + 1 + _ ≤ 3
                        omega
                      · simp only [List.mem_append, List.mem_singleton] at md
                        rcases md with (md | rfl) | md
                        · exact (hv d (by simp [md])).bd
                        · exact bd6
                        · exact (hv d (by simp [md])).bd
                    · exact iF (decide_eq_false c0) (h H2 E2 (T2.less (by omega)))
                · have K2 := kp_ext e2 T
                  refine ⟨_, rfl, _, _, 0, .str "made", rfl, rfl, SqT.of (K2.u _ _ ga), rfl, rfl, _, rfl, ?_⟩
                  refine iT rfl ?_
                  refine ⟨_, rfl, t, c, 3, b + 1, rfl, by decide, by decide, T2.less (by omega), fun H3 r e3 T3 r1 r2 => ⟨rfl, _, rfl, ?_⟩⟩
                  have E3 := e2.trans e3
                  have K3 := kp_ext E3 T
                  by_cases c0 : r = 0
                  · subst c0
                    refine iT rfl ?_
                    refine ⟨_, rfl, _, rfl, _, _, 1, _, rfl, rfl, SqT.of (K3.u _ _ ga), rfl, ?_⟩
                    refine ⟨_, rfl, _, _, 2, _, rfl, rfl, SqT.of (K3.u _ _ ga), rfl, _, ys, rfl, SqT.of (K3.u _ _ g3), fun l1 hl1 nl1 => ⟨slz rfl, fun p1 hp1 => ?_⟩⟩
                    have s4 : Same H3 (upd (upd H3 l1 (.lst ys)) p1 (.tup [.str "made", .str x, .ref l1])) := (same_new hl1).trans (same_new hp1)
                    have gl1 : (upd (upd H3 l1 (.lst ys)) p1 (.tup [.str "made", .str x, .ref l1])) l1 = some (.lst ys) := by
                      rw [upd_ne (ne_of_none upd_same hp1)]
                      exact upd_same
                    have gp1 : (upd (upd H3 l1 (.lst ys)) p1 (.tup [.str "made", .str x, .ref l1])) p1 = some (.tup [.str "made", .str x, .ref l1]) := upd_same
                    change tCons _ _ _ (upd (upd H3 l1 (.lst ys)) p1 (.tup [.str "made", .str x, .ref l1])) _
                    generalize upd (upd H3 l1 (.lst ys)) p1 (.tup [.str "made", .str x, .ref l1]) = H4 at s4 gl1 gp1 ⊢
                    have K4 := kp_ext (E3.trans (same_ext s4)) T
                    refine ⟨_, rfl, _, _, 1, _, rfl, rfl, SqT.of (K4.u _ _ ga), rfl, ?_⟩
                    refine ⟨_, rfl, _, _, 2, _, rfl, rfl, SqT.of (K4.u _ _ ga), rfl, slz rfl, fun l2 hl2 nl2 => ?_⟩
                    have s5 := same_new (o := .lst [.str "made", .str x, .ref a3]) hl2
                    have gl2 : (upd H4 l2 (.lst [.str "made", .str x, .ref a3])) l2 = some (.lst [.str "made", .str x, .ref a3]) := upd_same
                    change tCons _ _ _ (upd H4 l2 (.lst [.str "made", .str x, .ref a3])) _
                    generalize upd H4 l2 (.lst [.str "made", .str x, .ref a3]) = H5 at s5 gl2 ⊢
                    have K5 := kp_ext (E3.trans (same_ext (s4.trans s5))) T
                    refine ⟨_, rfl, slz rfl, fun e1 he1 => ⟨slz rfl, fun e2 he2 => ?_⟩⟩
                    have s6 : Same H5 (upd (upd H5 e1 (.tup [])) e2 (.tup [.ref e1])) := (same_new he1).trans (same_new he2)
                    have ge1 : (upd (upd H5 e1 (.tup [])) e2 (.tup [.ref e1])) e1 = some (.tup []) := by
                      rw [upd_ne (ne_of_none upd_same he2)]
                      exact upd_same
                    have ge2 : (upd (upd H5 e1 (.tup [])) e2 (.tup [.ref e1])) e2 = some (.tup [.ref e1]) := upd_same
                    change rCatA _ _ _ (upd (upd H5 e1 (.tup [])) e2 (.tup [.ref e1])) _
                    generalize upd (upd H5 e1 (.tup [])) e2 (.tup [.ref e1]) = H6 at s6 ge1 ge2 ⊢
                    have K6 := kp_ext (E3.trans (same_ext (s4.trans (s5.trans s6)))) T
                    refine catA_ok (K6.u _ _ ga) ge2 (by show 3 + 1 ≤ 900000; decide) fun H7 p7 s7 g7 => ?_
                    have K7 := kp_ext (E3.trans (same_ext (s4.trans (s5.trans (s6.trans s7))))) T
                    refine ⟨_, rfl, _, rfl, slA_ok (K7.u _ _ ga) fun H8 p8 s8 g8 => ?_⟩
                    have g8 : H8 p8 = some (.tup [.str "made", .str x]) := g8
                    refine ⟨slz rfl, fun lp hlp => ?_⟩
                    have s9 := same_new (o := .lst [.ref p1, .ref l2, .ref p7, .ref p8]) hlp
                    have gp : (upd H8 lp (.lst [.ref p1, .ref l2, .ref p7, .ref p8])) lp = some (.lst [.ref p1, .ref l2, .ref p7, .ref p8]) := upd_same
                    generalize upd H8 lp (.lst [.ref p1, .ref l2, .ref p7, .ref p8]) = H9 at s9 gp ⊢
                    have S9 := s4.trans (s5.trans (s6.trans (s7.trans (s8.trans s9))))
                    have T9 := T3.same S9
                    have E9 := E3.trans (same_ext S9)
                    have K9 := kp_ext E9 T
                    have d9 := d3.kp K9
                    have q1 : Da t H9 (.ref p1) (.tuple [.str "made", .str x, .list ds]) := .tup (s9 _ _ (s8 _ _ (s7 _ _ (s6 _ _ (s5 _ _ gp1))))) (.cons (.str _) (.cons (.str _) (.cons (.lst (s9 _ _ (s8 _ _ (s7 _ _ (s6 _ _ (s5 _ _ gl1))))) nl1 d9) .nil)))
                    have q2 : Da t H9 (.ref l2) (.list [.str "made", .str x, .tuple ds]) := .lst (s9 _ _ (s8 _ _ (s7 _ _ (s6 _ _ gl2)))) nl2 (.cons (.str _) (.cons (.str _) (.cons (.tup (K9.u _ _ g3) d9) .nil)))
                    have q3 : Da t H9 (.ref p7) (.tuple [.str "made", .str x, .tuple ds, .tuple []]) := .tup (s9 _ _ (s8 _ _ g7)) (.cons (.str _) (.cons (.str _) (.cons (.tup (K9.u _ _ g3) d9) (.cons (.tup (s9 _ _ (s8 _ _ (s7 _ _ ge1))) .nil) .nil))))
                    have q4 : Da t H9 (.ref p8) (.tuple [.str "made", .str x]) := .tup (s9 _ _ g8) (.cons (.str _) (.cons (.str _) .nil))
                    obtain ⟨w1, w2, w3⟩ := hvd.bd
                    rw [psz_three] at w2
                    rw [depth_three] at w3
                    have h5 : 1 ≤ 4 ^ (m + 1) := Nat.one_le_pow _ _ (by decide)
                    have hp4 : 100 * 4 ^ (m + 1) = 300 * 4 ^ m + 100 * 4 ^ m := by
                      rw [Nat.pow_succ]
                      omega
                    have h6 : 1 ≤ 4 ^ m := Nat.one_le_pow _ _ (by decide)
                    have w4 : pszL ds ≤ 300 * 4 ^ m := by
                      have z := pszL_bd fun d md => (hv d md).bd.2.1
                      have z2 : ds.length * (100 * 4 ^ m) ≤ 3 * (100 * 4 ^ m) := Nat.mul_le_mul_right _ hl
                      omega
                    refine ⟨t, c, lp, _, b, rfl, SqL.of gp, by show 0 < 4; decide, by show 4 < 1000000; decide, T9, fun H' v' e' T' hv' => ?_⟩
                    have K' := kp_ext e' T9
                    simp only [List.mem_cons, List.not_mem_nil, or_false] at hv'
                    rcases hv' with rfl | rfl | rfl | rfl
                    · exact k H' _ _ (E9.trans e') T' (q1.kp K') ⟨by simp only [okV, hdOk, okVT, okVE, isHead_made.1, hx]; rfl, by simp only [psz, pszL]; omega, by simp only [PyData.depth, PyData.depthAll]; omega⟩
                    · exact k H' _ _ (E9.trans e') T' (q2.kp K') ⟨by simp only [okV], by simp only [psz]; omega, by simp only [PyData.depth, PyData.depthAll]; omega⟩
                    · exact k H' _ _ (E9.trans e') T' (q3.kp K') ⟨by simp only [okV, hdOk, okVT, isHead_made.1]; rfl, by simp only [psz, pszL]; omega, by simp only [PyData.depth, PyData.depthAll]; omega⟩
                    · exact k H' _ _ (E9.trans e') T' (q4.kp K') ⟨by simp only [okV, hdOk, okVT, isHead_made.1, hx]; rfl, by simp only [psz, pszL]; omega, by simp only [PyData.depth, PyData.depthAll]; omega⟩
                  · refine iF (decide_eq_false (fun z => c0 (by injection z))) ?_
                    exact ⟨_, rfl, odd E3 T3⟩
theorem bent_all {f : Addr} {fd : FuncData} (F : Fun K "_law_bent" "_law_bent" s__law_bent f fd) (hm : mg "_law_bent" = some (.ref f)) (B : Bl mg) (D__law_draw : Kn P w K mg base 1 "_law_draw" ["_law_tape", "_law_many"] (spDraw K)) (D__law_pick : Kn P w K mg base 2 "_law_pick" ["_law_tape", "_law_items"] (spPick K))
    (D__law_odd_value : Kn P w K mg base 3 "_law_odd_value" ["_law_tape"] (spOdd K)) : ∀ n, Kn P w K mg base (n + 3) "_law_bent" ["_law_tape", "_law_thing"] (spBent K n)
  | 0 => ⟨f, fd, ⟨fun _ _ _ _ h => h.elim, fun _ _ _ _ _ _ _ _ _ _ _ _ _ h => h.elim⟩, hm, F.kp, F.binds fun _ _ _ _ _ _ us hl => match us, hl with | [_, _], _ => rfl⟩
  | n + 1 => ⟨f, fd, ok_bent F B D__law_draw D__law_pick D__law_odd_value (bent_all F hm B D__law_draw D__law_pick D__law_odd_value n), hm, F.kp, F.binds fun _ _ _ _ _ _ us hl => match us, hl with | [_, _], _ => rfl⟩
theorem some_all {f : Addr} {fd : FuncData} (F : Fun K "_law_some_value" "_law_some_value" s__law_some_value f fd) (hm : mg "_law_some_value" = some (.ref f)) (B : Bl mg) (D__law_draw : Kn P w K mg base 1 "_law_draw" ["_law_tape", "_law_many"] (spDraw K)) (D__law_pick : Kn P w K mg base 2 "_law_pick" ["_law_tape", "_law_items"] (spPick K)) : ∀ n, Kn P w K mg base (n + 2) "_law_some_value" ["_law_tape", "_law_deep"] (spSome K n)
  | 0 => ⟨f, fd, ⟨fun _ _ _ _ h => h.elim, fun _ _ _ _ _ _ _ _ _ _ _ _ _ h => h.elim⟩, hm, F.kp, F.binds fun _ _ _ _ _ _ us hl => match us, hl with | [_, _], _ => rfl⟩
  | n + 1 => ⟨f, fd, ok_some F B D__law_draw D__law_pick (some_all F hm B D__law_draw D__law_pick n), hm, F.kp, F.binds fun _ _ _ _ _ _ us hl => match us, hl with | [_, _], _ => rfl⟩
theorem meas_all {f : Addr} {fd : FuncData} (F : Fun K "_law_measured" "_law_measured" s__law_measured f fd) (hm : mg "_law_measured" = some (.ref f)) (B : Bl mg) (B9 : Bl9 mg) (B5 : Bl5 mg) (D__law_is_name : Kn P w K mg base 1 "_law_is_name" ["_law_thing"] spLN)
    (D__law_is_plain : KnG P w K mg base 1 "_law_is_plain" spPlain) : ∀ n, KnG P w K mg base (n + 1) "_law_measured" (spMeas n)
  | 0 => ⟨f, fun _ _ _ _ _ _ _ _ _ _ _ h => h.elim, hm, F.kp⟩
  | n + 1 => ⟨f, gok_meas n F (F.binds fun _ _ _ _ _ _ us hl => match us, hl with | [_], _ => rfl) B B9 B5 D__law_is_name D__law_is_plain (meas_all F hm B B9 B5 D__law_is_name D__law_is_plain n), hm, F.kp⟩
end
end L3

namespace L3
open PySem L2
def dRow (n : Nat) : List PyData := (List.range n).map fun (k : Nat) => .tuple [.str "whole", .int (k : Int)]
def dIn (n : Nat) : PyData := .tuple [.str "made", .str "row", .tuple (dRow n)]
theorem dRow_succ (n : Nat) : dRow (n + 1) = dRow n ++ [.tuple [.str "whole", .int (n : Int)]] := by
  unfold dRow
  rw [List.range_succ, List.map_append]
  rfl
theorem dRow_pur (n : Nat) : purL (dRow n) = true := by
  induction n with
  | zero => simp only [dRow, List.range_zero, List.map_nil, purL]
  | succ n ih =>
    rw [dRow_succ, purL_app, ih]
    simp only [purL, pur]
    rfl
theorem dRow_mem {n : Nat} {d : PyData} (h : d ∈ dRow n) : okV d = true ∧ psz d = 3 ∧ d.depth = 1 := by
  obtain ⟨k, _, rfl⟩ := List.mem_map.mp h
  refine ⟨by simp only [okV, hdOk, okVT, isHead_made.2.1, okS]; rfl, by simp only [psz, pszL], by simp [PyData.depth, PyData.depthAll]⟩
theorem dRow_len (n : Nat) : (dRow n).length = n := by
  unfold dRow
  rw [List.length_map, List.length_range]
theorem dIn_pur (n : Nat) : pur (dIn n) = true := by
  simp only [dIn, pur, purL, dRow_pur, Bool.and_true]
theorem dIn_ok (n : Nat) : okV (dIn n) = true ∧ psz (dIn n) ≤ 4 + 3 * n ∧ (dIn n).depth ≤ 3 := by
  refine ⟨okV_made (by decide +kernel) (okVL_all fun d m => (dRow_mem m).1), ?_, ?_⟩
  · have := pszL_bd (k := 3) fun d (m : d ∈ dRow n) => Nat.le_of_eq (dRow_mem m).2.1
    rw [dRow_len] at this
    unfold dIn
    rw [psz_three]
    omega
  · have := depthAll_bd (k := 1) fun d (m : d ∈ dRow n) => Nat.le_of_eq (dRow_mem m).2.2
    unfold dIn
    rw [depth_three]
    omega
def dAll (q n m : Nat) : List PyData := List.replicate q (dIn n) ++ List.replicate m (.tuple [.str "function"])
theorem fun_ok : okV (.tuple [.str "function"]) = true ∧ psz (.tuple [.str "function"]) = 2 ∧ (PyData.tuple [.str "function"]).depth = 1 ∧ pur (.tuple [.str "function"]) = true := by
  refine ⟨by simp only [okV, hdOk, okVT, isHead_made.2.2.2]; rfl, by simp only [psz, pszL], by simp [PyData.depth, PyData.depthAll], by simp only [pur, purL]; rfl⟩
theorem dAll_pur (q n m : Nat) : purL (dAll q n m) = true := by
  unfold dAll
  rw [purL_app, purL_rep (dIn_pur n), purL_rep fun_ok.2.2.2]
  rfl
theorem dAll_ok {q n m : Nat} (h : q * (n + 1) ≤ 1001) (hm : m ≤ 40) : okV (.tuple [.str "made", .str "all", .tuple (dAll q n m)]) = true ∧ psz (.tuple [.str "made", .str "all", .tuple (dAll q n m)]) ≤ 5000 ∧ (PyData.tuple [.str "made", .str "all", .tuple (dAll q n m)]).depth ≤ 6 := by
  obtain ⟨i1, i2, i3⟩ := dIn_ok n
  obtain ⟨f1, f2, f3, _⟩ := fun_ok
  refine ⟨okV_made (by decide +kernel) (okVL_all fun d md => ?_), ?_, ?_⟩
  · rcases List.mem_append.mp md with md | md
    · rw [(List.mem_replicate.mp md).2]
      exact i1
    · rw [(List.mem_replicate.mp md).2]
      exact f1
  · have h1 := pszL_bd (k := 4 + 3 * n) fun d (md : d ∈ List.replicate q (dIn n)) => by rw [(List.mem_replicate.mp md).2]; exact i2
    have h2 := pszL_bd (k := 2) fun d (md : d ∈ List.replicate m (PyData.tuple [.str "function"])) => by rw [(List.mem_replicate.mp md).2]; exact Nat.le_of_eq f2
    rw [List.length_replicate] at h1 h2
    rw [psz_three]
    unfold dAll
    rw [pszL_app]
    have h3 : q * (4 + 3 * n) ≤ 4 * (q * (n + 1)) := by
      rw [Nat.mul_add, Nat.mul_add, Nat.mul_left_comm q 3 n]
      omega
    omega
  · rw [depth_three]
    have := depthAll_bd (k := 3) fun d (md : d ∈ dAll q n m) => by
      rcases List.mem_append.mp md with md | md
      · rw [(List.mem_replicate.mp md).2]
        exact i3
      · rw [(List.mem_replicate.mp md).2]
        omega
    omega
section
variable {P : Program} {w : World} {K : PySem.W.Frag} {mg : Str → Option Value} {base : Heap}
abbrev s__law_great : Stmt := topS 27
abbrev N__law_great : List Str := ["_law_tape", "_law_many", "_law_row", "_law_k", "_law_inner", "_law_found"]
theorem sc__law_great : FnScope N__law_great ["_law_tape"] (defScope s__law_great) := ⟨rfl, rfl, rfl, by decide +kernel, rfl, by decide +kernel, by decide +kernel⟩
def spGreat (K : PySem.W.Frag) : Sp := fun vs H Q _ => ∃ (t c : Addr) (b : Nat), vs = [.ref t] ∧ Tape K H t c (b + 300) ∧ ∀ (H' : Hp) (v : V) (d : PyData), Ext t H H' → Tape K H' t c b → Da t H' v d → okV d = true → psz d ≤ 200000 → d.depth ≤ 206 → Q v H'
theorem ok_great {f : Addr} {fd : FuncData} (F : Fun K "_law_great" "_law_great" s__law_great f fd) (B : Bl mg) (D__law_draw : Kn P w K mg base 1 "_law_draw" ["_law_tape", "_law_many"] (spDraw K)) (D__law_pick : Kn P w K mg base 2 "_law_pick" ["_law_tape", "_law_items"] (spPick K)) : FnOk P w K mg base CX0 3 f fd ["_law_tape"] (spGreat K) := by
  refine F.ok sc__law_great (fun vs H Q E h => ?_) (fun cdv A outer s H vs Q E hr h => ?_)
  · obtain ⟨t, c, b, rfl, _⟩ := h
    rfl
  · obtain ⟨t, c, b, rfl, T, k⟩ := h
    have hr__law_draw : Room 1 _ := hr.mono (by omega)
    have hr__law_pick : Room 2 _ := hr.mono (by omega)
    refine ⟨_, (pss_cons (ps_if (pt_cmpR op_eq (pe_kn D__law_draw hr__law_draw (pa_cons (pv 0) (pa_cons pe_int pa_nil))) pe_int (nomark _))
  (pss_cons (ps_par (i := 1) (j := 2) (by rfl) sc__law_great.nd rfl rfl (by decide) rfl rfl (pa_cons (pe_op op_add pe_int (pe_kn D__law_draw hr__law_draw (pa_cons (pv 0) (pa_cons pe_int pa_nil)))) (pa_cons (pe_op op_add pe_int (pe_kn D__law_draw hr__law_draw (pa_cons (pv 0) (pa_cons pe_int pa_nil)))) pa_nil)) (by rfl))
  (pss_cons (ps_set (i := 4) sc__law_great.nd rfl (Or.inr rfl) (pe_tup (pa_cons pe_str (pa_cons pe_str (pa_cons (pe_callTy call_tuple_of (by rfl) B.tuple (by decide +kernel) (pa_cons (pe_lc (own := [("_law_k", 3)]) rfl sc__law_great.nd (pi_range1 (by rfl) B.range (pa_cons (pv 2) pa_nil)) (blkOk_by (N := N__law_great) (sc := (defScope s__law_great)) (own := [("_law_k", 3)]) (by decide +kernel)) (fun _ _ _ _ _ => (pg_name (i := 3) sc__law_great.nd rfl (Or.inl rfl))) (fun _ _ _ _ _ => pts_nil) (fun _ _ _ _ _ => (pe_tup (pa_cons pe_str (pa_cons (pv 3) pa_nil))))) pa_nil)) pa_nil)))))
  (pss_cons (ps_setLc (i := 5) (own := [("_law_k", 3)]) rfl sc__law_great.nd rfl rfl (sw_true rfl rfl rfl (by decide +kernel)) (pi_range1 (by rfl) B.range (pa_cons (pe_op op_fdivN (pe_op op_sub (pv 1) pe_int) (pe_op op_add (pv 2) pe_int)) pa_nil)) (blkOk_by (N := N__law_great) (sc := (defScope s__law_great)) (own := [("_law_k", 3)]) (by decide +kernel)) (fun _ _ _ _ _ => (pg_name (i := 3) sc__law_great.nd rfl (Or.inl rfl))) (fun _ _ _ _ _ => pts_nil) (fun _ _ _ _ _ => (pv 4)))
  (pss_one (ps_ret (pe_tup (pa_cons pe_str (pa_cons pe_str (pa_cons (pe_callTy call_tuple_of (by rfl) B.tuple (by decide +kernel) (pa_cons (pe_op op_cat (pv 5) (pe_lc (own := [("_law_k", 3)]) rfl sc__law_great.nd (pi_range1 (by rfl) B.range (pa_cons (pe_op op_mod (pe_callTy call_int1 (by rfl) B.int (by decide +kernel) (pa_cons (pe_op op_sub (pv 1) pe_int) pa_nil)) (pe_op op_add (pv 2) pe_int)) pa_nil)) (blkOk_by (N := N__law_great) (sc := (defScope s__law_great)) (own := [("_law_k", 3)]) (by decide +kernel)) (fun _ _ _ _ _ => (pg_name (i := 3) sc__law_great.nd rfl (Or.inl rfl))) (fun _ _ _ _ _ => pts_nil) (fun _ _ _ _ _ => (pe_tup (pa_cons pe_str pa_nil))))) pa_nil)) pa_nil)))))))))
  pss_nil)
  (pss_cons (ps_set (i := 5) sc__law_great.nd rfl (Or.inl rfl) (pe_kn D__law_pick hr__law_pick (pa_cons (pv 0) (pa_cons (pl_lstL (t := t) (pl_cons (pl_tup (pl_cons (pl_c pe_str fun _ => .str _) (pl_cons (pl_c pe_int fun _ => .int _) pl_nil))) (pl_cons (pl_tup (pl_cons (pl_c pe_str fun _ => .str _) (pl_cons (pl_c pe_str fun _ => .str _) (pl_cons (pl_tup pl_nil) pl_nil)))) (pl_cons (pl_tup (pl_cons (pl_c pe_str fun _ => .str _) pl_nil)) pl_nil)))) pa_nil))))
  (pss_cons (ps_for PassesOwn.never rfl (pi_range1 (by rfl) B.range (pa_cons (pe_op op_add pe_int (pe_kn D__law_draw hr__law_draw (pa_cons (pv 0) (pa_cons pe_int pa_nil)))) pa_nil)) (pg_name (i := 3) sc__law_great.nd rfl (Or.inl rfl))
  (pss_one (ps_set (i := 5) sc__law_great.nd rfl (Or.inl rfl) (pe_tup (pa_cons pe_str (pa_cons pe_str (pa_cons (pe_ifExp (pt_cmpR op_eq (pe_kn D__law_draw hr__law_draw (pa_cons (pv 0) (pa_cons pe_int pa_nil))) pe_int (nomark _)) (pe_tup (pa_cons (pv 5) pa_nil)) (pe_tup (pa_cons (pe_tup (pa_cons pe_str (pa_cons (pv 3) pa_nil))) (pa_cons (pv 5) pa_nil)))) pa_nil)))))))
  (pss_one (ps_ret (pv 5)))))), ?_⟩
    refine ⟨_, rfl, t, c, 2, b + 299, rfl, by decide, by decide, T.less (by omega), fun H1 r e1 T1 r1 r2 => ⟨rfl, _, rfl, ?_⟩⟩
    by_cases c0 : r = 0
    · subst c0
      refine iT rfl ?_
      refine ⟨_, rfl, t, c, 5, b + 298, rfl, by decide, by decide, T1.less (by omega), fun H2 r2 e2 T2 r21 r22 => ⟨_, _, rfl, rfl, ?_⟩⟩
      refine ⟨_, rfl, t, c, 30, b + 297, rfl, by decide, by decide, T2.less (by omega), fun H3 r3 e3 T3 r31 r32 => ⟨_, _, rfl, rfl, ?_⟩⟩
      obtain ⟨R, eR, hR⟩ : ∃ R : Nat, (1 : Int) + r3 = (R : Int) ∧ 1 ≤ R ∧ R ≤ 30 := ⟨(1 + r3).toNat, by omega, by omega, by omega⟩
      obtain ⟨M, eM, hM⟩ : ∃ M : Nat, (998 : Int) + r2 = (M : Int) ∧ 998 ≤ M ∧ M ≤ 1002 := ⟨(998 + r2).toNat, by omega, by omega, by omega⟩
      have E3 := e1.trans (e2.trans e3)
      refine ⟨.int (M : Int), .int (R : Int), ?_, ?_⟩
      · show [V.int (998 + r2), V.int (1 + r3)] = _
        rw [eR, eM]
      refine ⟨_, rfl, _, rfl, by omega, by omega, fun D hD => ?_⟩
      have nD : D ≠ t := T3.ne hD
      refine lc_range (lo := 0) (n := R) (fun j H' => Same H3 H' ∧ ∃ acc, H' D = some (.lst acc) ∧ DaAll t H' acc (dRow j)) ⟨same_new hD, [], upd_same, .nil⟩ (fun j H' hj ⟨s4, acc, g4, d4⟩ => ⟨rfl, ?_⟩) (fun H4 ⟨s4, acc, g4, d4⟩ => ?_)
      · refine ⟨_, rfl, slz rfl, fun p hp => ⟨acc, same_new hp _ _ g4, szl (by rw [d4.len, dRow_len]; omega), fun q o z => ?_, acc ++ [.ref p], upd_same, ?_⟩⟩
        · rw [upd_ne (ne_of_none z hD)]
          exact same_new hp _ _ (s4 _ _ z)
        · have g5 := same_new (o := .tup [.str "whole", .int (0 + (j : Int))]) hp _ _ g4
          rw [dRow_succ]
          refine DaAll.app ((d4.kp (kp_same (same_new hp))).keepU (keep_lst g5) (dRow_pur j)) (.cons (.tup (keep_lst g5 _ _ upd_same) (.cons (.str _) (.cons ?_ .nil))) .nil)
          rw [show (0 : Int) + (j : Int) = (j : Int) by omega]
          exact .int _
      · refine ⟨D, acc, rfl, .inl ⟨SqL.of g4, fun l1 hl1 => ⟨slz rfl, fun p1 hp1 => ?_⟩⟩⟩
        have s5 : Same H4 (upd (upd H4 l1 (.tup acc)) p1 (.tup [.str "made", .str "row", .ref l1])) := (same_new hl1).trans (same_new hp1)
        have dI : Da t (upd (upd H4 l1 (.tup acc)) p1 (.tup [.str "made", .str "row", .ref l1])) (.ref p1) (dIn R) := by
          refine .tup upd_same (.cons (.str _) (.cons (.str _) (.cons (.tup ?_ (d4.kp (kp_same s5))) .nil)))
          rw [upd_ne (ne_of_none upd_same hp1)]
          exact upd_same
        generalize upd (upd H4 l1 (.tup acc)) p1 (.tup [.str "made", .str "row", .ref l1]) = H5 at s5 dI ⊢
        have hq : ((M : Int) - 1).fdiv ((R : Int) + 1) = (((M - 1) / (R + 1) : Nat) : Int) := by
          rw [Int.fdiv_eq_ediv_of_nonneg _ (by omega), show (M : Int) - 1 = ((M - 1 : Nat) : Int) by omega, show (R : Int) + 1 = ((R + 1 : Nat) : Int) by omega, Int.natCast_ediv]
        have hqm : (M - 1) / (R + 1) * (R + 1) ≤ 1001 := by
          have := Nat.div_mul_le_self (M - 1) (R + 1)
          omega
        have hql : (M - 1) / (R + 1) ≤ 1001 := Nat.le_trans (Nat.le_mul_of_pos_right _ (by omega)) hqm
        have hm : ((M : Int) - 1) % ((R : Int) + 1) = (((M - 1) % (R + 1) : Nat) : Int) := by
          rw [show (M : Int) - 1 = ((M - 1 : Nat) : Int) by omega, show (R : Int) + 1 = ((R + 1 : Nat) : Int) by omega, Int.natCast_emod]
        have hml : (M - 1) % (R + 1) ≤ 40 := by
          have := Nat.mod_lt (M - 1) (show 0 < R + 1 by omega)
          omega
        generalize (M - 1) / (R + 1) = q at hq hqm hql
        generalize (M - 1) % (R + 1) = m at hm hml
        refine ⟨_, rfl, _, _, rfl, rfl, _, rfl, _, _, rfl, rfl, _, _, rfl, rfl, ⟨by omega, by omega⟩, (q : Int), ?_, by omega, by omega, fun D2 hD2 => ?_⟩
        · show [V.int (((M : Int) - 1).fdiv ((R : Int) + 1))] = _
          rw [hq]
        refine lc_range (lo := 0) (n := q) (fun j H' => Same H5 H' ∧ H' D2 = some (.lst (List.replicate j (.ref p1)))) ⟨same_new hD2, upd_same⟩ (fun j H' hj ⟨s6, g6⟩ => ⟨rfl, ?_⟩) (fun H6 ⟨s6, g6⟩ => ?_)
        · refine ⟨_, rfl, _, g6, szl (by rw [List.length_replicate]; omega), fun q o z => ?_, ?_⟩
          · rw [upd_ne (ne_of_none z hD2)]
            exact s6 _ _ z
          · rw [upd_same, List.replicate_succ']
        · refine ⟨_, rfl, _, rfl, _, _, rfl, rfl, .inl ⟨_, rfl, _, rfl, _, _, rfl, rfl, _, _, rfl, rfl, (by omega), (m : Int), ?_, by omega, by omega, fun D3 hD3 => ?_⟩⟩
          · show [V.int (((M : Int) - 1) % ((R : Int) + 1))] = _
            rw [hm]
          have n23 : D2 ≠ D3 := ne_of_none g6 hD3
          refine lc_range (lo := 0) (n := m) (fun j H' => Same H6 H' ∧ ∃ acc, H' D3 = some (.lst acc) ∧ DaAll t H' acc (List.replicate j (.tuple [.str "function"]))) ⟨same_new hD3, [], upd_same, .nil⟩ (fun j H' hj ⟨s7, acc7, g7, d7⟩ => ⟨rfl, ?_⟩) (fun H7 ⟨s7, acc7, g7, d7⟩ => ?_)
          · refine ⟨slz rfl, fun p hp => ⟨acc7, same_new hp _ _ g7, szl (by rw [d7.len, List.length_replicate]; omega), fun q o z => ?_, acc7 ++ [.ref p], upd_same, ?_⟩⟩
            · rw [upd_ne (ne_of_none z hD3)]
              exact same_new hp _ _ (s7 _ _ z)
            · have g8 := same_new (o := .tup [.str "function"]) hp _ _ g7
              rw [List.replicate_succ']
              exact DaAll.app ((d7.kp (kp_same (same_new hp))).keepU (keep_lst g8) (purL_rep fun_ok.2.2.2 j)) (.cons (.tup (keep_lst g8 _ _ upd_same) (.cons (.str _) .nil)) .nil)
          · have S7 := s5.trans (s6.trans s7)
            have dA : DaAll t H7 (List.replicate q (.ref p1) ++ acc7) (dAll q R m) := (daAll_rep ((dI.kp (kp_same (s6.trans s7)))) q).app d7
            have lA := dA.len
            refine ⟨D2, D3, _, acc7, rfl, rfl, s7 _ _ g6, g7, by rw [List.length_replicate, d7.len, List.length_replicate, sizeLine_eq]; omega, fun p8 hp8 => ?_⟩
            refine ⟨p8, _, rfl, .inl ⟨SqL.of upd_same, fun l9 hl9 => ⟨slz rfl, fun p9 hp9 => ?_⟩⟩⟩
            have s10 : Same H7 (upd (upd (upd H7 p8 (.lst (List.replicate q (.ref p1) ++ acc7))) l9 (.tup (List.replicate q (.ref p1) ++ acc7))) p9 (.tup [.str "made", .str "all", .ref l9])) := (same_new hp8).trans ((same_new hl9).trans (same_new hp9))
            obtain ⟨o1, o2, o3⟩ := dAll_ok hqm hml
            refine k _ _ _ (E3.trans (same_ext (s4.trans (S7.trans s10)))) ((T3.same (s4.trans (S7.trans s10))).less (by omega)) (.tup upd_same (.cons (.str _) (.cons (.str _) (.cons (.tup ?_ (dA.kp (kp_same s10))) .nil)))) o1 (by omega) (by omega)
            rw [upd_ne (ne_of_none upd_same hp9)]
            exact upd_same
    · refine iF (decide_eq_false (fun z => c0 (by injection z))) ?_
      have hT : ∀ {H' : Hp} {j : Nat}, Tape K H' t c j → ∃ o, H' t = some o := fun T => by
        obtain ⟨_, _, _, h, _⟩ := T
        exact ⟨_, h⟩
      refine ⟨_, rfl, hT T1, fun H2 l vs s2 n2 g2 d2 => ?_⟩
      have T2 := T1.same s2
      refine ⟨t, c, l, vs, b + 298, rfl, SqL.of g2, by rw [d2.len]; decide, by rw [d2.len]; decide, T2.less (by omega), fun H3 v e3 T3 hv => ?_⟩
      obtain ⟨d, hd, dv⟩ := d2.mem hv
      have dv := dv.kp (kp_ext e3 T2)
      have E3 := (e1.trans (same_ext s2)).trans e3
      have hd : okV d = true ∧ pur d = true ∧ psz d ≤ 4 ∧ d.depth ≤ 2 := by
        simp only [List.mem_cons, List.not_mem_nil, or_false] at hd
        rcases hd with rfl | rfl | rfl
        · exact ⟨by simp only [okV, hdOk, okVT, isHead_made.2.1, okS]; rfl, by simp only [pur, purL]; rfl, by simp [psz, pszL], by simp [PyData.depth, PyData.depthAll]⟩
        · exact ⟨okV_made (by decide +kernel) (by simp only [okVL]), by simp only [pur, purL]; rfl, by simp [psz, pszL], by simp [PyData.depth, PyData.depthAll]⟩
        · exact ⟨fun_ok.1, fun_ok.2.2.2, by rw [fun_ok.2.1]; omega, by rw [fun_ok.2.2.1]; omega⟩
      obtain ⟨o1, o2, o3, o4⟩ := hd
      refine ⟨_, rfl, t, c, 4, b + 297, rfl, by decide, by decide, T3.less (by omega), fun H4 r4 e4 T4 r41 r42 => ⟨_, _, rfl, rfl, ?_⟩⟩
      obtain ⟨N, eN, hN⟩ : ∃ N : Nat, (98 : Int) + r4 = (N : Int) ∧ N ≤ 101 := ⟨(98 + r4).toNat, by omega, by omega⟩
      refine ⟨(N : Int), ?_, by omega, by omega, ?_⟩
      · show [V.int (98 + r4)] = _
        rw [eN]
      refine for_range (lo := 0) (n := N) (fun j σ H' => Ext t H H' ∧ Tape K H' t c (b + (150 - j)) ∧ ∃ (v : V) (d : PyData) (v3 : Option V), σ = [some (.ref t), none, none, v3, none, some v] ∧ Da t H' v d ∧ okV d = true ∧ pur d = true ∧ psz d ≤ 4 + 7 * j ∧ d.depth ≤ 2 + 2 * j) ⟨E3.trans e4, T4.less (by omega), v, d, none, rfl, dv.kp (kp_ext e4 T3), o1, o2, by omega, by omega⟩ (fun j σ H5 hj h => ?_) (fun σ H5 h => ?_)
      · obtain ⟨e5, T5, v, d, v3, rfl, dv, o1, o2, o3, o4⟩ := h
        refine ⟨_, rfl, t, c, 2, b + (150 - (j + 1)), rfl, by decide, by decide, T5.less (by omega), fun H6 r6 e6 T6 r61 r62 => ⟨rfl, _, rfl, ?_⟩⟩
        have dv6 := dv.kp (kp_ext e6 T5)
        have E6 := e5.trans e6
        by_cases c6 : r6 = 0
        · subst c6
          refine iT rfl ?_
          refine ⟨_, rfl, slz rfl, fun p hp => ⟨slz rfl, fun p' hp' => ?_⟩⟩
          have s7 : Same H6 (upd (upd H6 p (.tup [v])) p' (.tup [.str "made", .str "on", .ref p])) := (same_new hp).trans (same_new hp')
          refine ⟨E6.trans (same_ext s7), T6.same s7, .ref p', .tuple [.str "made", .str "on", .tuple [d]], _, rfl, .tup upd_same (.cons (.str _) (.cons (.str _) (.cons (.tup ?_ (.cons (dv6.kp (kp_same s7)) .nil)) .nil))), okV_made (by decide +kernel) (by simp only [okVL, o1]; rfl), by simp only [pur, purL, o2]; rfl, by rw [psz_three]; simp only [pszL]; omega, by rw [depth_three]; simp only [PyData.depthAll]; omega⟩
          rw [upd_ne (ne_of_none upd_same hp')]
          exact upd_same
        · refine iF (decide_eq_false (fun z => c6 (by injection z))) ?_
          refine ⟨_, rfl, slz rfl, fun p0 hp0 => ⟨_, rfl, slz rfl, fun p hp => ⟨slz rfl, fun p' hp' => ?_⟩⟩⟩
          have s7 : Same H6 (upd (upd (upd H6 p0 (.tup [.str "whole", .int (0 + (j : Int))])) p (.tup [.ref p0, v])) p' (.tup [.str "made", .str "on", .ref p])) := (same_new hp0).trans ((same_new hp).trans (same_new hp'))
          have g0 : (upd (upd (upd H6 p0 (.tup [.str "whole", .int (0 + (j : Int))])) p (.tup [.ref p0, v])) p' (.tup [.str "made", .str "on", .ref p])) p0 = some (.tup [.str "whole", .int (0 + (j : Int))]) := (same_new hp') _ _ ((same_new hp) _ _ upd_same)
          have gp : (upd (upd (upd H6 p0 (.tup [.str "whole", .int (0 + (j : Int))])) p (.tup [.ref p0, v])) p' (.tup [.str "made", .str "on", .ref p])) p = some (.tup [.ref p0, v]) := (same_new hp') _ _ upd_same
          refine ⟨E6.trans (same_ext s7), T6.same s7, .ref p', .tuple [.str "made", .str "on", .tuple [.tuple [.str "whole", .int (0 + (j : Int))], d]], _, rfl, .tup upd_same (.cons (.str _) (.cons (.str _) (.cons (.tup gp (.cons (.tup g0 (.cons (.str _) (.cons (.int _) .nil))) (.cons (dv6.kp (kp_same s7)) .nil))) .nil))), okV_made (by decide +kernel) (by simp only [okVL, okV, hdOk, okVT, isHead_made.2.1, okS, o1]; rfl), by simp only [pur, purL, o2]; rfl, by rw [psz_three]; simp only [psz, pszL]; omega, by rw [depth_three]; simp only [PyData.depth, PyData.depthAll]; omega⟩
      · obtain ⟨e5, T5, v, d, v3, rfl, dv, o1, o2, o3, o4⟩ := h
        exact ⟨_, rfl, k _ _ _ e5 (T5.less (by omega)) dv o1 (by omega) (by omega)⟩
end
end L3

/-! the law -/
namespace L3
open PySem L2
theorem call_reprW {X : Cx} (hg : X.A.guards = some []) (hu : X.A.units + 64 < cLine) : CallR X (.builtin "repr") (fun xs H Q => ∃ t, rReprV t xs H Q) :=
  fun pins s σ H xs us Q I r ⟨t, h⟩ => call_reprV t hg hu pins s σ H xs us Q I r h
/-- what the law looks at -/
def Lk (d : PyData) : Prop := okV d = true ∧ psz d ≤ 900000 ∧ d.depth ≤ 206
theorem Bd.lk {n : Nat} {d : PyData} (h : Bd n d) (hn : n ≤ 4) : Lk d := by
  obtain ⟨h1, h2, h3⟩ := h
  have : 4 ^ n ≤ 4 ^ 4 := Nat.pow_le_pow_right (by decide) hn
  exact ⟨h1, by omega, by omega⟩
theorem key_val {K : PySem.W.Frag} {t c : Addr} {b : Nat} {H : Hp} {F : Hp → V → Prop} {G : Prop} (g : (∀ H1 v d, Ext t H H1 → Tape K H1 t c b → Da t H1 v d → Lk d → F H1 v) → G)
    (h : ∀ H1 v d, Ext t H H1 → Tape K H1 t c b → Da t H1 v d → Lk d → F H1 v) : G := g h
/-- what the law has found of d stands there -/
def Sz (H : Hp) (v : V) (d : PyData) : Prop := match meas d with
  | none => v = .non
  | some p => ∃ a, v = .ref a ∧ H a = some (.tup [.int (p.1 : Int), .int (p.2 : Int)])
theorem key_due {H : Hp} {d : PyData} {F : Hp → V → Prop} {G : Prop} (g : (∀ H1 v, Same H H1 → Sz H1 v d → F H1 v) → G) (h : ∀ H1 v, Same H H1 → Sz H1 v d → F H1 v) : G := g h
theorem ints_ok : ∀ n : Nat, n < 1001 → PyData.strOk (PyData.int (n : Int)).shown = true ∧ (PyData.int (n : Int)).shown.length ≤ 10 ∧ (n : Int).natAbs.log2 < 1920 := by decide +kernel
theorem meas_of {t : Addr} {H : Hp} {x : V} {d : PyData} {Q : VK} {n : Nat} (h1 : Da t H x d) (h2 : okV d = true) (h3 : d.depth ≤ 2 * n) (h4 : psz d ≤ 900000) (h : ∀ H' v, Same H H' → Sz H' v d → Q v H') : spMeas (n + 1) [x] H Q E0 :=
  ⟨t, x, d, rfl, h1, h2, h3, h4, fun H' s e => h H' _ s (by unfold Sz; rw [e]), fun H' a p s e g => h H' _ s (by unfold Sz; rw [e]; exact ⟨a, rfl, g⟩)⟩
theorem due_of {K : PySem.W.Frag} {σ : St} {H : Hp} {v6 : V} {d : PyData} {Q : VK} (hs : σ[6]? = some (some v6)) (hz : Sz H v6 d) (q : Q (.bl (due d)) H) :
    tAndV (tOp (fun x y H Q => y = V.non ∧ Q (V.bl !decide (x = V.non)) H) (tVar 6) (tC V.non)) (tAndV (tOp (rI0 fun i j => V.bl (decide (i ≤ j))) (tOp (rIxT K) (tVar 6) (tC (V.int 0))) (tC (V.int 1000))) (tOp (rI0 fun i j => V.bl (decide (i ≤ j))) (tOp (rIxT K) (tVar 6) (tC (V.int 1))) (tC (V.int 100)))) σ H Q := by
  unfold Sz at hz
  cases hm : meas d with
  | none =>
    rw [hm] at hz
    have hz : v6 = .non := hz
    have e : due d = false := by
      unfold due
      rw [hm]
    rw [e] at q
    exact ⟨_, hs, rfl, _, rfl, iF (by rw [decide_eq_true hz]; rfl) q⟩
  | some p =>
    rw [hm] at hz
    obtain ⟨az, ez, gz⟩ := (show ∃ a, v6 = .ref a ∧ H a = some (.tup [.int (p.1 : Int), .int (p.2 : Int)]) from hz)
    have ed : due d = (decide (p.1 ≤ 1000) && decide (p.2 ≤ 100)) := by
      unfold due
      rw [hm]
    refine ⟨_, hs, rfl, _, rfl, iT (by rw [decide_eq_false (by rw [ez]; nofun)]; rfl) ?_⟩
    refine ⟨_, hs, az, _, 0, _, ez, rfl, SqT.of gz, rfl, _, _, rfl, rfl, _, rfl, ?_⟩
    by_cases q1 : (p.1 : Int) ≤ 1000
    · refine iT (decide_eq_true q1) ?_
      refine ⟨_, hs, az, _, 1, _, ez, rfl, SqT.of gz, rfl, _, _, rfl, rfl, ?_⟩
      have e : due d = decide ((p.2 : Int) ≤ 100) := by
        rw [ed, decide_eq_true (by omega : p.1 ≤ 1000), Bool.true_and, Bool.eq_iff_iff, decide_eq_true_eq, decide_eq_true_eq]
        omega
      rw [e] at q
      exact q
    · refine iF (decide_eq_false q1) ?_
      rw [ed, decide_eq_false (by omega : ¬ p.1 ≤ 1000)] at q
      exact q
theorem key_b {b : Bool} {F : Bool → Prop} {G : Prop} (g : (∀ c, c = b → F c) → G) (h : ∀ c, c = b → F c) : G := g h
theorem bools_ok : ∀ b : Bool, (PyData.bool b).shown.length ≤ 10 := by decide +kernel
theorem two_shaped {x : Str} (h : PyData.strOk x = true) : SeqAt.shaped (.list [.str x, .str x]) = true := by
  unfold SeqAt.shaped
  rw [Bool.and_eq_true]
  exact ⟨by simp only [PyData.canLay0, PyData.canLayAll0, h]; rfl, decide_eq_true (by simp [PyData.depth, PyData.depthAll])⟩
theorem two_eqv (x : Str) : PyData.eqv (.list [.str x, .str x]) (.list [.str x, .str x]) = true := by
  simp [PyData.eqv, PyData.eqvAll]
section
variable {P : Program} {w : World} {K : PySem.W.Frag} {mg : Str → Option Value} {base : Heap}
abbrev s_law : Stmt := topS 28
abbrev N_law : List Str := ["_law_script", "_law_tape", "_law_turn", "_law_thing", "_law_great_here", "_law_one", "_law_size", "_law_due"]
theorem sc_law : FnScope N_law ["_law_script"] (defScope s_law) := ⟨rfl, rfl, rfl, by decide +kernel, rfl, by decide +kernel, by decide +kernel⟩
def spLaw (K : PySem.W.Frag) : List V → Hp → VK → Prop := fun vs H Q => ∃ (a : Addr) (ns : List Int), vs = [.ref a] ∧ SqL K H a (ns.map V.int) ∧ ∀ H', Q (.bl true) H'
theorem law_run {f : Addr} {fd : FuncData} (F : Fun K "law" "law" s_law f fd) (B : Bl mg) (D__law_begin : Kn P w K mg base 1 "_law_begin" ["_law_script"] (spBegin K))
    (D__law_some_value : Kn P w K mg base 6 "_law_some_value" ["_law_tape", "_law_deep"] (spSome K 4)) (D__law_great : Kn P w K mg base 3 "_law_great" ["_law_tape"] (spGreat K)) (D__law_bent : Kn P w K mg base 8 "_law_bent" ["_law_tape", "_law_thing"] (spBent K 5)) (D__law_odd_value : Kn P w K mg base 3 "_law_odd_value" ["_law_tape"] (spOdd K))
    (D__law_measured : KnG P w K mg base 105 "_law_measured" (spMeas 104)) (D_is_value : Kn P w K mg base 4 "is_value" ["value"] spIsV) (DK_is_value : KnK P w K mg base 4 "is_value" ["value"] spIsV) (D_parts_of : Kn P w K mg base 4 "parts_of" ["value"] spParts) (DK_parts_of : KnK P w K mg base 4 "parts_of" ["value"] spParts) :
    LawRun P w K mg base f fd "_law_script" (spLaw K) := by
  refine lawRun_of F sc_law (k := 110) ⟨rfl, by decide, by decide⟩ (fun cdv s H v Q hr h => ?_)
  obtain ⟨a, ns, h, hS, k⟩ := h
  cases h
  have hgd : (callerA.deeper (PyProof.Rows.envOfC "law" (defScope s_law) s.heap.objs.size f cdv)).guards = some [] := rfl
  have hr__law_begin : Room 1 _ := hr.mono (by decide)
  have hr__law_some_value : Room 6 _ := hr.mono (by decide)
  have hr__law_great : Room 3 _ := hr.mono (by decide)
  have hr__law_bent : Room 8 _ := hr.mono (by decide)
  have hr__law_odd_value : Room 3 _ := hr.mono (by decide)
  have hr__law_measured : Room 105 _ := hr.mono (by decide)
  have hr_is_value : Room 4 _ := hr.mono (by decide)
  have hr_parts_of : Room 4 _ := hr.mono (by decide)
  have hu64 := hr.units
  refine ⟨_, (pss_cons (ps_set (i := 1) sc_law.nd rfl (Or.inl rfl) (pe_kn D__law_begin hr__law_begin (pa_cons (pv 0) pa_nil)))
  (pss_cons (ps_for PassesOwn.never rfl (pi_range1 (by rfl) B.range (pa_cons pe_int pa_nil)) (pg_name (i := 2) sc_law.nd rfl (Or.inl rfl))
  (pss_cons (ps_set (i := 3) sc_law.nd rfl (Or.inl rfl) (pe_kn D__law_some_value hr__law_some_value (pa_cons (pv 1) (pa_cons pe_int pa_nil))))
  (pss_cons (ps_set (i := 4) sc_law.nd rfl (Or.inl rfl) (pe_ifExp (pt_cmpR op_eq (pe_op op_mod (pe_callTy call_int1 (by rfl) B.int (by decide +kernel) (pa_cons (pv 2) pa_nil)) pe_int) pe_int (nomark _)) (pe_kn D__law_great hr__law_great (pa_cons (pv 1) pa_nil)) (pv 3)))
  (pss_one (ps_for PassesOwn.never rfl (pi_list (pe_lst (pa_cons (pv 3) (pa_cons (pe_kn D__law_bent hr__law_bent (pa_cons (pv 1) (pa_cons (pv 3) pa_nil))) (pa_cons (pe_kn D__law_odd_value hr__law_odd_value (pa_cons (pv 1) pa_nil)) (pa_cons (pv 4) pa_nil)))))) (pg_name (i := 5) sc_law.nd rfl (Or.inl rfl))
  (pss_cons (ps_set (i := 6) sc_law.nd rfl (Or.inl rfl) (pe_kg D__law_measured hr__law_measured hgd (pa_cons (pv 5) pa_nil)))
  (pss_cons (ps_set (i := 7) sc_law.nd rfl (Or.inl rfl) (pe_and (pe_cmpR op_notN (pv 6) pe_non (nomark _)) (pe_and (pe_cmpR op_le (pe_ix ix_tup (pv 6) pe_int (fun _ _ => rfl)) pe_int (nomark _)) (pe_one (pe_cmpR op_le (pe_ix ix_tup (pv 6) pe_int (fun _ _ => rfl)) pe_int (nomark _))))))
  (pss_cons (ps_if (PW.pt (pw_or (pt_cmpR op_ne (pe_callB (call_reprW hgd hu64) (by rfl) B.repr (by decide +kernel) (pa_cons (pe_kn D_is_value hr_is_value (pa_cons (pv 5) pa_nil)) pa_nil)) (pe_callB (call_reprW hgd hu64) (by rfl) B.repr (by decide +kernel) (pa_cons (pv 7) pa_nil)) (nomark _)) (pw_or1 (pt_cmpR op_ne (pe_callB (call_reprW hgd hu64) (by rfl) B.repr (by decide +kernel) (pa_cons (pe_knK DK_is_value hr_is_value (pk_cons (pv 5) pk_nil)) pa_nil)) (pe_callB (call_reprW hgd hu64) (by rfl) B.repr (by decide +kernel) (pa_cons (pv 7) pa_nil)) (nomark _)))))
  (pss_one (ps_ret pe_bl))
  pss_nil)
  (pss_one (ps_if (PW.pt (pw_and (pt_val (pv 7)) (pw_and1 (pt_cmpR (op_neD hu64) (pe_lst (pa_cons (pe_callB (call_reprW hgd hu64) (by rfl) B.repr (by decide +kernel) (pa_cons (pe_kn D_parts_of hr_parts_of (pa_cons (pv 5) pa_nil)) pa_nil)) (pa_cons (pe_callB (call_reprW hgd hu64) (by rfl) B.repr (by decide +kernel) (pa_cons (pe_knK DK_parts_of hr_parts_of (pk_cons (pv 5) pk_nil)) pa_nil)) pa_nil))) (pe_op op_rep (pe_lst (pa_cons (pe_callB (call_reprW hgd hu64) (by rfl) B.repr (by decide +kernel) (pa_cons (pe_ix ix_tup (pv 6) pe_int (fun _ _ => rfl)) pa_nil)) pa_nil)) pe_int) (nomark _)))))
  (pss_one (ps_ret pe_bl))
  pss_nil))))))))))
  (pss_one (ps_ret pe_bl)))), ?_⟩
  refine ⟨_, rfl, a, ns, rfl, hS, fun H1 t c s1 nt T1 => ?_⟩
  refine ⟨12, rfl, by decide, by decide, ?_⟩
  refine for_range (lo := 0) (n := 12) (fun i σ H' => ∃ (v2 v3 v4 v5 v6 v7 : Option V), σ = [some (.ref a), some (.ref t), v2, v3, v4, v5, v6, v7] ∧ Tape K H' t c ((12 - i) * 2000)) ⟨_, _, _, _, _, _, rfl, T1.less (by decide)⟩ (fun i σ H2 hi h => ?_) (fun σ H2 h => ?_)
  · obtain ⟨v2, v3, v4, v5, v6, v7, rfl, T2⟩ := h
    have cost : (12 - i) * 2000 = (12 - (i + 1)) * 2000 + 2000 := by omega
    rw [cost] at T2
    generalize (12 - (i + 1)) * 2000 = b at T2 ⊢
    refine ⟨_, rfl, t, c, b + 1000, rfl, T2.less (by simp only [scost]; omega), fun H3 v d e3 T3 dv hv => ?_⟩
    refine' key_val (K := K) (t := t) (c := c) (b := b + 100) (H := H3) (fun h => ?_) (fun H4 v4' d4 e4 T4 dv4 lk4 => ?_)
    rotate_left
    · refine ⟨_, rfl, .inl ⟨_, rfl, _, _, rfl, rfl, (show (0 : Int) < 4 by decide), rfl, _, rfl, ?_⟩⟩
      refine ite2 (fun _ => ?_) (fun _ => ?_)
      · exact ⟨_, rfl, t, c, b + 100, rfl, T3.less (by omega), fun H4 v4 d4 e4 T4 dv4 o1 o2 o3 => h H4 v4 d4 e4 T4 dv4 ⟨o1, by omega, o3⟩⟩
      · exact ⟨_, rfl, h H3 v d (Ext.refl _ _) (T3.less (by omega)) dv (hv.bd.lk (Nat.le_refl 4))⟩
    · have dv4a := dv.kp (kp_ext e4 T3)
      refine ⟨_, rfl, _, rfl, _, rfl, t, c, v, d, b + 50, rfl, dv4a, hv, T4.less (by simp only [bcost]; omega), fun H5 v5' d5 e5 T5 dv5 bd5 => ?_⟩
      refine ⟨_, rfl, t, c, b, rfl, T5.less (by omega), fun H6 v6' d6 e6 T6 dv6 m6 => ?_⟩
      refine ⟨_, rfl, slz rfl, fun lp hlp => ?_⟩
      have s7 := same_new (o := .lst [v, v5', v6', v4']) hlp
      have gp : (upd H6 lp (.lst [v, v5', v6', v4'])) lp = some (.lst [v, v5', v6', v4']) := upd_same
      have T7 := T6.same s7
      have K67 := kp_same (t := t) s7
      have all : ∀ x ∈ [v, v5', v6', v4'], ∃ d, Da t (upd H6 lp (.lst [v, v5', v6', v4'])) x d ∧ Lk d := by
        obtain ⟨w1, w2, w3⟩ := odds_bd _ m6
        intro x hx
        simp only [List.mem_cons, List.not_mem_nil, or_false] at hx
        rcases hx with rfl | rfl | rfl | rfl
        · exact ⟨d, ((dv4a.kp (kp_ext e5 T4)).kp (kp_ext e6 T5)).kp K67, hv.bd.lk (Nat.le_refl 4)⟩
        · exact ⟨d5, (dv5.kp (kp_ext e6 T5)).kp K67, bd5.lk (Nat.le_refl 4)⟩
        · exact ⟨d6, dv6.kp K67, w1, by omega, by omega⟩
        · exact ⟨d4, ((dv4.kp (kp_ext e5 T4)).kp (kp_ext e6 T5)).kp K67, lk4⟩
      refine ⟨lp, rfl, ⟨_, SqL.of gp⟩, ?_⟩
      generalize upd H6 lp (.lst [v, v5', v6', v4']) = H7 at s7 gp T7 all ⊢
      clear K67
      refine for_list (K := K) (a := lp) (xs := [v, v5', v6', v4']) (fun i σ H' => Same H7 H' ∧ ∃ (v2 v3 v4 v5 v6 v7 : Option V), σ = [some (.ref a), some (.ref t), v2, v3, v4, v5, v6, v7]) ⟨Same.refl _, _, _, _, _, _, _, rfl⟩ (fun i σ H' _ ⟨s8, _⟩ => SqL.of (s8 _ _ gp)) ?_ ?_
      · rintro j x σ H8 hx ⟨s8, v2, v3, v4, v5, v6, v7, rfl⟩
        obtain ⟨dx, ddx, o1, o2, o3⟩ := all x (List.mem_of_getElem? hx)
        have ddx8 := ddx.kp (kp_same s8)
        refine ⟨_, rfl, ?_⟩
        dsimp only [tNil]
        refine meas_of (n := 103) ddx8 o1 o3 o2 fun H9 vz s9 hz => ?_
        change tAndV _ _ _ _ _
        refine due_of (v6 := vz) rfl hz ?_
        have dd9 := ddx8.kp (kp_same s9)
        have lb := bools_ok (due dx)
        have rb : ∀ {H' : Hp} {Q' : VK}, Q' (.str (PyData.bool (due dx)).shown) H' → ∃ t, rReprV t [.bl (due dx)] H' Q' := fun q => ⟨t, .bl (due dx), .bool (due dx), rfl, .bl _, by simp only [PyData.showable], by simp [PyData.depth], Nat.le_of_lt (szl (by omega)), nofun, q⟩
        refine ⟨_, rfl, t, x, dx, rfl, dd9, o1, o2, fun H10 s10 => rb ⟨_, rfl, rb ⟨rfl, _, rfl, iF (by rw [decide_eq_true rfl]; rfl) ?_⟩⟩⟩
        refine ⟨_, rfl, t, x, dx, rfl, dd9.kp (kp_same s10), o1, o2, fun H11 s11 => rb ⟨_, rfl, rb ⟨rfl, _, rfl, iF (by rw [decide_eq_true rfl]; rfl) ?_⟩⟩⟩
        have S11 := s10.trans s11
        refine ⟨_, rfl, _, rfl, ?_⟩
        cases hd : due dx with
        | false => exact iF rfl ⟨s8.trans (s9.trans S11), _, _, _, _, _, _, rfl⟩
        | true =>
          refine iT rfl ?_
          obtain ⟨p, hm, hp1⟩ : ∃ p, meas dx = some p ∧ p.1 ≤ 1000 := by
            unfold due at hd
            cases hm : meas dx with
            | none =>
              rw [hm] at hd
              cases hd
            | some p =>
              rw [hm] at hd
              simp only [Bool.and_eq_true, decide_eq_true_eq] at hd
              exact ⟨p, rfl, hd.1⟩
          unfold Sz at hz
          rw [hm] at hz
          obtain ⟨az, ez, gz⟩ := (show ∃ a, vz = .ref a ∧ H9 a = some (.tup [.int (p.1 : Int), .int (p.2 : Int)]) from hz)
          obtain ⟨i1, i2, i3⟩ := ints_ok p.1 (by omega)
          have ri : ∀ {H' : Hp} {Q' : VK}, Q' (.str (PyData.int (p.1 : Int)).shown) H' → ∃ t, rReprV t [.int (p.1 : Int)] H' Q' := fun q => ⟨t, .int (p.1 : Int), .int (p.1 : Int), rfl, .int _, by simp only [PyData.showable, decide_eq_true_eq]; exact i3, by simp [PyData.depth], Nat.le_of_lt (szl (by omega)), fun i e => by injection e with e; rw [← e]; exact i3, q⟩
          refine ⟨_, rfl, t, x, dx, p, rfl, dd9.kp (kp_same S11), o1, hm, hp1, o2, fun H12 s12 => ri ?_⟩
          refine ⟨_, rfl, t, x, dx, p, rfl, dd9.kp (kp_same (S11.trans s12)), o1, hm, hp1, o2, fun H13 s13 => ri ?_⟩
          refine ⟨slz rfl, fun l1 hl1 => ?_⟩
          generalize hshow : (PyData.int (p.1 : Int)).shown = sh at i1 ri ⊢
          have s14 := same_new (o := .lst [.str sh, .str sh]) hl1
          have g14 : (upd H13 l1 (.lst [.str sh, .str sh])) l1 = some (.lst [.str sh, .str sh]) := upd_same
          change tOp _ _ _ _ (upd H13 l1 (.lst [.str sh, .str sh])) _
          generalize upd H13 l1 (.lst [.str sh, .str sh]) = H14 at s14 g14 ⊢
          have S14 := S11.trans (s12.trans (s13.trans s14))
          refine ⟨_, rfl, az, _, 0, _, ez, rfl, SqT.of (S14 _ _ gz), rfl, ri ?_⟩
          refine ⟨slz rfl, fun l2 hl2 => ?_⟩
          refine ⟨l2, 2, _, rfl, rfl, upd_same, by decide, by decide, slz rfl, fun l3 hl3 => ?_⟩
          have s15 : Same H14 (upd (upd H14 l2 (.lst [.str sh])) l3 (.lst [.str sh, .str sh])) := (same_new hl2).trans (same_new hl3)
          refine ⟨.list [.str sh, .str sh], .list [.str sh, .str sh], .lst (SqL.of (s15 _ _ g14)) (.cons (.str _) (.cons (.str _) .nil)), .lst (SqL.of upd_same) (.cons (.str _) (.cons (.str _) .nil)), two_shaped i1, two_shaped i1, _, rfl, ?_⟩
          rw [two_eqv]
          exact iF rfl ⟨s8.trans (s9.trans (S14.trans s15)), _, _, _, _, _, _, rfl⟩
      · rintro σ H8 ⟨s8, v2, v3, v4, v5, v6, v7, rfl⟩
        exact ⟨_, _, _, _, _, _, rfl, T7.same s8⟩
  · exact k H2
end
end L3

namespace L3
open PySem L2
theorem all_mk {l : PySem.W.OpenLaw} {w : World} {K : PySem.W.Frag} {h : Heap} {mg : Str → Option Value} {fa bA f1 f2 f3 f4 f5 f6 f7 f8 f9 f10 f11 f12 f13 f14 f15 f16 f17 f18 f19 : Addr} (X : K.In h) (G : h.Ns mainGlobals mg) (hfa : mg "law" = some (.ref fa))
    {od1 an1 od2 an2 od3 an3 od4 an4 od5 an5 od6 an6 od7 an7 od8 an8 od9 an9 od10 an10 od11 an11 od12 an12 od13 an13 od14 an14 od15 an15 od16 an16 od17 an17 od18 an18 od19 an19 : Option Addr} {sl1 sl2 sl3 sl4 sl5 sl6 sl7 sl8 sl9 sl10 sl11 sl12 sl13 sl14 sl15 sl16 sl17 sl18 sl19 : Array (Option Value)} {uL uO uX uM uD oc1 kV1 dc1 pm1 cd1 ct1 oc2 kV2 dc2 pm2 cd2 ct2 oc3 kV3 dc3 pm3 cd3 ct3 oc4 kV4 dc4 pm4 cd4 ct4 oc5 kV5 dc5 pm5 cd5 ct5 oc6 kV6 dc6 pm6 cd6 ct6 oc7 kV7 dc7 pm7 cd7 ct7 oc8 kV8 dc8 pm8 cd8 ct8 oc9 kV9 dc9 pm9 cd9 ct9 oc10 kV10 dc10 pm10 cd10 ct10 oc11 kV11 dc11 pm11 cd11 ct11 oc12 kV12 dc12 pm12 cd12 ct12 oc13 kV13 dc13 pm13 cd13 ct13 oc14 kV14 dc14 pm14 cd14 ct14 oc15 kV15 dc15 pm15 cd15 ct15 oc16 kV16 dc16 pm16 cd16 ct16 oc17 kV17 dc17 pm17 cd17 ct17 oc18 kV18 dc18 pm18 cd18 ct18 oc19 kV19 dc19 pm19 cd19 ct19 : Value} {es : Array DictEntry} {nB : Nat}
    (a1 : PySem.W.nsIn K mainGlobals "is_word" = some (some (.ref f1))) (l1 : K.lookup f1 = some ⟨oc1, od1, .func (PySem.W.fnOf "is_word" "is_word" (defArgs s_is_word) (defBody s_is_word) (defScope s_is_word) .none kV1 dc1 pm1 an1 cd1 ct1), sl1⟩) (c1 : PySem.W.codeIn K cd1 "is_word" = true) (k1 : PySem.W.keepIn K (.ref f1) = true)
    (a2 : PySem.W.nsIn K mainGlobals "is_name" = some (some (.ref f2))) (l2 : K.lookup f2 = some ⟨oc2, od2, .func (PySem.W.fnOf "is_name" "is_name" (defArgs s_is_name) (defBody s_is_name) (defScope s_is_name) .none kV2 dc2 pm2 an2 cd2 ct2), sl2⟩) (c2 : PySem.W.codeIn K cd2 "is_name" = true) (k2 : PySem.W.keepIn K (.ref f2) = true)
    (a3 : PySem.W.nsIn K mainGlobals "is_integer" = some (some (.ref f3))) (l3 : K.lookup f3 = some ⟨oc3, od3, .func (PySem.W.fnOf "is_integer" "is_integer" (defArgs s_is_integer) (defBody s_is_integer) (defScope s_is_integer) .none kV3 dc3 pm3 an3 cd3 ct3), sl3⟩) (c3 : PySem.W.codeIn K cd3 "is_integer" = true) (k3 : PySem.W.keepIn K (.ref f3) = true)
    (a4 : PySem.W.nsIn K mainGlobals "is_whole" = some (some (.ref f4))) (l4 : K.lookup f4 = some ⟨oc4, od4, .func (PySem.W.fnOf "is_whole" "is_whole" (defArgs s_is_whole) (defBody s_is_whole) (defScope s_is_whole) .none kV4 dc4 pm4 an4 cd4 ct4), sl4⟩) (c4 : PySem.W.codeIn K cd4 "is_whole" = true) (k4 : PySem.W.keepIn K (.ref f4) = true)
    (a5 : PySem.W.nsIn K mainGlobals "is_text" = some (some (.ref f5))) (l5 : K.lookup f5 = some ⟨oc5, od5, .func (PySem.W.fnOf "is_text" "is_text" (defArgs s_is_text) (defBody s_is_text) (defScope s_is_text) .none kV5 dc5 pm5 an5 cd5 ct5), sl5⟩) (c5 : PySem.W.codeIn K cd5 "is_text" = true) (k5 : PySem.W.keepIn K (.ref f5) = true)
    (a6 : PySem.W.nsIn K mainGlobals "is_value" = some (some (.ref f6))) (l6 : K.lookup f6 = some ⟨oc6, od6, .func (PySem.W.fnOf "is_value" "is_value" (defArgs s_is_value) (defBody s_is_value) (defScope s_is_value) .none kV6 dc6 pm6 an6 cd6 ct6), sl6⟩) (c6 : PySem.W.codeIn K cd6 "is_value" = true) (k6 : PySem.W.keepIn K (.ref f6) = true)
    (a7 : PySem.W.nsIn K mainGlobals "inner_values" = some (some (.ref f7))) (l7 : K.lookup f7 = some ⟨oc7, od7, .func (PySem.W.fnOf "inner_values" "inner_values" (defArgs s_inner_values) (defBody s_inner_values) (defScope s_inner_values) .none kV7 dc7 pm7 an7 cd7 ct7), sl7⟩) (c7 : PySem.W.codeIn K cd7 "inner_values" = true) (k7 : PySem.W.keepIn K (.ref f7) = true)
    (a8 : PySem.W.nsIn K mainGlobals "parts_of" = some (some (.ref f8))) (l8 : K.lookup f8 = some ⟨oc8, od8, .func (PySem.W.fnOf "parts_of" "parts_of" (defArgs s_parts_of) (defBody s_parts_of) (defScope s_parts_of) .none kV8 dc8 pm8 an8 cd8 ct8), sl8⟩) (c8 : PySem.W.codeIn K cd8 "parts_of" = true) (k8 : PySem.W.keepIn K (.ref f8) = true)
    (a9 : PySem.W.nsIn K mainGlobals "_law_begin" = some (some (.ref f9))) (l9 : K.lookup f9 = some ⟨oc9, od9, .func (PySem.W.fnOf "_law_begin" "_law_begin" (defArgs s__law_begin) (defBody s__law_begin) (defScope s__law_begin) .none kV9 dc9 pm9 an9 cd9 ct9), sl9⟩) (c9 : PySem.W.codeIn K cd9 "_law_begin" = true) (k9 : PySem.W.keepIn K (.ref f9) = true)
    (a10 : PySem.W.nsIn K mainGlobals "_law_draw" = some (some (.ref f10))) (l10 : K.lookup f10 = some ⟨oc10, od10, .func (PySem.W.fnOf "_law_draw" "_law_draw" (defArgs s__law_draw) (defBody s__law_draw) (defScope s__law_draw) .none kV10 dc10 pm10 an10 cd10 ct10), sl10⟩) (c10 : PySem.W.codeIn K cd10 "_law_draw" = true) (k10 : PySem.W.keepIn K (.ref f10) = true)
    (a11 : PySem.W.nsIn K mainGlobals "_law_pick" = some (some (.ref f11))) (l11 : K.lookup f11 = some ⟨oc11, od11, .func (PySem.W.fnOf "_law_pick" "_law_pick" (defArgs s__law_pick) (defBody s__law_pick) (defScope s__law_pick) .none kV11 dc11 pm11 an11 cd11 ct11), sl11⟩) (c11 : PySem.W.codeIn K cd11 "_law_pick" = true) (k11 : PySem.W.keepIn K (.ref f11) = true)
    (a12 : PySem.W.nsIn K mainGlobals "_law_is_name" = some (some (.ref f12))) (l12 : K.lookup f12 = some ⟨oc12, od12, .func (PySem.W.fnOf "_law_is_name" "_law_is_name" (defArgs s__law_is_name) (defBody s__law_is_name) (defScope s__law_is_name) .none kV12 dc12 pm12 an12 cd12 ct12), sl12⟩) (c12 : PySem.W.codeIn K cd12 "_law_is_name" = true) (k12 : PySem.W.keepIn K (.ref f12) = true)
    (a13 : PySem.W.nsIn K mainGlobals "_law_is_plain" = some (some (.ref f13))) (l13 : K.lookup f13 = some ⟨oc13, od13, .func (PySem.W.fnOf "_law_is_plain" "_law_is_plain" (defArgs s__law_is_plain) (defBody s__law_is_plain) (defScope s__law_is_plain) .none kV13 dc13 pm13 an13 cd13 ct13), sl13⟩) (c13 : PySem.W.codeIn K cd13 "_law_is_plain" = true) (k13 : PySem.W.keepIn K (.ref f13) = true)
    (a14 : PySem.W.nsIn K mainGlobals "_law_measured" = some (some (.ref f14))) (l14 : K.lookup f14 = some ⟨oc14, od14, .func (PySem.W.fnOf "_law_measured" "_law_measured" (defArgs s__law_measured) (defBody s__law_measured) (defScope s__law_measured) .none kV14 dc14 pm14 an14 cd14 ct14), sl14⟩) (c14 : PySem.W.codeIn K cd14 "_law_measured" = true) (k14 : PySem.W.keepIn K (.ref f14) = true)
    (a15 : PySem.W.nsIn K mainGlobals "_law_some_value" = some (some (.ref f15))) (l15 : K.lookup f15 = some ⟨oc15, od15, .func (PySem.W.fnOf "_law_some_value" "_law_some_value" (defArgs s__law_some_value) (defBody s__law_some_value) (defScope s__law_some_value) .none kV15 dc15 pm15 an15 cd15 ct15), sl15⟩) (c15 : PySem.W.codeIn K cd15 "_law_some_value" = true) (k15 : PySem.W.keepIn K (.ref f15) = true)
    (a16 : PySem.W.nsIn K mainGlobals "_law_odd_value" = some (some (.ref f16))) (l16 : K.lookup f16 = some ⟨oc16, od16, .func (PySem.W.fnOf "_law_odd_value" "_law_odd_value" (defArgs s__law_odd_value) (defBody s__law_odd_value) (defScope s__law_odd_value) .none kV16 dc16 pm16 an16 cd16 ct16), sl16⟩) (c16 : PySem.W.codeIn K cd16 "_law_odd_value" = true) (k16 : PySem.W.keepIn K (.ref f16) = true)
    (a17 : PySem.W.nsIn K mainGlobals "_law_bent" = some (some (.ref f17))) (l17 : K.lookup f17 = some ⟨oc17, od17, .func (PySem.W.fnOf "_law_bent" "_law_bent" (defArgs s__law_bent) (defBody s__law_bent) (defScope s__law_bent) .none kV17 dc17 pm17 an17 cd17 ct17), sl17⟩) (c17 : PySem.W.codeIn K cd17 "_law_bent" = true) (k17 : PySem.W.keepIn K (.ref f17) = true)
    (a18 : PySem.W.nsIn K mainGlobals "_law_great" = some (some (.ref f18))) (l18 : K.lookup f18 = some ⟨oc18, od18, .func (PySem.W.fnOf "_law_great" "_law_great" (defArgs s__law_great) (defBody s__law_great) (defScope s__law_great) .none kV18 dc18 pm18 an18 cd18 ct18), sl18⟩) (c18 : PySem.W.codeIn K cd18 "_law_great" = true) (k18 : PySem.W.keepIn K (.ref f18) = true)
    (a19 : PySem.W.nsIn K mainGlobals "law" = some (some (.ref f19))) (l19 : K.lookup f19 = some ⟨oc19, od19, .func (PySem.W.fnOf "law" "law" (defArgs s_law) (defBody s_law) (defScope s_law) .none kV19 dc19 pm19 an19 cd19 ct19), sl19⟩) (c19 : PySem.W.codeIn K cd19 "law" = true) (k19 : PySem.W.keepIn K (.ref f19) = true)
    (z0 : PySem.W.nsIn K mainGlobals "len" = some none) (z1 : PySem.W.nsIn K mainGlobals "int" = some none) (z2 : PySem.W.nsIn K mainGlobals "list" = some none) (z3 : PySem.W.nsIn K mainGlobals "tuple" = some none) (z4 : PySem.W.nsIn K mainGlobals "dict" = some none) (z5 : PySem.W.nsIn K mainGlobals "repr" = some none) (z6 : PySem.W.nsIn K mainGlobals "range" = some none) (z7 : PySem.W.nsIn K mainGlobals "zip" = some none) (z8 : PySem.W.nsIn K mainGlobals "sorted" = some none) (z9 : PySem.W.nsIn K mainGlobals "isinstance" = some none) (z10 : PySem.W.nsIn K mainGlobals "all" = some none) (z11 : PySem.W.nsIn K mainGlobals "str" = some none) (z12 : PySem.W.nsIn K mainGlobals "tuple" = some none) (z13 : PySem.W.nsIn K mainGlobals "bool" = some none) (z14 : PySem.W.nsIn K mainGlobals "int" = some none) (z15 : PySem.W.nsIn K mainGlobals "ord" = some none) (z16 : PySem.W.nsIn K mainGlobals "abs" = some none) (z17 : PySem.W.nsIn K mainGlobals "max" = some none) (z18 : PySem.W.nsIn K mainGlobals "sum" = some none)
    (aL : PySem.W.nsIn K mainGlobals "LONGEST" = some (some uL)) (aO : PySem.W.nsIn K mainGlobals "BOUND" = some (some uO)) (aX : PySem.W.nsIn K mainGlobals "LONGEST_TEXT" = some (some uX)) (aM : PySem.W.nsIn K mainGlobals "MOST_PARTS" = some (some uM)) (aD : PySem.W.nsIn K mainGlobals "DEEPEST" = some (some uD))
    (aB : PySem.W.nsIn K mainGlobals "BARRED" = some (some (.ref bA))) (lB : K.lookup bA = some ⟨.type "dict", none, .dict es nB, #[]⟩)
    (rL : RelV (.int 8) uL) (rO : RelV (.int (10 ^ 30)) uO) (rX : RelV (.int 200) uX) (rM : RelV (.int 1000) uM) (rD : RelV (.int 100) uD) (wB : (bA == sysModules) = false) (kB : PySem.W.KeysLit w.params es.toList) (vB : es.toList.map keyNm = barL.map some) :
    ∃ fd : FuncData, (∀ (s : Shared) (v : Value), BindsTo s fd ⟨[v], []⟩ [("_law_script", v)]) ∧ ∀ base : Heap, K.In base → base.Ns mainGlobals mg → LawRun l.prog w K mg base fa fd "_law_script" (spLaw K) := by
  have e := hfa.symm.trans (PySem.W.mg_of X G a19)
  cases e
  have B : Bl mg := ⟨PySem.W.mg_none_of X G z0, PySem.W.mg_none_of X G z1, PySem.W.mg_none_of X G z2, PySem.W.mg_none_of X G z3, PySem.W.mg_none_of X G z4, PySem.W.mg_none_of X G z5, PySem.W.mg_none_of X G z6, PySem.W.mg_none_of X G z7, PySem.W.mg_none_of X G z8⟩
  have B9 : Bl9 mg := ⟨PySem.W.mg_none_of X G z9, PySem.W.mg_none_of X G z10, PySem.W.mg_none_of X G z11, PySem.W.mg_none_of X G z12, PySem.W.mg_none_of X G z13, PySem.W.mg_none_of X G z14, PySem.W.mg_none_of X G z15, PySem.W.mg_none_of X G z16, PySem.W.mg_none_of X G z17⟩
  have B5 : Bl5 mg := ⟨PySem.W.mg_none_of X G z18⟩
  have M : Mn K w mg bA es nB := ⟨⟨_, PySem.W.mg_of X G aL, rL⟩, ⟨_, PySem.W.mg_of X G aB, rfl⟩, ⟨lB, kB, wB⟩, has_of lB vB, ⟨_, PySem.W.mg_of X G aO, rO⟩, ⟨_, PySem.W.mg_of X G aX, rX⟩, ⟨_, PySem.W.mg_of X G aM, rM⟩, ⟨_, PySem.W.mg_of X G aD, rD⟩⟩
  have F1 := fun_mk (st := s_is_word) l1 c1 k1
  have m1 := PySem.W.mg_of X G a1
  have F2 := fun_mk (st := s_is_name) l2 c2 k2
  have m2 := PySem.W.mg_of X G a2
  have F3 := fun_mk (st := s_is_integer) l3 c3 k3
  have m3 := PySem.W.mg_of X G a3
  have F4 := fun_mk (st := s_is_whole) l4 c4 k4
  have m4 := PySem.W.mg_of X G a4
  have F5 := fun_mk (st := s_is_text) l5 c5 k5
  have m5 := PySem.W.mg_of X G a5
  have F6 := fun_mk (st := s_is_value) l6 c6 k6
  have m6 := PySem.W.mg_of X G a6
  have F7 := fun_mk (st := s_inner_values) l7 c7 k7
  have m7 := PySem.W.mg_of X G a7
  have F8 := fun_mk (st := s_parts_of) l8 c8 k8
  have m8 := PySem.W.mg_of X G a8
  have F9 := fun_mk (st := s__law_begin) l9 c9 k9
  have m9 := PySem.W.mg_of X G a9
  have F10 := fun_mk (st := s__law_draw) l10 c10 k10
  have m10 := PySem.W.mg_of X G a10
  have F11 := fun_mk (st := s__law_pick) l11 c11 k11
  have m11 := PySem.W.mg_of X G a11
  have F12 := fun_mk (st := s__law_is_name) l12 c12 k12
  have m12 := PySem.W.mg_of X G a12
  have F13 := fun_mk (st := s__law_is_plain) l13 c13 k13
  have m13 := PySem.W.mg_of X G a13
  have F14 := fun_mk (st := s__law_measured) l14 c14 k14
  have m14 := PySem.W.mg_of X G a14
  have F15 := fun_mk (st := s__law_some_value) l15 c15 k15
  have m15 := PySem.W.mg_of X G a15
  have F16 := fun_mk (st := s__law_odd_value) l16 c16 k16
  have m16 := PySem.W.mg_of X G a16
  have F17 := fun_mk (st := s__law_bent) l17 c17 k17
  have m17 := PySem.W.mg_of X G a17
  have F18 := fun_mk (st := s__law_great) l18 c18 k18
  have m18 := PySem.W.mg_of X G a18
  have F19 := fun_mk (st := s_law) l19 c19 k19
  have m19 := PySem.W.mg_of X G a19
  refine ⟨PySem.W.fnOf "law" "law" (defArgs s_law) (defBody s_law) (defScope s_law) .none kV19 dc19 pm19 an19 cd19 ct19, fun s v => .of_eq rfl, fun base _ _ => ?_⟩
  have Dword := Fun.kn (P := l.prog) (w := w) (base := base) (k := 1) F1 m1 (ok_word F1 B B9 M) fun _ _ _ _ _ _ us hl => match us, hl with | [_], _ => rfl
  have Dname := Fun.kn (P := l.prog) (w := w) (base := base) (k := 2) F2 m2 (ok_name F2 M Dword) fun _ _ _ _ _ _ us hl => match us, hl with | [_], _ => rfl
  have Dint := Fun.kn (P := l.prog) (w := w) (base := base) (k := 1) F3 m3 (ok_int F3 B9) fun _ _ _ _ _ _ us hl => match us, hl with | [_], _ => rfl
  have Dwhole := Fun.kn (P := l.prog) (w := w) (base := base) (k := 2) F4 m4 (ok_whole F4 M Dint) fun _ _ _ _ _ _ us hl => match us, hl with | [_], _ => rfl
  have Dtext := Fun.kn (P := l.prog) (w := w) (base := base) (k := 1) F5 m5 (ok_text F5 B B9 M) fun _ _ _ _ _ _ us hl => match us, hl with | [_], _ => rfl
  have Dinner := Fun.kn (P := l.prog) (w := w) (base := base) (k := 3) F7 m7 (ok_inner F7 B B9 Dname Dwhole Dtext) fun _ _ _ _ _ _ us hl => match us, hl with | [_], _ => rfl
  have Disv := Fun.kn (P := l.prog) (w := w) (base := base) (k := 4) F6 m6 (ok_isv F6 B M Dinner) fun _ _ _ _ _ _ us hl => match us, hl with | [_], _ => rfl
  have Dparts := Fun.kn (P := l.prog) (w := w) (base := base) (k := 4) F8 m8 (ok_parts F8 B Dinner) fun _ _ _ _ _ _ us hl => match us, hl with | [_], _ => rfl
  have DKisv : KnK l.prog w K mg base 4 "is_value" ["value"] spIsV := ⟨f6, _, ok_isv F6 B M Dinner, m6, F6.kp, kbinds1 (fun s v => .of_eq rfl) (fun s v => .of_eq rfl)⟩
  have DKparts : KnK l.prog w K mg base 4 "parts_of" ["value"] spParts := ⟨f8, _, ok_parts F8 B Dinner, m8, F8.kp, kbinds1 (fun s v => .of_eq rfl) (fun s v => .of_eq rfl)⟩
  have Dbegin := Fun.kn (P := l.prog) (w := w) (base := base) (k := 1) F9 m9 (ok_begin F9) fun _ _ _ _ _ _ us hl => match us, hl with | [_], _ => rfl
  have Ddraw := Fun.kn (P := l.prog) (w := w) (base := base) (k := 1) F10 m10 (ok_draw F10 B) fun _ _ _ _ _ _ us hl => match us, hl with | [_, _], _ => rfl
  have Dpick := Fun.kn (P := l.prog) (w := w) (base := base) (k := 2) F11 m11 (ok_pick F11 B Ddraw) fun _ _ _ _ _ _ us hl => match us, hl with | [_, _], _ => rfl
  have Dln := Fun.kn (P := l.prog) (w := w) (base := base) (k := 1) F12 m12 (ok_ln F12 B B9) fun _ _ _ _ _ _ us hl => match us, hl with | [_], _ => rfl
  have Dpl : KnG l.prog w K mg base 1 "_law_is_plain" spPlain := ⟨f13, gok_plain F13 (F13.binds fun _ _ _ _ _ _ us hl => match us, hl with | [_], _ => rfl) B B9, m13, F13.kp⟩
  have Dms := meas_all (P := l.prog) (w := w) (base := base) F14 m14 B B9 B5 Dln Dpl 104
  have Dsv := some_all (P := l.prog) (w := w) (base := base) F15 m15 B Ddraw Dpick 4
  have Dodd := Fun.kn (P := l.prog) (w := w) (base := base) (k := 3) F16 m16 (ok_odd F16 Dpick) fun _ _ _ _ _ _ us hl => match us, hl with | [_], _ => rfl
  have Dbent := bent_all (P := l.prog) (w := w) (base := base) F17 m17 B Ddraw Dpick Dodd 5
  have Dgreat := Fun.kn (P := l.prog) (w := w) (base := base) (k := 3) F18 m18 (ok_great F18 B Ddraw Dpick) fun _ _ _ _ _ _ us hl => match us, hl with | [_], _ => rfl
  exact law_run F19 B Dbegin Dsv Dgreat Dbent Dodd Dms Disv DKisv Dparts DKparts
end L3

open PySem PySem.W PyProof.Rows in
set_option maxRecDepth 100000 in
set_option maxHeartbeats 0 in
theorem PySem.Challenge.cw_leastneeds_k58_values_by_form_holds : PySem.Challenge.rw_leastneeds_k58_values_by_form.Holds := by
  w_on; o_law; k_head; (case hw => w_witness2)
  k_fill
  refine L3.walkG (l := PySem.Challenge.rw_leastneeds_k58_values_by_form) (n := 63) (x := "_law_script") (sp := L3.spLaw) rfl (by decide) rfl (fun w h Y => PySem.W.kIn_of Y) ?F (fun K H a ns _ hS => ⟨a, ns, rfl, hS, fun _ => rfl⟩)
  case F =>
    intro w mg fa h KX G hmg
    refine' L3.all_mk KX G hmg ?a1 ?l1 ?c1 ?k1 ?a2 ?l2 ?c2 ?k2 ?a3 ?l3 ?c3 ?k3 ?a4 ?l4 ?c4 ?k4 ?a5 ?l5 ?c5 ?k5 ?a6 ?l6 ?c6 ?k6 ?a7 ?l7 ?c7 ?k7 ?a8 ?l8 ?c8 ?k8 ?a9 ?l9 ?c9 ?k9 ?a10 ?l10 ?c10 ?k10 ?a11 ?l11 ?c11 ?k11 ?a12 ?l12 ?c12 ?k12 ?a13 ?l13 ?c13 ?k13 ?a14 ?l14 ?c14 ?k14 ?a15 ?l15 ?c15 ?k15 ?a16 ?l16 ?c16 ?k16 ?a17 ?l17 ?c17 ?k17 ?a18 ?l18 ?c18 ?k18 ?a19 ?l19 ?c19 ?k19 ?z0 ?z1 ?z2 ?z3 ?z4 ?z5 ?z6 ?z7 ?z8 ?z9 ?z10 ?z11 ?z12 ?z13 ?z14 ?z15 ?z16 ?z17 ?z18 ?aL ?aO ?aX ?aM ?aD ?aB ?lB ?rL ?rO ?rX ?rM ?rD ?wB ?kB ?vB
    (case a1 => k_is)
    (case l1 => k_is)
    (case c1 => k_is)
    (case k1 => k_is)
    (case a2 => k_is)
    (case l2 => k_is)
    (case c2 => k_is)
    (case k2 => k_is)
    (case a3 => k_is)
    (case l3 => k_is)
    (case c3 => k_is)
    (case k3 => k_is)
    (case a4 => k_is)
    (case l4 => k_is)
    (case c4 => k_is)
    (case k4 => k_is)
    (case a5 => k_is)
    (case l5 => k_is)
    (case c5 => k_is)
    (case k5 => k_is)
    (case a6 => k_is)
    (case l6 => k_is)
    (case c6 => k_is)
    (case k6 => k_is)
    (case a7 => k_is)
    (case l7 => k_is)
    (case c7 => k_is)
    (case k7 => k_is)
    (case a8 => k_is)
    (case l8 => k_is)
    (case c8 => k_is)
    (case k8 => k_is)
    (case a9 => k_is)
    (case l9 => k_is)
    (case c9 => k_is)
    (case k9 => k_is)
    (case a10 => k_is)
    (case l10 => k_is)
    (case c10 => k_is)
    (case k10 => k_is)
    (case a11 => k_is)
    (case l11 => k_is)
    (case c11 => k_is)
    (case k11 => k_is)
    (case a12 => k_is)
    (case l12 => k_is)
    (case c12 => k_is)
    (case k12 => k_is)
    (case a13 => k_is)
    (case l13 => k_is)
    (case c13 => k_is)
    (case k13 => k_is)
    (case a14 => k_is)
    (case l14 => k_is)
    (case c14 => k_is)
    (case k14 => k_is)
    (case a15 => k_is)
    (case l15 => k_is)
    (case c15 => k_is)
    (case k15 => k_is)
    (case a16 => k_is)
    (case l16 => k_is)
    (case c16 => k_is)
    (case k16 => k_is)
    (case a17 => k_is)
    (case l17 => k_is)
    (case c17 => k_is)
    (case k17 => k_is)
    (case a18 => k_is)
    (case l18 => k_is)
    (case c18 => k_is)
    (case k18 => k_is)
    (case a19 => k_is)
    (case l19 => k_is)
    (case c19 => k_is)
    (case k19 => k_is)
    (case z0 => k_is)
    (case z1 => k_is)
    (case z2 => k_is)
    (case z3 => k_is)
    (case z4 => k_is)
    (case z5 => k_is)
    (case z6 => k_is)
    (case z7 => k_is)
    (case z8 => k_is)
    (case z9 => k_is)
    (case z10 => k_is)
    (case z11 => k_is)
    (case z12 => k_is)
    (case z13 => k_is)
    (case z14 => k_is)
    (case z15 => k_is)
    (case z16 => k_is)
    (case z17 => k_is)
    (case z18 => k_is)
    (case aL => k_is)
    (case aO => k_is)
    (case aX => k_is)
    (case aM => k_is)
    (case aD => k_is)
    (case aB => k_is)
    (case lB => k_is)
    (case rL => exact ⟨_, rfl⟩)
    (case rO => exact ⟨_, rfl⟩)
    (case rX => exact ⟨_, rfl⟩)
    (case rM => exact ⟨_, rfl⟩)
    (case rD => exact ⟨_, rfl⟩)
    (case wB => rfl)
    (case kB => exact ⟨⟨_, _, rfl, rfl⟩, ⟨⟨_, _, rfl, rfl⟩, ⟨⟨_, _, rfl, rfl⟩, ⟨⟨_, _, rfl, rfl⟩, ⟨⟨_, _, rfl, rfl⟩, ⟨⟨_, _, rfl, rfl⟩, ⟨⟨_, _, rfl, rfl⟩, ⟨⟨_, _, rfl, rfl⟩, ⟨⟨_, _, rfl, rfl⟩, ⟨⟨_, _, rfl, rfl⟩, ⟨⟨_, _, rfl, rfl⟩, ⟨⟨_, _, rfl, rfl⟩, ⟨⟨_, _, rfl, rfl⟩, ⟨⟨_, _, rfl, rfl⟩, ⟨⟨_, _, rfl, rfl⟩, ⟨⟨_, _, rfl, rfl⟩, ⟨⟨_, _, rfl, rfl⟩, trivial⟩⟩⟩⟩⟩⟩⟩⟩⟩⟩⟩⟩⟩⟩⟩⟩⟩)
    (case vB => rfl)
