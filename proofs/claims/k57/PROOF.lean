import PyProof.Rows.All
import Wide.All
import OpenK.AllK
import Wide.FinOn
import HandS.ForMost
import HandS.Flow
import HandS.Small
import HandS.SetKeys
import HandS.Zip
import HandS.Style
import HandS.More
import HandS.Deep
import HandS.Wide
import PySem.Challenge.RW_leastneeds_k57_whole_rules_of_primitives
import KE.KDictZip
import HandS.ListItems
import HandS.DictComp
import PyProof.ReprLen
import PyProof.StrLawsRepr
import HandS.Dict
import PyProof.EqKinds
import HandS.IsInst
import HandS.StrMore
import HandS.HeadHook3
import HandS.Steps
import HandS.Walk
import HandS.Text
import HandS.Rev
import HandS.Star
import KE.GoesEnum
import KE.GoesMore
import HandS.Iter
import PyProof.NeKinds
import HandS.TupAny
import OpenK.KMore
import HandS.TupMul
import PyProof.StrOps2
import KE.IntTextLaws
import PyProof.ReprText
import HandS.NoneIn
set_option Elab.async false
set_option linter.all false
set_option maxRecDepth 100000
set_option maxHeartbeats 4000000
namespace L3
open PySem L2
/-! ### a def that is known by its name -/
section
variable {P : Program} {w : World} {K : PySem.W.Frag} {mg : Str → Option Value} {base : Heap}
structure Kn (P : Program) (w : World) (K : PySem.W.Frag) (mg : Str → Option Value) (base : Heap) (k : Nat) (x : Str) (ps : List Str) (sp : Sp) : Prop where
  ex : ∃ (f : Addr) (fd : FuncData), FnOk P w K mg base CX0 k f fd ps sp ∧ mg x = some (.ref f) ∧ PySem.W.keepIn K (.ref f) = true ∧ Binds K fd ps []
end
section
variable {X : Cx} {x : Str} {k : Nat} {ps : List Str} {sp : Sp} {e : Expr} {es : List Expr} {t : TA} {p pos : Pos}
theorem pe_kn (D : Kn X.prog X.w X.K X.mg X.base k x ps sp) (hr : Room k X.A) (ha : PA X (e :: es) t) (hg : Gl X x := by rfl) (hdb : (x == ("__debug__" : Str)) = false := by decide)
    (he : starEach (e :: es) X.env = (false, eval e X.env) :: starEach es X.env := by rfl) (hpl : (backTo pos (starEach es X.env)).any (·.1) = false := by rfl) :
    PE X (.Call (.Name x p) (e :: es) [] pos) (tCall sp [] E0 t) := by
  obtain ⟨f, fd, F, hm, hk, hb⟩ := D.ex
  exact pe_call F hr hg hm hk hb .nil pass0 ha hdb he hpl
theorem pe_kn0 (D : Kn X.prog X.w X.K X.mg X.base k x ps sp) (hr : Room k X.A) (hg : Gl X x := by rfl) (hdb : (x == ("__debug__" : Str)) = false := by decide) :
    PE X (.Call (.Name x p) [] [] pos) (tCall sp [] E0 tNil) := by
  obtain ⟨f, fd, F, hm, hk, hb⟩ := D.ex
  exact pe_call0 F hr hg hm hk hb .nil pass0 hdb
end
/-- built-in names that the text leaves alone -/
structure Bl (mg : Str → Option Value) : Prop where
  len : mg "len" = none
  int : mg "int" = none
  list : mg "list" = none
  tuple : mg "tuple" = none
  dict : mg "dict" = none
  repr : mg "repr" = none
  range : mg "range" = none
  zip : mg "zip" = none
  sorted : mg "sorted" = none

/-! ### the tape -/
/-- all but the object at t is kept -/
def Ext (t : Addr) (H H' : Hp) : Prop := ∀ b o, b ≠ t → H b = some o → H' b = some o
theorem Ext.refl (t : Addr) (H : Hp) : Ext t H H := fun _ _ _ h => h
theorem Ext.trans {t : Addr} {H H1 H2 : Hp} (a : Ext t H H1) (b : Ext t H1 H2) : Ext t H H2 := fun c o n h => b c o n (a c o n h)
theorem Ext.new {t p : Addr} {H : Hp} {o : HO} (h : H p = none) : Ext t H (upd H p o) := fun b u _ e => by
  rw [upd_ne (ne_of_none e h)]
  exact e
theorem Ext.put {t : Addr} {H : Hp} {o : HO} : Ext t H (upd H t o) := fun b u n e => by
  rw [upd_ne n]
  exact e
theorem same_ext {t : Addr} {H H' : Hp} (h : Same H H') : Ext t H H' := fun b o _ e => h b o e
theorem same_new {p : Addr} {H : Hp} {o : HO} (h : H p = none) : Same H (upd H p o) := fun b u e => by
  rw [upd_ne (ne_of_none e h)]
  exact e
def tp (c : Addr) (p l : Int) : List (Key × V) := [(.inr "cells", .ref c), (.inr "place", .int p), (.inr "left", .int l)]
theorem tp_cells (c : Addr) (p l : Int) : valV (tp c p l) (.inr "cells") = some (.ref c) := by rfl
theorem tp_place (c : Addr) (p l : Int) : valV (tp c p l) (.inr "place") = some (.int p) := by rfl
theorem tp_left (c : Addr) (p l : Int) : valV (tp c p l) (.inr "left") = some (.int l) := by rfl
theorem tp_putP (c : Addr) (p l q : Int) : putK (tp c p l) (.inr "place") (.int q) = tp c q l := by rfl
theorem tp_putL (c : Addr) (p l q : Int) : putK (tp c p l) (.inr "left") (.int q) = tp c p q := by rfl
/-- at t a tape stands, its cells at c, from which b more cells may be taken -/
def Tape (K : PySem.W.Frag) (H : Hp) (t c : Addr) (b : Nat) : Prop :=
  ∃ (p l : Int) (ns : List Int), H t = some (.dK (tp c p l)) ∧ SqL K H c (ns.map V.int) ∧ c ≠ t ∧ 0 < ns.length ∧ ns.length ≤ 63 ∧ 0 ≤ p ∧ p + b ≤ 1000000 ∧ 0 ≤ l
theorem Tape.less {K : PySem.W.Frag} {H : Hp} {t c : Addr} {b b' : Nat} (h : Tape K H t c b) (hb : b' ≤ b) : Tape K H t c b' := by
  obtain ⟨p, l, ns, h1, h2, h3, h4, h5, h6, h7, h8⟩ := h
  exact ⟨p, l, ns, h1, h2, h3, h4, h5, h6, by omega, h8⟩
theorem SqL.same {K : PySem.W.Frag} {H H' : Hp} {a : Addr} {xs : List V} (h : SqL K H a xs) (k : ∀ o, H a = some o → H' a = some o) : SqL K H' a xs := by
  rcases h with (h | ⟨o, h⟩) | h
  · exact .inl (.inl (k _ h))
  · exact .inl (.inr ⟨o, k _ h⟩)
  · exact .inr h
theorem SqL.ext {K : PySem.W.Frag} {t : Addr} {H H' : Hp} {a : Addr} {xs : List V} (h : SqL K H a xs) (e : Ext t H H') (n : a ≠ t) : SqL K H' a xs := SqL.same h fun o q => e a o n q
/-- the tape is untouched -/
theorem Tape.same {K : PySem.W.Frag} {H H' : Hp} {t c : Addr} {b : Nat} (h : Tape K H t c b) (k : Same H H') : Tape K H' t c b := by
  obtain ⟨p, l, ns, h1, h2, h3, h4, h5, h6, h7, h8⟩ := h
  exact ⟨p, l, ns, k _ _ h1, k.seq h2, h3, h4, h5, h6, h7, h8⟩
theorem Tape.new {K : PySem.W.Frag} {H : Hp} {t c : Addr} {b : Nat} {q : Addr} {o : HO} (h : Tape K H t c b) (n : H q = none) : Tape K (upd H q o) t c b := h.same (same_new n)
theorem Tape.dict {K : PySem.W.Frag} {H : Hp} {t c : Addr} {b : Nat} (h : Tape K H t c b) : ∃ kvs, H t = some (.dK kvs) := by
  obtain ⟨p, l, ns, h1, _⟩ := h
  exact ⟨_, h1⟩
theorem Tape.ne {K : PySem.W.Frag} {H : Hp} {t c : Addr} {b : Nat} (h : Tape K H t c b) {l : Addr} (n : H l = none) : l ≠ t := fun e => by
  obtain ⟨kvs, q⟩ := h.dict
  rw [e, q] at n
  cases n
theorem Ext.free {t : Addr} {H H' : Hp} (e : Ext t H H') {l : Addr} (n : l ≠ t) (h : H' l = none) : H l = none := by
  cases q : H l with
  | none => rfl
  | some o =>
    rw [e l o n q] at h
    cases h
/-- an object D that was not there at H0 is stored into -/
theorem Tape.put {K : PySem.W.Frag} {H0 H : Hp} {t c : Addr} {b0 b : Nat} {D : Addr} {o : HO} (h0 : Tape K H0 t c b0) (e : Ext t H0 H) (h : Tape K H t c b) (n : H0 D = none) : Tape K (upd H D o) t c b := by
  have nt : t ≠ D := (h0.ne n).symm
  obtain ⟨_, _, ns, _, g2, g3, g4, g5, _⟩ := h0
  obtain ⟨p, l, _, h1, _, _, _, _, h6, h7, h8⟩ := h
  refine ⟨p, l, ns, by rw [upd_ne nt]; exact h1, SqL.same g2 fun u q => ?_, g3, g4, g5, h6, h7, h8⟩
  rw [upd_ne (ne_of_none q n)]
  exact e _ _ g3 q
theorem Ext.upd {t : Addr} {H0 H : Hp} {D : Addr} {o : HO} (e : Ext t H0 H) (n : H0 D = none) : Ext t H0 (upd H D o) := fun q u h1 h2 => by
  rw [upd_ne (ne_of_none h2 n)]
  exact e q u h1 h2
end L3

namespace L3
open PySem L2
theorem slz {n : Nat} (h : Nat.ble n 1000 = true) : n ≤ sizeLine := Nat.le_of_lt (small1000 (Nat.le_of_ble_eq_true h))
theorem iT {c : Bool} {A B : Prop} (h : c = true) (a : A) : if c = true then A else B := by
  rw [if_pos h]
  exact a
theorem iF {c : Bool} {A B : Prop} (h : c = false) (b : B) : if c = true then A else B := by
  rw [h]
  exact iteF b
theorem tg_aa : decide (V.str ("apply" : Str) = V.str ("apply" : Str)) = true := decide_eq_true rfl
theorem tg_va : decide (V.str ("var" : Str) = V.str ("apply" : Str)) = false := by decide +kernel
theorem tg_ca : decide (V.str ("con" : Str) = V.str ("apply" : Str)) = false := by decide +kernel
theorem tg_vv : decide (V.str ("var" : Str) = V.str ("var" : Str)) = true := decide_eq_true rfl
theorem tg_cv : decide (V.str ("con" : Str) = V.str ("var" : Str)) = false := by decide +kernel
theorem tg_av : decide (V.str ("apply" : Str) = V.str ("var" : Str)) = false := by decide +kernel
theorem tg_ac : decide (V.str ("apply" : Str) = V.str ("con" : Str)) = false := by decide +kernel
theorem tg_vc : decide (V.str ("var" : Str) = V.str ("con" : Str)) = false := by decide +kernel
theorem tg_cc : decide (V.str ("con" : Str) = V.str ("con" : Str)) = true := decide_eq_true rfl
/-! ### kinds -/
inductive Kd where
  | var (x : Str) | con (x : Str) | app (a b : Kd)
  deriving DecidableEq
def Kd.tag : Kd → Str
  | .var _ => "var" | .con _ => "con" | .app _ _ => "apply"
/-- a word of 1 to 8 letters from a to z -/
def Wok (x : Str) : Prop := 1 ≤ x.length ∧ x.length ≤ 8 ∧ ∀ c ∈ x.cps.toList, 97 ≤ c ∧ c ≤ 122
/-- at most n deep, of words -/
def Kd.fit : Nat → Kd → Prop
  | _, .var x => Wok x
  | _, .con x => Wok x
  | 0, .app _ _ => False
  | n + 1, .app a b => Kd.fit n a ∧ Kd.fit n b
theorem Kd.fit_mono : ∀ {k : Kd} {n m : Nat}, n ≤ m → Kd.fit n k → Kd.fit m k
  | .var _, n, m, _, h => by cases n <;> cases m <;> exact h
  | .con _, n, m, _, h => by cases n <;> cases m <;> exact h
  | .app a b, 0, _, _, h => h.elim
  | .app a b, n + 1, 0, e, _ => absurd e (by omega)
  | .app a b, n + 1, m + 1, e, h => ⟨Kd.fit_mono (by omega) h.1, Kd.fit_mono (by omega) h.2⟩
theorem Kd.fit_app {n : Nat} {a b : Kd} (h : Kd.fit n (.app a b)) : ∃ m, n = m + 1 ∧ Kd.fit m a ∧ Kd.fit m b := by
  cases n with
  | zero => exact h.elim
  | succ m => exact ⟨m, rfl, h.1, h.2⟩
def KdAt (H : Hp) : V → Kd → Prop
  | v, .var x => ∃ a, v = .ref a ∧ H a = some (.tup [.str "var", .str x])
  | v, .con x => ∃ a, v = .ref a ∧ H a = some (.tup [.str "con", .str x])
  | v, .app k l => ∃ a u z, v = .ref a ∧ H a = some (.tup [.str "apply", u, z]) ∧ KdAt H u k ∧ KdAt H z l
/-- tuples stay -/
def Tups (H H' : Hp) : Prop := ∀ b xs, H b = some (.tup xs) → H' b = some (.tup xs)
theorem same_tups {H H' : Hp} (h : Same H H') : Tups H H' := fun b xs e => h b _ e
theorem Tups.trans {H H1 H2 : Hp} (a : Tups H H1) (b : Tups H1 H2) : Tups H H2 := fun c xs e => b c xs (a c xs e)
theorem Tups.put {H : Hp} {d : Addr} {o u : HO} (h : H d = some o) (n : ∀ xs, o ≠ .tup xs) : Tups H (upd H d u) := fun b xs e => by
  rw [upd_ne (fun q => by rw [q, h] at e; exact n xs (Option.some.inj e))]
  exact e
theorem Tups.new {H : Hp} {d : Addr} {u : HO} (h : H d = none) : Tups H (upd H d u) := same_tups (same_new h)
theorem Ext.tups {K : PySem.W.Frag} {t c : Addr} {b : Nat} {H H' : Hp} (e : Ext t H H') (h : Tape K H t c b) : Tups H H' := fun q xs z => by
  obtain ⟨kvs, hk⟩ := h.dict
  exact e q _ (ne_of z hk (by intro r; cases r)) z
theorem KdAt.tups {H H' : Hp} (h : Tups H H') : ∀ {k : Kd} {v : V}, KdAt H v k → KdAt H' v k
  | .var _, _, ⟨a, e, q⟩ => ⟨a, e, h _ _ q⟩
  | .con _, _, ⟨a, e, q⟩ => ⟨a, e, h _ _ q⟩
  | .app _ _, _, ⟨a, u, z, e, q, h1, h2⟩ => ⟨a, u, z, e, h _ _ q, KdAt.tups h h1, KdAt.tups h h2⟩
/-- the tuple of a kind, and its first item -/
theorem KdAt.top {H : Hp} : ∀ {k : Kd} {v : V}, KdAt H v k → ∃ a xs, v = .ref a ∧ H a = some (.tup xs) ∧ xs[0]? = some (.str k.tag)
  | .var _, _, ⟨a, e, q⟩ => ⟨a, _, e, q, rfl⟩
  | .con _, _, ⟨a, e, q⟩ => ⟨a, _, e, q, rfl⟩
  | .app _ _, _, ⟨a, u, z, e, q, _⟩ => ⟨a, _, e, q, rfl⟩
def Kd.dat : Kd → PyData
  | .var x => .tuple [.str "var", .str x]
  | .con x => .tuple [.str "con", .str x]
  | .app a b => .tuple [.str "apply", a.dat, b.dat]
theorem KdAt.dp {K : PySem.W.Frag} {H : Hp} : ∀ {k : Kd} {v : V}, KdAt H v k → Dp K H v k.dat
  | .var x, _, ⟨a, e, q⟩ => by subst e; exact .tup (SqT.of q) (.cons (.str _) (.cons (.str _) .nil))
  | .con x, _, ⟨a, e, q⟩ => by subst e; exact .tup (SqT.of q) (.cons (.str _) (.cons (.str _) .nil))
  | .app _ _, _, ⟨a, u, z, e, q, h1, h2⟩ => by subst e; exact .tup (SqT.of q) (.cons (.str _) (.cons h1.dp (.cons h2.dp .nil)))
theorem ne_vc : ¬ (("var" : Str) = "con") := by decide +kernel
theorem ne_cv : ¬ (("con" : Str) = "var") := by decide +kernel
theorem ne_va : ¬ (("var" : Str) = "apply") := by decide +kernel
theorem ne_av : ¬ (("apply" : Str) = "var") := by decide +kernel
theorem ne_ca : ¬ (("con" : Str) = "apply") := by decide +kernel
theorem ne_ac : ¬ (("apply" : Str) = "con") := by decide +kernel
theorem str_beq (x y : Str) : (x == y) = decide (x = y) := by
  rw [Bool.eq_iff_iff]
  simp
theorem eqv_tt (xs ys : List PyData) : PyData.eqv (.tuple xs) (.tuple ys) = PyData.eqvAll xs ys := by rw [PyData.eqv]
theorem eqv_cc (x y : PyData) (xs ys : List PyData) : PyData.eqvAll (x :: xs) (y :: ys) = (PyData.eqv x y && PyData.eqvAll xs ys) := by rw [PyData.eqvAll]
theorem eqv_nn : PyData.eqvAll [] [] = true := by rw [PyData.eqvAll]
theorem eqv_nc (y : PyData) (ys : List PyData) : PyData.eqvAll [] (y :: ys) = false := by rw [PyData.eqvAll]
theorem eqv_cn (y : PyData) (ys : List PyData) : PyData.eqvAll (y :: ys) [] = false := by rw [PyData.eqvAll]
theorem eqv_ss (x y : Str) : PyData.eqv (.str x) (.str y) = decide (x = y) := by rw [PyData.eqv]; exact str_beq x y
theorem Kd.eqv (a b : Kd) : PyData.eqv a.dat b.dat = decide (a = b) := by
  induction a generalizing b with
  | var x =>
    cases b with
    | var y => simp only [Kd.dat, eqv_tt, eqv_cc, eqv_ss, eqv_nn, decide_true, Bool.true_and, Bool.and_true, Kd.var.injEq]
    | con y => simp only [Kd.dat, eqv_tt, eqv_cc, eqv_ss, decide_eq_false ne_vc, Bool.false_and, reduceCtorEq, decide_false]
    | app c d => simp only [Kd.dat, eqv_tt, eqv_cc, eqv_ss, decide_eq_false ne_va, Bool.false_and, reduceCtorEq, decide_false]
  | con x =>
    cases b with
    | con y => simp only [Kd.dat, eqv_tt, eqv_cc, eqv_ss, eqv_nn, decide_true, Bool.true_and, Bool.and_true, Kd.con.injEq]
    | var y => simp only [Kd.dat, eqv_tt, eqv_cc, eqv_ss, decide_eq_false ne_cv, Bool.false_and, reduceCtorEq, decide_false]
    | app c d => simp only [Kd.dat, eqv_tt, eqv_cc, eqv_ss, decide_eq_false ne_ca, Bool.false_and, reduceCtorEq, decide_false]
  | app a1 a2 h1 h2 =>
    cases b with
    | var y => simp only [Kd.dat, eqv_tt, eqv_cc, eqv_ss, decide_eq_false ne_av, Bool.false_and, reduceCtorEq, decide_false]
    | con y => simp only [Kd.dat, eqv_tt, eqv_cc, eqv_ss, decide_eq_false ne_ac, Bool.false_and, reduceCtorEq, decide_false]
    | app c d =>
      simp only [Kd.dat, eqv_tt, eqv_cc, eqv_ss, eqv_nn, h1, h2, decide_true, Bool.true_and, Bool.and_true, Kd.app.injEq, Bool.decide_and]
theorem SqL.extT {K : PySem.W.Frag} {t c : Addr} {b : Nat} {H H' : Hp} {a : Addr} {xs : List V} (h : SqL K H a xs) (hT : Tape K H t c b) (e : Ext t H H') : SqL K H' a xs := by
  obtain ⟨kvs, hk⟩ := hT.dict
  rcases h with (h | ⟨o, h⟩) | h
  · exact .inl (.inl (e _ _ (ne_of h hk (by intro r; cases r)) h))
  · exact .inl (.inr ⟨o, e _ _ (ne_of h hk (by intro r; cases r)) h⟩)
  · exact .inr h
theorem Wok.str {x : Str} (h : Wok x) : PyData.strOk x = true := by
  unfold PyData.strOk
  rw [Array.all_eq_true']
  intro c hc
  have := h.2.2 c (by simpa using hc)
  exact decide_eq_true (by omega)
theorem Kd.lay : ∀ {k : Kd} {n : Nat}, Kd.fit n k → k.dat.canLay0 = true ∧ k.dat.depth ≤ n + 1
  | .var x, n, h => by
    have w : Wok x := by cases n <;> exact h
    refine ⟨?_, ?_⟩
    · simp only [Kd.dat, PyData.canLay0, PyData.canLayAll0, w.str, Bool.and_true]
      decide +kernel
    · simp [Kd.dat, PyData.depth, PyData.depthAll]
  | .con x, n, h => by
    have w : Wok x := by cases n <;> exact h
    refine ⟨?_, ?_⟩
    · simp only [Kd.dat, PyData.canLay0, PyData.canLayAll0, w.str, Bool.and_true]
      decide +kernel
    · simp [Kd.dat, PyData.depth, PyData.depthAll]
  | .app a b, n, h => by
    obtain ⟨m, rfl, h1, h2⟩ := Kd.fit_app h
    obtain ⟨a1, a2⟩ := Kd.lay h1
    obtain ⟨b1, b2⟩ := Kd.lay h2
    refine ⟨?_, ?_⟩
    · simp only [Kd.dat, PyData.canLay0, PyData.canLayAll0, a1, b1, Bool.and_true]
      decide +kernel
    · simp only [Kd.dat, PyData.depth, PyData.depthAll]
      omega
theorem Kd.shaped {k : Kd} {n : Nat} (h : Kd.fit n k) (hn : n ≤ 60) : SeqAt.shaped k.dat = true := by
  obtain ⟨h1, h2⟩ := Kd.lay h
  unfold SeqAt.shaped
  rw [h1, Bool.true_and]
  exact decide_eq_true (by omega)
/-- a list of words -/
theorem dp_words {K : PySem.W.Frag} {H : Hp} : ∀ ws : List Str, DpAll K H (ws.map V.str) (ws.map PyData.str)
  | [] => .nil
  | _ :: r => .cons (.str _) (dp_words r)
theorem lay_words : ∀ {ws : List Str}, (∀ x ∈ ws, Wok x) → PyData.canLayAll0 (ws.map PyData.str) = true ∧ PyData.depthAll (ws.map PyData.str) = 0
  | [], _ => ⟨by simp [PyData.canLayAll0], by simp [PyData.depthAll]⟩
  | x :: r, h => by
    obtain ⟨h1, h2⟩ := lay_words (ws := r) fun y hy => h y (List.mem_cons_of_mem _ hy)
    refine ⟨?_, ?_⟩
    · simp only [List.map_cons, PyData.canLayAll0, PyData.canLay0, (h x List.mem_cons_self).str, h1, Bool.true_and]
    · simp only [List.map_cons, PyData.depthAll, PyData.depth, h2]; rfl
theorem shaped_words {ws : List Str} (h : ∀ x ∈ ws, Wok x) : SeqAt.shaped (.list (ws.map PyData.str)) = true := by
  obtain ⟨h1, h2⟩ := lay_words h
  unfold SeqAt.shaped
  simp only [PyData.canLay0, h1, PyData.depth, h2]
  decide
theorem shaped_nil : SeqAt.shaped (.list []) = true := by decide
/-! ### rows of kinds, dicts of kinds -/
abbrev KdsAt (H : Hp) : List V → List Kd → Prop := Paired (KdAt H)
theorem paired_get {α β : Type} {F : α → β → Prop} : ∀ {xs : List α} {ys : List β} {i : Nat} {x : α}, Paired F xs ys → xs[i]? = some x → ∃ y, ys[i]? = some y ∧ F x y
  | _, _, _, _, .nil, e => by simp at e
  | _, _, 0, _, .cons r _, e => by simp at e; subst e; exact ⟨_, rfl, r⟩
  | _, _, i + 1, x, .cons _ t, e => by
    obtain ⟨y, h1, h2⟩ := paired_get (i := i) (x := x) t (by simpa using e)
    exact ⟨y, by simpa using h1, h2⟩
theorem paired_map {α β : Type} {F G : α → β → Prop} (h : ∀ a b, F a b → G a b) : ∀ {xs : List α} {ys : List β}, Paired F xs ys → Paired G xs ys
  | _, _, .nil => .nil
  | _, _, .cons r t => .cons (h _ _ r) (paired_map h t)
theorem KdsAt.tups {H H' : Hp} (h : Tups H H') {xs : List V} {ks : List Kd} (r : KdsAt H xs ks) : KdsAt H' xs ks := paired_map (fun _ _ q => KdAt.tups h q) r
theorem KdsAt.dp {K : PySem.W.Frag} {H : Hp} : ∀ {xs : List V} {ks : List Kd}, KdsAt H xs ks → DpAll K H xs (ks.map Kd.dat)
  | _, _, .nil => .nil
  | _, _, .cons r t => .cons r.dp (KdsAt.dp t)
abbrev By := List (Str × Kd)
def lk (by' : By) (x : Str) : Option Kd := (by'.find? fun p => decide (p.1 = x)).map (·.2)
theorem lk_nil (x : Str) : lk [] x = none := rfl
theorem lk_pos {p : Str × Kd} {r : By} {x : Str} (e : p.1 = x) : lk (p :: r) x = some p.2 := by simp [lk, List.find?_cons, e]
theorem lk_neg {p : Str × Kd} {r : By} {x : Str} (e : ¬ p.1 = x) : lk (p :: r) x = lk r x := by simp [lk, List.find?_cons, e]
abbrev ByAt (H : Hp) : List (Key × V) → By → Prop := Paired fun p q => p.1 = .inr q.1 ∧ KdAt H p.2 q.2
theorem ByAt.tups {H H' : Hp} (h : Tups H H') {kvs : List (Key × V)} {by' : By} (r : ByAt H kvs by') : ByAt H' kvs by' := paired_map (fun _ _ q => ⟨q.1, KdAt.tups h q.2⟩) r
theorem ByAt.get {H : Hp} (x : Str) : ∀ {kvs : List (Key × V)} {by' : By}, ByAt H kvs by' → (valV kvs (.inr x) = none ∧ lk by' x = none) ∨ ∃ v k, valV kvs (.inr x) = some v ∧ lk by' x = some k ∧ KdAt H v k
  | _, _, .nil => .inl ⟨rfl, rfl⟩
  | p :: kvs, q :: by', .cons r t => by
    by_cases e : q.1 = x
    · exact .inr ⟨p.2, q.2, valV_pos (by rw [r.1, e]), lk_pos e, r.2⟩
    · have e' : ¬ p.1 = (.inr x : Key) := by
        rw [r.1]
        intro z
        exact e (Sum.inr.inj z)
      rw [valV_neg e', lk_neg e]
      exact ByAt.get x t
def Kd.put (by' : By) : Kd → Kd
  | .var x => (lk by' x).getD (.var x)
  | .con x => .con x
  | .app a b => .app (a.put by') (b.put by')
def conK (x : Str) (ks : List Kd) : Kd := ks.foldl Kd.app (.con x)
theorem conK_snoc (x : Str) (ks : List Kd) (k : Kd) : conK x (ks ++ [k]) = .app (conK x ks) k := by
  unfold conK
  rw [List.foldl_append]
  rfl
theorem Kd.fit_put {by' : By} {m : Nat} (hb : ∀ x k, lk by' x = some k → Kd.fit m k) : ∀ {k : Kd} {n : Nat}, Kd.fit n k → Kd.fit (n + m) (k.put by')
  | .var x, n, h => by
    have w : Wok x := by cases n <;> exact h
    show Kd.fit (n + m) ((lk by' x).getD (.var x))
    cases e : lk by' x with
    | none =>
      show Kd.fit (n + m) (.var x)
      generalize n + m = j
      cases j <;> exact w
    | some k => exact Kd.fit_mono (by omega) (hb x k e)
  | .con x, n, h => by
    have w : Wok x := by cases n <;> exact h
    show Kd.fit (n + m) (.con x)
    generalize n + m = j
    cases j <;> exact w
  | .app a b, n, h => by
    obtain ⟨j, rfl, h1, h2⟩ := Kd.fit_app h
    show Kd.fit (j + 1 + m) (.app (a.put by') (b.put by'))
    rw [show j + 1 + m = j + m + 1 by omega]
    exact ⟨Kd.fit_put hb h1, Kd.fit_put hb h2⟩
theorem fitV {n : Nat} {x : Str} (w : Wok x) : Kd.fit n (.var x) := by cases n <;> exact w
theorem fitC {n : Nat} {x : Str} (w : Wok x) : Kd.fit n (.con x) := by cases n <;> exact w
theorem wok_of_var {n : Nat} {x : Str} (h : Kd.fit n (.var x)) : Wok x := by cases n <;> exact h
theorem wok_of_con {n : Nat} {x : Str} (h : Kd.fit n (.con x)) : Wok x := by cases n <;> exact h
theorem fit_fold {j : Nat} : ∀ {ks : List Kd} {h : Kd} {i : Nat}, Kd.fit i h → (∀ k ∈ ks, Kd.fit j k) → j ≤ i → Kd.fit (i + ks.length) (ks.foldl Kd.app h)
  | [], h, i, h1, _, _ => h1
  | k :: r, h, i, h1, h2, h3 => by
    have q : Kd.fit (i + 1) (.app h k) := ⟨h1, Kd.fit_mono h3 (h2 k List.mem_cons_self)⟩
    have z := fit_fold (ks := r) q (fun y hy => h2 y (List.mem_cons_of_mem _ hy)) (by omega)
    rw [List.length_cons, show i + (r.length + 1) = i + 1 + r.length by omega]
    exact z
theorem fit_conK {j : Nat} {x : Str} {ks : List Kd} (w : Wok x) (h : ∀ k ∈ ks, Kd.fit j k) : Kd.fit (j + ks.length) (conK x ks) := fit_fold (fitC w) h (Nat.le_refl _)
theorem eqv_ll (xs ys : List PyData) : PyData.eqv (.list xs) (.list ys) = PyData.eqvAll xs ys := by rw [PyData.eqv]
theorem words_ne {ws : List Str} : (!PyData.eqv (.list (ws.map PyData.str)) (.list [])) = !ws.isEmpty := by
  rw [eqv_ll]
  cases ws with
  | nil => rw [List.map_nil, eqv_nn]; rfl
  | cons x r => rw [List.map_cons, eqv_cn]; rfl
/-- rows (word, how many parts) -/
def ConsAt (K : PySem.W.Frag) (H : Hp) (l : Addr) : Prop := ∃ xs, SqL K H l xs ∧ 0 < xs.length ∧ xs.length < 1000 ∧ ∀ v ∈ xs, ∃ (a : Addr) (x : Str) (m : Nat), v = .ref a ∧ H a = some (.tup [.str x, .int (m : Int)]) ∧ m ≤ 2 ∧ Wok x
theorem ConsAt.ext {K : PySem.W.Frag} {t c : Addr} {b : Nat} {H H' : Hp} {l : Addr} (h : ConsAt K H l) (hT : Tape K H t c b) (e : Ext t H H') : ConsAt K H' l := by
  obtain ⟨xs, h1, h2, h3, h4⟩ := h
  refine ⟨xs, SqL.extT h1 hT e, h2, h3, fun v hv => ?_⟩
  obtain ⟨a, x, m, e1, e2, e3, e4⟩ := h4 v hv
  exact ⟨a, x, m, e1, Ext.tups e hT _ _ e2, e3, e4⟩
/-- the variables of kinds are among some words -/
def Kd.of (ws : List Str) : Kd → Prop
  | .var x => x ∈ ws
  | .con _ => True
  | .app a b => Kd.of ws a ∧ Kd.of ws b
theorem of_fold {ws : List Str} : ∀ {ks : List Kd} {h : Kd}, Kd.of ws h → (∀ k ∈ ks, Kd.of ws k) → Kd.of ws (ks.foldl Kd.app h)
  | [], _, h1, _ => h1
  | k :: r, h, h1, h2 => of_fold (ks := r) (h := .app h k) ⟨h1, h2 k List.mem_cons_self⟩ fun y hy => h2 y (List.mem_cons_of_mem _ hy)
theorem of_conK {ws : List Str} {x : Str} {ks : List Kd} (h : ∀ k ∈ ks, Kd.of ws k) : Kd.of ws (conK x ks) := of_fold (h := .con x) trivial h
/-! ### recursion -/
theorem fn_false {P : Program} {w : World} {K : PySem.W.Frag} {mg : Str → Option Value} {base : Heap} {f : Addr} {fd : FuncData} {ps : List Str} : FnOk P w K mg base CX0 0 f fd ps (fun _ _ _ _ => False) :=
  ⟨fun _ _ _ _ h => h.elim, fun _ _ _ _ _ _ _ _ _ _ _ _ _ h => h.elim⟩
end L3

namespace L3
open PySem L2
def topS (i : Nat) : Stmt := PySem.Challenge.pw_leastneeds_k57_whole_rules_of_primitives.main.body.getD i (.Pass ⟨0, 0, 0, 0⟩)
theorem cdiv_big {i j : Int} (h : 0 < j) (h2 : j ≤ 1000000000000000000000000000000) : CDivW i j := by
  refine wide_div (b := 100) h ?_ (by omega) (by omega)
  have e : (2:Nat) ^ 100 = 1267650600228229401496703205376 := by decide
  rw [e]
  omega
def inS (s : Stmt) (j : Nat) : Stmt := match s with
  | .ClassDef _ _ _ body _ _ _ _ _ _ _ => body.getD j (.Pass ⟨0, 0, 0, 0⟩)
  | s => s
section
variable {P : Program} {w : World} {K : PySem.W.Frag} {mg : Str → Option Value} {base : Heap}

abbrev s__law_begin : Stmt := topS 28
abbrev N__law_begin : List Str := ["_law_script"]
theorem sc__law_begin : FnScope N__law_begin ["_law_script"] (defScope s__law_begin) := ⟨rfl, rfl, rfl, by decide +kernel, rfl, by decide +kernel, by decide +kernel⟩
def spBegin (K : PySem.W.Frag) : Sp := fun vs H Q _ => ∃ (a : Addr) (ns : List Int), vs = [.ref a] ∧ SqL K H a (ns.map V.int) ∧ ∀ (H' : Hp) (t c : Addr), Same H H' → H t = none → Tape K H' t c 1000000 → Q (.ref t) H'
theorem cut63 (ns : List Int) : cutV (ns.map V.int) none (some 63) = (ns.take 63).map V.int := by
  unfold cutV
  rw [HT.sIx_none, show (63 : Int) = ((63 : Nat) : Int) from rfl, HT.sIx_nat, List.drop_zero, List.length_map, Nat.sub_zero, List.map_take]
  by_cases h : 63 ≤ ns.length
  · rw [Nat.min_eq_left h]
  · rw [Nat.min_eq_right (by omega), List.take_of_length_le (by simp), List.take_of_length_le (by simp; omega)]
theorem ok_begin {f : Addr} {fd : FuncData} (F : Fun K "_law_begin" "_law_begin" s__law_begin f fd) : FnOk P w K mg base CX0 1 f fd ["_law_script"] (spBegin K) := by
  refine F.ok sc__law_begin (fun vs H Q E h => ?_) (fun cdv A outer s H vs Q E hr h => ?_)
  · obtain ⟨a, ns, rfl, _⟩ := h
    rfl
  · obtain ⟨a, ns, rfl, hS, k⟩ := h
    refine ⟨_, (pss_one (ps_ret (pe_disp (pps_cons pe_str (pe_orT (pe_slice sl_list (pv 0) po_none (po_some pe_int)) (pe_one (pe_lst (pa_cons pe_int pa_nil)))) (pps_cons pe_str pe_int (pps_cons pe_str pe_int pps_nil))) (by rfl) (by rfl) (fun z => by cases z) (by decide)))), ?_⟩
    intro t ht
    have s0 : Same H (upd H t (.dK [])) := same_new ht
    refine ⟨_, rfl, _, rfl, a, _, rfl, s0.seq hS, fun q hq => ?_⟩
    rw [cut63]
    have nq : t ≠ q := fun e => by
      rw [← e, upd_same] at hq
      cases hq
    have s1 : Same (upd H t (.dK [])) (upd (upd H t (.dK [])) q (.lst ((ns.take 63).map V.int))) := same_new hq
    -- what stands at the end
    have fin : ∀ (H2 : Hp) (c : Addr) (ms : List Int), Same (upd H t (.dK [])) H2 → H2 c = some (.lst (ms.map V.int)) → c ≠ t → 0 < ms.length → ms.length ≤ 63 →
        H2 t = some (.dK []) ∧ ∃ kvs : List (Key × V), [(V.str "cells", V.ref c), (V.str "place", V.int 0), (V.str "left", V.int 0)] = kvs.map (fun kv => (kV kv.1, kv.2)) ∧ kvs.length ≤ 15 ∧ Q (.ref t) (upd H2 t (.dK (mergeK [] kvs))) := by
      intro H2 c ms h2 hc nc h0 h63
      refine ⟨h2 _ _ upd_same, tp c 0 0, rfl, by show 3 ≤ 15; decide, ?_⟩
      refine k _ t c (fun b o e => ?_) ht ⟨0, 0, ms, ?_, SqL.of ?_, nc, h0, h63, by omega, by omega, by omega⟩
      · have n : b ≠ t := ne_of_none e ht
        rw [upd_ne n]
        exact h2 _ _ (s0 _ _ e)
      · rw [upd_same]
        rfl
      · rw [upd_ne nc]
        exact hc
    refine ⟨_, .inl ⟨_, SqL.of upd_same, rfl⟩, ?_⟩
    cases hns : ns.take 63 with
    | nil =>
      rw [hns] at s1
      refine iteF ?_
      refine ⟨by decide, fun r hr2 => ?_⟩
      refine fin _ r [0] (s1.trans (same_new hr2)) upd_same (fun e => ?_) (by decide) (by decide)
      rw [e, upd_ne nq, upd_same] at hr2
      cases hr2
    | cons z zs =>
      refine iteT ?_
      refine fin _ q (z :: zs) (by rw [← hns]; exact s1) (by rw [upd_same]) nq.symm (Nat.zero_lt_succ _) ?_
      rw [← hns, List.length_take]
      omega

/-! ### a number from the tape -/
abbrev s__law_draw : Stmt := topS 29
abbrev N__law_draw : List Str := ["_law_tape", "_law_many", "_law_place", "_law_count", "_law_cell", "_law_found"]
theorem sc__law_draw : FnScope N__law_draw ["_law_tape", "_law_many"] (defScope s__law_draw) := ⟨rfl, rfl, rfl, by decide +kernel, rfl, by decide +kernel, by decide +kernel⟩
theorem get_left {H : Hp} {t c : Addr} {p l : Int} (h : H t = some (.dK (tp c p l))) : DGet H t (.str "left") (some (.int l)) := DGet.k (k := .inr "left") h
theorem get_place {H : Hp} {t c : Addr} {p l : Int} (h : H t = some (.dK (tp c p l))) : DGet H t (.str "place") (some (.int p)) := DGet.k (k := .inr "place") h
theorem get_cells {H : Hp} {t c : Addr} {p l : Int} (h : H t = some (.dK (tp c p l))) : DGet H t (.str "cells") (some (.ref c)) := DGet.k (k := .inr "cells") h
theorem put_left {H : Hp} {t c : Addr} {p l q : Int} (h : H t = some (.dK (tp c p l))) : DPut H t (.str "left") (.int q) (upd H t (.dK (tp c p q))) := DPut.k (k := .inr "left") (v := .int q) h (by show 3 < sizeLine; decide)
theorem put_place {H : Hp} {t c : Addr} {p l q : Int} (h : H t = some (.dK (tp c p l))) : DPut H t (.str "place") (.int q) (upd H t (.dK (tp c q l))) := DPut.k (k := .inr "place") (v := .int q) h (by show 3 < sizeLine; decide)
def spDraw (K : PySem.W.Frag) : Sp := fun vs H Q _ => ∃ (t c : Addr) (n : Int) (b : Nat), vs = [.ref t, .int n] ∧ 1 ≤ n ∧ n ≤ 1000000000000000000000000000000 ∧ Tape K H t c (b + 1) ∧
  ∀ (H' : Hp) (r : Int), Ext t H H' → Tape K H' t c b → 0 ≤ r → r < n → Q (.int r) H'
theorem ok_draw {f : Addr} {fd : FuncData} (F : Fun K "_law_draw" "_law_draw" s__law_draw f fd) (B : Bl mg) : FnOk P w K mg base CX0 1 f fd ["_law_tape", "_law_many"] (spDraw K) := by
  refine F.ok sc__law_draw (fun vs H Q E h => ?_) (fun cdv A outer s H vs Q E hr h => ?_)
  · obtain ⟨t, c, n, b, rfl, _⟩ := h
    rfl
  · obtain ⟨t, c, n, b, rfl, hn1, hn2, ⟨p, l, ns, h1, h2, h3, h4, h5, h6, h7, h8⟩, k⟩ := h
    have hu := hu_of hr
    refine ⟨_, (pss_cons (ps_if (pt_cmpR op_lt (pe_dget hu (pv 0) pe_str (fun _ _ => rfl)) (pv 1) (nomark _))
  (pss_cons (ps_par (i := 2) (j := 3) (by rfl) sc__law_draw.nd rfl rfl (by decide) rfl rfl (pa_cons (pe_dget hu (pv 0) pe_str (fun _ _ => rfl)) (pa_cons (pe_callB call_len (by rfl) B.len PySem.boot_len (pa_cons (pe_dget hu (pv 0) pe_str (fun _ _ => rfl)) pa_nil)) pa_nil)) (by rfl))
  (pss_cons (ps_asg (pe_tup (pa_cons (pe_ix ix_list (pe_dget hu (pv 0) pe_str (fun _ _ => rfl)) (pe_op op_mod (pe_callTy call_int1 (by rfl) B.int (by decide +kernel) (pa_cons (pv 2) pa_nil)) (pv 3)) (fun _ _ => rfl)) (pa_cons (pe_op op_add (pv 2) pe_int) pa_nil))) (pg_tup (by rfl) (pgs_cons (pg_name (i := 4) sc__law_draw.nd rfl (Or.inl rfl)) (pgs_cons (pg_sub (pv 0) pe_str (set_dict hu)) pgs_nil))))
  (pss_cons (ps_dput hu (pv 0) pe_str (pe_op op_mod (pe_callTy call_int1 (by rfl) B.int (by decide +kernel) (pa_cons (pe_op op_pow (pe_op op_add (pe_op op_add (pe_op op_mod (pe_callTy call_int1 (by rfl) B.int (by decide +kernel) (pa_cons (pv 4) pa_nil)) pe_int) (pe_op op_mul pe_int (pv 2))) pe_int) pe_int) pa_nil)) (pe_op op_add (pe_op op_pow pe_int pe_int) pe_int)) rfl)
  (pss_one (ps_if (PW.pt (pw_and (pt_cmpR op_ge (pv 4) (pe_op op_pow pe_int pe_int) (nomark _)) (pw_and1 (pt_cmpR op_lt (pv 2) (pv 3) (nomark _)))))
  (pss_one (ps_dput hu (pv 0) pe_str (pe_op op_sub (pv 4) (pe_op op_pow pe_int pe_int)) rfl))
  pss_nil)))))
  pss_nil)
  (pss_cons (ps_asg (pe_tup (pa_cons (pe_op op_mod (pe_callTy call_int1 (by rfl) B.int (by decide +kernel) (pa_cons (pe_dget hu (pv 0) pe_str (fun _ _ => rfl)) pa_nil)) (pv 1)) (pa_cons (pe_op op_fdivW (pe_dget hu (pv 0) pe_str (fun _ _ => rfl)) (pv 1)) pa_nil))) (pg_tup (by rfl) (pgs_cons (pg_name (i := 5) sc__law_draw.nd rfl (Or.inl rfl)) (pgs_cons (pg_sub (pv 0) pe_str (set_dict hu)) pgs_nil))))
  (pss_one (ps_ret (pv 5))))), ?_⟩
    -- the last two rows, from any tape
    have fin : ∀ (H1 : Hp) (p l : Int) (v2 v3 v4 : Option V), Ext t H H1 → H1 t = some (.dK (tp c p l)) → SqL K H1 c (ns.map V.int) → 0 ≤ p → p + b ≤ 1000000 → 0 ≤ l →
        tSeq (tAsg (tTup (tCons (tOp (rI (fun _ j => 0 < j) fun i j => .int (i % j)) (tCB (fun xs H Q => (∃ i, xs = [.int i] ∧ Q (.int i) H) ∨ ∃ k, xs = [.bl k] ∧ Q (.int (if k then 1 else 0)) H) (tCons (tDGet (tVar 0) (tC (.str "left"))) tNil)) (tVar 1)) (tCons (tOp (rI CDivW fun i j => .int (i / j)) (tDGet (tVar 0) (tC (.str "left"))) (tVar 1)) tNil)))
          (gTup K 2 (gCons (gName 5) (gCons (gSub (tVar 0) (tC (.str "left")) rSetD) gNil)))) (tRet (tVar 5)) { nx := fun _ H' => Q .non H', rt := Q } [some (.ref t), some (.int n), v2, v3, v4, none] H1 := by
      intro H1 p l v2 v3 v4 e1 g1 g2 g3 g4 g5
      refine ⟨_, rfl, _, _, rfl, get_left g1, .inl ⟨_, rfl, _, rfl, _, _, rfl, rfl, (by omega), ?_⟩⟩
      refine ⟨_, rfl, _, _, rfl, get_left g1, _, rfl, _, _, rfl, rfl, cdiv_big (by omega) (by omega), slz rfl, fun q hq => ?_⟩
      have nq : t ≠ q := ne_of_none g1 hq
      refine ⟨q, _, rfl, SqT.of upd_same, rfl, _, _, rfl, _, _, rfl, _, rfl, t, _, rfl, put_left (by rw [upd_ne nq]; exact g1), rfl, ?_⟩
      refine ⟨_, rfl, ?_⟩
      have e2 : Ext t H (upd H1 q (.tup [.int (l % n), .int (l / n)])) := e1.trans (Ext.new hq)
      refine k _ _ (e2.trans Ext.put) ⟨p, l / n, ns, upd_same, (SqL.ext g2 ((Ext.new hq).trans Ext.put) h3), h3, h4, h5, g3, g4, Int.ediv_nonneg g5 (by omega)⟩ (Int.emod_nonneg _ (by omega)) (Int.emod_lt_of_pos _ (by omega))
    refine ⟨_, rfl, _, _, rfl, get_left h1, _, rfl, _, _, rfl, rfl, _, rfl, ?_⟩
    refine ite2 (fun hc => ?_) (fun hc => ?_)
    · refine ⟨_, rfl, _, _, rfl, get_place h1, _, rfl, _, _, rfl, get_cells h1, _, _, rfl, .inl ⟨_, h2, rfl⟩, _, _, rfl, ?_⟩
      have hm : p % ((ns.map V.int).length : Int) = ((p % ((ns.map V.int).length : Int)).toNat : Int) := (Int.toNat_of_nonneg (Int.emod_nonneg _ (by rw [List.length_map]; omega))).symm
      have hlt : (p % ((ns.map V.int).length : Int)).toNat < ns.length := by
        have := Int.emod_lt_of_pos p (show (0 : Int) < ((ns.map V.int).length : Int) by rw [List.length_map]; omega)
        rw [List.length_map] at this ⊢
        omega
      refine ⟨_, rfl, _, _, rfl, get_cells h1, _, rfl, .inl ⟨_, rfl, _, rfl, _, _, rfl, rfl, (by rw [List.length_map]; omega), c, _, _, V.int (ns[(p % ((ns.map V.int).length : Int)).toNat]), rfl, rfl, h2, at_of hm (by rw [List.getElem?_map, List.getElem?_eq_getElem hlt]; rfl), ?_⟩⟩
      generalize ns[(p % ((ns.map V.int).length : Int)).toNat] = cell
      refine ⟨_, rfl, _, _, rfl, rfl, slz rfl, fun q hq => ?_⟩
      have nq : t ≠ q := ne_of_none h1 hq
      have g0 : (upd H q (.tup [.int cell, .int (p + 1)])) t = some (.dK (tp c p l)) := by rw [upd_ne nq]; exact h1
      refine ⟨q, _, rfl, SqT.of upd_same, rfl, _, _, rfl, _, _, rfl, _, rfl, t, _, rfl, put_place g0, rfl, ?_⟩
      have e1 : Ext t H (upd (upd H q (.tup [.int cell, .int (p + 1)])) t (.dK (tp c (p + 1) l))) := (Ext.new hq).trans Ext.put
      have hu1 : 0 ≤ cell % 2147483629 := Int.emod_nonneg _ (by decide)
      have hu2 : cell % 2147483629 < 2147483629 := Int.emod_lt_of_pos _ (by decide)
      refine ⟨_, rfl, .inl ⟨_, rfl, _, _, rfl, rfl, (show (0 : Int) < 2147483629 by decide), _, rfl, _, _, rfl, rfl, .inr ⟨by omega, by omega⟩, _, _, rfl, rfl, _, _, rfl, rfl, ?_⟩⟩
      refine ⟨_, _, rfl, rfl, ⟨by decide, by decide, ?_⟩, .inl ⟨_, rfl, ?_⟩⟩
      · show (cell % 2147483629 + 39373 * p + 69621).natAbs < 2 ^ 64
        omega
      generalize (cell % 2147483629 + 39373 * p + 69621) ^ (19 : Int).toNat = big
      refine ⟨_, _, rfl, rfl, ⟨by decide, by decide, by decide⟩, _, _, rfl, rfl, _, _, rfl, rfl, (show (0 : Int) < 10 ^ (52 : Int).toNat + 97 by decide +kernel), ?_⟩
      refine ⟨_, rfl, t, _, rfl, put_left upd_same, ?_⟩
      have hl : 0 ≤ big % (10 ^ (52 : Int).toNat + 97) := Int.emod_nonneg _ (by decide +kernel)
      generalize big % (10 ^ (52 : Int).toNat + 97) = l2 at hl ⊢
      have e3 : Ext t H (upd (upd (upd H q (.tup [.int cell, .int (p + 1)])) t (.dK (tp c (p + 1) l))) t (.dK (tp c (p + 1) l2))) := e1.trans Ext.put
      refine ⟨_, rfl, _, _, rfl, rfl, ⟨by decide, by decide, by decide⟩, _, _, rfl, rfl, _, rfl, ?_⟩
      refine ite2 (fun hc1 => ?_) (fun hc1 => ?_)
      · refine ⟨_, rfl, _, rfl, _, _, rfl, rfl, _, rfl, ?_⟩
        refine ite2 (fun hc2 => ?_) (fun hc2 => ?_)
        · refine ⟨_, rfl, _, _, rfl, rfl, ⟨by decide, by decide, by decide⟩, _, _, rfl, rfl, ?_⟩
          refine ⟨_, rfl, t, _, rfl, put_left upd_same, ?_⟩
          have hc3 : (10 : Int) ^ (18 : Int).toNat ≤ cell := of_decide_eq_true hc1
          exact fin _ (p + 1) _ _ _ _ (e3.trans Ext.put) upd_same (SqL.ext h2 (e3.trans Ext.put) h3) (by omega) (by omega) (by omega)
        · exact fin _ (p + 1) _ _ _ _ e3 upd_same (SqL.ext h2 e3 h3) (by omega) (by omega) hl
      · refine iteF ?_
        exact fin _ (p + 1) _ _ _ _ e3 upd_same (SqL.ext h2 e3 h3) (by omega) (by omega) hl
    · exact fin H p l none none none (Ext.refl _ _) h1 h2 h6 (by omega) h8
end
end L3

namespace L3
open PySem L2
section
variable {P : Program} {w : World} {K : PySem.W.Frag} {mg : Str → Option Value} {base : Heap}
theorem Fun.kn {x : Str} {st : Stmt} {f : Addr} {fd : FuncData} {k : Nat} {ps : List Str} {sp : Sp} (F : Fun K x x st f fd) (hm : mg x = some (.ref f)) (h : FnOk P w K mg base CX0 k f fd ps sp)
    (b : ∀ (kV doc pm : Value) (an : Option Addr) (cdv ct : Value) (us : List Value), us.length = ps.length → bindArgs (PySem.W.fnOf x x (defArgs st) (defBody st) (defScope st) .none kV doc pm an cdv ct) ⟨us, []⟩ = pure (ps.zip us)) : Kn P w K mg base k x ps sp :=
  ⟨f, fd, h, hm, F.kp, F.binds b⟩
abbrev s__law_pick : Stmt := topS 30
abbrev N__law_pick : List Str := ["_law_tape", "_law_items"]
theorem sc__law_pick : FnScope N__law_pick ["_law_tape", "_law_items"] (defScope s__law_pick) := ⟨rfl, rfl, rfl, by decide +kernel, rfl, by decide +kernel, by decide +kernel⟩
def spPick (K : PySem.W.Frag) : Sp := fun vs H Q _ => ∃ (t c l : Addr) (xs : List V) (b : Nat), vs = [.ref t, .ref l] ∧ SqL K H l xs ∧ 0 < xs.length ∧ xs.length < 1000000 ∧ Tape K H t c (b + 1) ∧
  ∀ (H' : Hp) (v : V), Ext t H H' → Tape K H' t c b → v ∈ xs → Q v H'
theorem ok_pick {f : Addr} {fd : FuncData} (F : Fun K "_law_pick" "_law_pick" s__law_pick f fd) (B : Bl mg) (D__law_draw : Kn P w K mg base 1 "_law_draw" ["_law_tape", "_law_many"] (spDraw K)) : FnOk P w K mg base CX0 2 f fd ["_law_tape", "_law_items"] (spPick K) := by
  refine F.ok sc__law_pick (fun vs H Q E h => ?_) (fun cdv A outer s H vs Q E hr h => ?_)
  · obtain ⟨t, c, l, xs, b, rfl, _⟩ := h
    rfl
  · obtain ⟨t, c, l, xs, b, rfl, h1, h2, h3, h4, k⟩ := h
    have hr__law_draw := hr
    refine ⟨_, (pss_one (ps_ret (pe_ix ix_list (pv 1) (pe_kn D__law_draw hr__law_draw (pa_cons (pv 0) (pa_cons (pe_callB call_len (by rfl) B.len PySem.boot_len (pa_cons (pv 1) pa_nil)) pa_nil))) (fun _ _ => rfl)))), ?_⟩
    refine ⟨_, rfl, _, rfl, _, rfl, _, _, rfl, .inl ⟨_, h1, rfl⟩, t, c, _, b, rfl, by omega, by omega, h4, fun H' r e1 e2 r1 r2 => ?_⟩
    have hj : r = (r.toNat : Int) := (Int.toNat_of_nonneg r1).symm
    have hlt : r.toNat < xs.length := by omega
    exact ⟨l, xs, r, xs[r.toNat], rfl, rfl, SqL.extT h1 h4 e1, at_of hj (List.getElem?_eq_getElem hlt), k H' _ e1 e2 (List.getElem_mem hlt)⟩

end
end L3

namespace L3
open PySem L2
/-! ### variables in order -/
def addV (fs : List Str) (x : Str) : List Str := if x ∈ fs then fs else fs ++ [x]
def Kd.vs : Kd → List Str → List Str
  | .var x, fs => addV fs x
  | .con _, fs => fs
  | .app a b, fs => b.vs (a.vs fs)
def vsL : List Kd → List Str → List Str
  | [], fs => fs
  | k :: r, fs => vsL r (k.vs fs)
def Kd.size : Kd → Nat
  | .var _ => 1
  | .con _ => 1
  | .app a b => a.size + b.size + 1
def sizeL : List Kd → Nat
  | [] => 0
  | k :: r => k.size + sizeL r
theorem Kd.size_pos (k : Kd) : 0 < k.size := by cases k <;> simp [Kd.size]
theorem eqV_str (x y : Str) : eqV (.str y) (.str x) = decide (y = x) := str_beq y x
theorem inV_words (x : Str) : ∀ fs : List Str, inV (.str x) (fs.map V.str) = decide (x ∈ fs)
  | [] => rfl
  | y :: r => by
    have ih := inV_words x r
    unfold inV at ih ⊢
    rw [List.map_cons, List.any_cons, ih, eqV_str]
    by_cases h : y = x
    · subst h
      simp
    · have h2 : ¬ x = y := fun e => h e.symm
      simp [h, h2]
theorem flat_words : ∀ fs : List Str, (fs.map V.str).all flatV = true
  | [] => rfl
  | _ :: r => by
    rw [List.map_cons, List.all_cons, flat_words r]
    rfl
/-- the last of a row -/
theorem paired_last {α β : Type} {F : α → β → Prop} : ∀ {xs : List α} {ys : List β} {y : β}, Paired F xs (ys ++ [y]) → ∃ xs0 x, xs = xs0 ++ [x] ∧ Paired F xs0 ys ∧ F x y
  | [], [], _, h => nomatch h
  | [], _ :: _, _, h => nomatch h
  | x :: xs, [], y, .cons r t => by
    cases t
    exact ⟨[], x, rfl, .nil, r⟩
  | x :: xs, z :: ys, y, .cons r t => by
    obtain ⟨xs0, w, e, h1, h2⟩ := paired_last (ys := ys) t
    exact ⟨x :: xs0, w, by rw [e]; rfl, .cons r h1, h2⟩
theorem paired_snoc {α β : Type} {F : α → β → Prop} {xs : List α} {ys : List β} {x : α} {y : β} (h : Paired F xs ys) (r : F x y) : Paired F (xs ++ [x]) (ys ++ [y]) := Paired.snoc h r
theorem paired_rev {α β : Type} {F : α → β → Prop} : ∀ {xs : List α} {ys : List β}, Paired F xs ys → Paired F xs.reverse ys.reverse
  | _, _, .nil => .nil
  | _, _, .cons r t => by
    rw [List.reverse_cons, List.reverse_cons]
    exact Paired.snoc (paired_rev t) r
theorem kds_snoc : ∀ ks : List Kd, ks ≠ [] → ∃ ks0 k, ks = ks0 ++ [k] := fun ks h => ⟨ks.dropLast, ks.getLast h, (List.dropLast_concat_getLast h).symm⟩
theorem shaped_kds {ks : List Kd} (h : ∀ k ∈ ks, k.fit 60) : SeqAt.shaped (.list (ks.map Kd.dat)) = true := by
  have key : ∀ ks : List Kd, (∀ k ∈ ks, k.fit 60) → PyData.canLayAll0 (ks.map Kd.dat) = true ∧ PyData.depthAll (ks.map Kd.dat) ≤ 61 := by
    intro ks
    induction ks with
    | nil => intro _; exact ⟨by simp [PyData.canLayAll0], by simp [PyData.depthAll]⟩
    | cons k r ih =>
      intro h
      obtain ⟨h1, h2⟩ := ih fun y hy => h y (List.mem_cons_of_mem _ hy)
      obtain ⟨h3, h4⟩ := Kd.lay (h k List.mem_cons_self)
      refine ⟨by simp only [List.map_cons, PyData.canLayAll0, h3, h1, Bool.true_and], ?_⟩
      simp only [List.map_cons, PyData.depthAll]
      omega
  obtain ⟨h1, h2⟩ := key ks h
  unfold SeqAt.shaped
  simp only [PyData.canLay0, h1, PyData.depth, Bool.true_and]
  exact decide_eq_true (by omega)
theorem kds_ne {ks : List Kd} : (!PyData.eqv (.list (ks.map Kd.dat)) (.list [])) = !ks.isEmpty := by
  rw [eqv_ll]
  cases ks with
  | nil => rw [List.map_nil, eqv_nn]; rfl
  | cons x r => rw [List.map_cons, eqv_cn]; rfl
/-! ### matching -/
def Kd.mt : Kd → Kd → By → Bool × By
  | .var x, k, b => match lk b x with
    | some k' => (decide (k' = k), b)
    | none => (true, b ++ [(x, k)])
  | .con x, k, b => (decide (Kd.con x = k), b)
  | .app a c, .app d e, b => if (a.mt d b).1 = true then c.mt e (a.mt d b).2 else (false, (a.mt d b).2)
  | .app _ _, .var _, b => (false, b)
  | .app _ _, .con _, b => (false, b)
def mtL : List Kd → List Kd → By → Option By
  | p :: ps, k :: ks, b => if (p.mt k b).1 = true then mtL ps ks (p.mt k b).2 else none
  | _, _, b => some b
def mtP : List (Kd × Kd) → By → Option By
  | [], b => some b
  | (p, k) :: r, b => if (p.mt k b).1 = true then mtP r (p.mt k b).2 else none
theorem mtP_zip : ∀ (ps ks : List Kd) (b : By), mtP (ps.zip ks) b = mtL ps ks b
  | [], _, _ => rfl
  | _ :: _, [], _ => rfl
  | p :: ps, k :: ks, b => by
    show (if (p.mt k b).1 = true then mtP (ps.zip ks) (p.mt k b).2 else none) = if (p.mt k b).1 = true then mtL ps ks (p.mt k b).2 else none
    rw [mtP_zip ps ks]
theorem mtP_app (a c d e : Kd) (r : List (Kd × Kd)) (b : By) : mtP ((.app a c, .app d e) :: r) b = mtP ((a, d) :: (c, e) :: r) b := by
  show (if ((Kd.app a c).mt (.app d e) b).1 = true then mtP r ((Kd.app a c).mt (.app d e) b).2 else none) = if (a.mt d b).1 = true then (if (c.mt e (a.mt d b).2).1 = true then mtP r (c.mt e (a.mt d b).2).2 else none) else none
  by_cases h : (a.mt d b).1 = true
  · have q : (Kd.app a c).mt (.app d e) b = c.mt e (a.mt d b).2 := by simp only [Kd.mt, if_pos h]
    rw [if_pos h, q]
  · have q : (Kd.app a c).mt (.app d e) b = (false, (a.mt d b).2) := by simp only [Kd.mt, if_neg h]
    rw [if_neg h, q]
    rfl
theorem lk_snoc {b : By} {x : Str} {k : Kd} (h : lk b x = none) (y : Str) : lk (b ++ [(x, k)]) y = if y = x then some k else lk b y := by
  induction b with
  | nil =>
    by_cases e : x = y
    · rw [if_pos e.symm]
      exact lk_pos e
    · rw [if_neg (fun z => e z.symm)]
      exact lk_neg e
  | cons p r ih =>
    have hk : ¬ p.1 = x := fun z => by rw [lk_pos z] at h; cases h
    rw [lk_neg hk] at h
    rw [List.cons_append]
    by_cases e : p.1 = y
    · rw [lk_pos e, lk_pos e, if_neg (fun z => hk (e.trans z))]
    · rw [lk_neg e, lk_neg e, ih h]
theorem lk_mem {b : By} {x : Str} {k : Kd} (h : lk b x = some k) : (x, k) ∈ b := by
  induction b with
  | nil => cases h
  | cons p r ih =>
    by_cases e : p.1 = x
    · rw [lk_pos e] at h
      have : p = (x, k) := by
        obtain ⟨p1, p2⟩ := p
        have e' : p1 = x := e
        have h' : p2 = k := Option.some.inj h
        rw [e', h']
      rw [this]
      exact List.mem_cons_self
    · rw [lk_neg e] at h
      exact List.mem_cons_of_mem _ (ih h)
/-- what matching adds -/
theorem Kd.mt_grow {m : Nat} : ∀ (p k : Kd) (b : By), k.fit m → (∀ q ∈ b, q.2.fit m) → (p.mt k b).2.length ≤ b.length + p.size ∧ ∀ q ∈ (p.mt k b).2, q.2.fit m
  | .var x, k, b, hk, hb => by
    simp only [Kd.mt]
    cases e : lk b x with
    | some k' => exact ⟨Nat.le_add_right _ _, hb⟩
    | none =>
      refine ⟨by simp [Kd.size], fun q hq => ?_⟩
      rcases List.mem_append.mp hq with h | h
      · exact hb q h
      · rw [List.mem_singleton.mp h]
        exact hk
  | .con x, k, b, hk, hb => ⟨Nat.le_add_right _ _, hb⟩
  | .app a c, .app d e, b, hk, hb => by
    obtain ⟨j, rfl, h1, h2⟩ := Kd.fit_app hk
    have h1' := Kd.fit_mono (Nat.le_succ j) h1
    have h2' := Kd.fit_mono (Nat.le_succ j) h2
    obtain ⟨g1, g2⟩ := Kd.mt_grow a d b h1' hb
    obtain ⟨g3, g4⟩ := Kd.mt_grow c e (a.mt d b).2 h2' g2
    simp only [Kd.mt]
    by_cases h : (a.mt d b).1 = true
    · rw [if_pos h]
      refine ⟨?_, g4⟩
      simp only [Kd.size]
      omega
    · rw [if_neg h]
      refine ⟨?_, g2⟩
      simp only [Kd.size]
      omega
  | .app _ _, .var _, b, _, hb => ⟨Nat.le_add_right _ _, hb⟩
  | .app _ _, .con _, b, _, hb => ⟨Nat.le_add_right _ _, hb⟩
/-- the names, as the variables come -/
def names (b : By) : List Str := b.map (·.1)
theorem lk_names (b : By) (x : Str) : (lk b x).isSome = decide (x ∈ names b) := by
  induction b with
  | nil => rfl
  | cons p r ih =>
    by_cases e : p.1 = x
    · rw [lk_pos e]
      simp [names, e]
    · rw [lk_neg e, ih]
      have e' : ¬ x = p.1 := fun z => e z.symm
      have q : names (p :: r) = p.1 :: names r := rfl
      rw [q]
      simp [e']
theorem Kd.mt_names : ∀ (p k : Kd) (b : By), (p.mt k b).1 = true → names (p.mt k b).2 = p.vs (names b)
  | .var x, k, b, h => by
    have hn := lk_names b x
    simp only [Kd.mt, Kd.vs, addV] at h ⊢
    cases e : lk b x with
    | some k' =>
      rw [e] at hn
      have : x ∈ names b := of_decide_eq_true hn.symm
      simp only [this, if_true]
    | none =>
      rw [e] at hn
      have : ¬ x ∈ names b := of_decide_eq_false hn.symm
      rw [if_neg this]
      simp [names]
  | .con x, k, b, _ => rfl
  | .app a c, .app d e, b, h => by
    simp only [Kd.mt, Kd.vs] at h ⊢
    by_cases h1 : (a.mt d b).1 = true
    · rw [if_pos h1] at h ⊢
      rw [Kd.mt_names c e _ h, Kd.mt_names a d b h1]
    · rw [if_neg h1] at h
      cases h
  | .app _ _, .var _, b, h => by simp [Kd.mt] at h
  | .app _ _, .con _, b, h => by simp [Kd.mt] at h
theorem mtL_names : ∀ (ps ks : List Kd) (b c : By), ps.length = ks.length → mtL ps ks b = some c → names c = vsL ps (names b)
  | [], [], b, c, _, h => by cases h; rfl
  | [], _ :: _, _, _, h, _ => by cases h
  | _ :: _, [], _, _, h, _ => by cases h
  | p :: ps, k :: ks, b, c, hl, h => by
    simp only [mtL] at h
    by_cases h1 : (p.mt k b).1 = true
    · rw [if_pos h1] at h
      rw [mtL_names ps ks _ c (Nat.succ.inj hl) h, Kd.mt_names p k b h1]
      rfl
    · rw [if_neg h1] at h
      cases h
end L3

/-! repr of nested data; a law's own run, where nothing else is being shown -/
namespace L3
open PySem PySem.Spec PyProof.Rows L2
section
variable {X : Cx}
/-- repr of a list or tuple of nested data -/
def rRepr (K : PySem.W.Frag) : List V → Hp → VK → Prop := fun xs H Q => ∃ (a : Addr) (d : PyData), xs = [.ref a] ∧ Dp K H (.ref a) d ∧ d.showable = true ∧ d.hasDict = false ∧ d.depth ≤ 60 ∧ d.shown.length ≤ sizeLine ∧ Q (.str d.shown) H
theorem call_reprD (hg : X.A.guards = some []) (hu : X.A.units + 64 < cLine) : CallR X (.builtin "repr") (rRepr X.K) := by
  intro pins s σ H xs us Q I r h
  obtain ⟨a, d, rfl, hd, hs, hn, hdep, hsz, q⟩ := h
  obtain ⟨u, rfl, rx⟩ := vals1 r
  obtain rfl : u = Value.ref a := rx
  obtain ⟨as, hr⟩ := Dp.reads I d _ _ hd (show RelV (.ref a) (.ref a) from rfl)
  exact repr_of_reads' hr hs (fun z => by rw [hn] at z; cases z) hg (by omega) (fun _ _ e => e) (fun h' u tk hk => ⟨.str d.shown, H, I.kept (t' := tk) hk, ⟨u, rfl⟩, q⟩) hsz
end
/-- the law's own def, called by nobody -/
def LawRun (P : Program) (w : World) (K : PySem.W.Frag) (mg : Str → Option Value) (base : Heap) (f : Addr) (fd : FuncData) (x : Str) (sp : List V → Hp → VK → Prop) : Prop :=
  ∀ (s : Shared) (H : Hp) (args : Args) (u : Value) (v : V) (Q : VK), Env0 P w K mg base callerA [] s H → BindsTo s fd args [(x, u)] → RelV v u → sp [v] H Q → codeAny (model P w) callerA (.call (.ref f) args) (CR CX0 [] P w H s Q E0) s
section
variable {P : Program} {w : World} {K : PySem.W.Frag} {mg : Str → Option Value} {base : Heap}
theorem lawRun_of {st : Stmt} {f : Addr} {fd : FuncData} {N : List Str} {k : Nat} {x : Str} {sp : List V → Hp → VK → Prop} (F : Fun K "law" "law" st f fd) (S : FnScope N [x] (defScope st)) (hroom : Room (k + 1) callerA)
    (hbody : ∀ (cdv : Value) (s : Shared) (H : Hp) (v : V) (Q : VK), Room k (callerA.deeper (envOfC "law" (defScope st) s.heap.objs.size f cdv)) → sp [v] H Q →
      ∃ t, PSs (cxOf CX0 P w K mg base N "law" (defScope st) f cdv callerA [] s H E0).nox (defBody st) t ∧ t { nx := fun _ H' => Q .non H', rt := Q } (start N [v]) H) : LawRun P w K mg base f fd x sp := by
  obtain ⟨oc, od, kV, doc, pm, an, cdv, ct, osl, rfl, lk, hcd⟩ := F.ex
  intro s H args u v Q e0 hb rv hsp
  have inK : K.In s.heap := e0.mod.kin.keeps fun b o z => (e0.bs b o z).1
  have noL : s.heap.NoLimit := e0.mod.nolimit.keeps fun b o z => (e0.bs b o z).1
  have kinds : ∀ y ∈ ([x].zip [u] : List (Str × Value)), (defScope st).names.lookup y.1 = some .local ∨ ((defScope st).names.lookup y.1 = some .cell ∧ ((cellsFrom (s.heap.objs.size + 1) (defScope st).names []).lookup y.1).isSome = true) := by
    rintro ⟨n, z⟩ hy
    rcases S.par n (List.of_mem_zip hy).1 with q | q
    · exact Or.inl q
    · exact Or.inr ⟨q, PySem.W.cellsFrom_some _ _ _ (Or.inl q)⟩
  refine codeAny_call_function (Room.depth hroom) (inK _ _ lk) rfl S.co S.gen rfl (PySem.W.codeRec_of inK hcd) (hb _ _ _ _ ?_)
  refine wpAny_newFunctionEnv_cells S.kind kinds fun env he s1 xx => ?_
  subst he
  refine ⟨noL.keeps xx.toInCall.keep, codeAny_func ?_⟩
  obtain ⟨t, ht, hq⟩ := hbody cdv s H v Q (Room.deeper hroom _) hsp
  have J : Inv (cxOf CX0 P w K mg base N "law" (defScope st) f cdv callerA [] s H E0) [] (start N [v]) H s1 := inv_start S rfl e0 rfl (Paired.cons rv .nil) xx
  refine wpAny_mono ((PSs.nox ht).run [] s1 (start N [v]) H _ J hq) (fun fl s' hs => ?_) (fun e s' hs => hs)
  cases fl with
  | next =>
    obtain ⟨σ', H', J', q⟩ := hs
    exact ⟨V.non, H', J'.os, J'.bare, J'.base, J'.hok, rfl, q⟩
  | ret z =>
    obtain ⟨v', σ', H', J', rz, q⟩ := hs
    exact ⟨v', H', J'.os, J'.bare, J'.base, J'.hok, rz, q⟩
  | brk =>
    obtain ⟨_, _, _, q⟩ := hs
    exact q.elim
  | cont =>
    obtain ⟨_, _, _, q⟩ := hs
    exact q.elim
end
section
variable {P : Program} {w : World} {K : PySem.W.Frag} {mg mb : Str → Option Value} {fa a : Addr} {fd : FuncData} {x : Str} {sp : List V → Hp → VK → Prop} {s1 : Shared} {vs : List Value} {ns : List Int}
/-- what the law's call has to come to -/
abbrev LawEnd (s1 : Shared) (r : Result) (s' : Shared) : Prop := r = .ok (.ret (.bool true)) ∧ OldK s1.heap s'.heap ∧ s'.os = s1.os ∧ AllBare s'.gens
theorem law_core (inK : K.In s1.heap) (gl : s1.heap.Ns mainGlobals mg) (bi : s1.heap.Ns builtinsNs mb) (bb : ∀ y : Str, y ≠ "__name__" → mb y = bootBuiltins y) (nl : s1.heap.NoLimit) (ng : s1.gens = #[])
    (ob : s1.heap.get? a = some { cls := .type "list", data := .seq vs.toArray }) (run : ∀ base : Heap, K.In base → base.Ns mainGlobals mg → LawRun P w K mg base fa fd x sp)
    (bind : ∀ (s : Shared) (u : Value), BindsTo s fd ⟨[u], []⟩ [(x, u)]) (want : ∀ H : Hp, Only H → SqL K H a (ns.map V.int) → sp [.ref a] H (fun v _ => v = .bl true))
    (H : Hp) (hO : Only H) (hS : SqL K H a (ns.map V.int)) (ok : HOk P w H s1.heap) (alone : ∀ b, H b ≠ none → b = a) (off : H a ≠ none → K.lookup a = none) :
    codeAny (model P w) callerA (.call (.ref fa) ⟨[.ref a], []⟩) (LawEnd s1) s1 := by
  -- a thing that is tracked is the script
  have isA : ∀ {b : Addr} {u : HO}, H b = some u → b = a := fun {b u} q => alone b (by rw [q]; simp)
  have hid : ∀ {b : Addr} {o : Obj}, s1.heap.get? b = some o → H b = none → (hidT s1.heap H).get? b = some o := fun z n => hidT_get z n
  have dictFree : ∀ {b : Addr} {o : Obj} {es : Array DictEntry} {ep : Nat}, s1.heap.get? b = some o → o.data = .dict es ep → H b = none := by
    intro b o es ep z dd
    cases q : H b with
    | none => rfl
    | some u =>
      have e' := isA q
      subst e'
      rw [ob] at z
      cases z
      have dd' : Data.seq vs.toArray _ = Data.dict es ep := dd
      cases dd'
  have nsH : ∀ {b : Addr} {m : Str → Option Value}, s1.heap.Ns b m → (hidT s1.heap H).Ns b m := by
    rintro b m ⟨o, es, ep, z, dd, r⟩
    exact ⟨o, es, ep, hid z (dictFree z dd), dd, r⟩
  have inH : K.In (hidT s1.heap H) := by
    intro b o z
    refine hid (inK b o z) ?_
    cases q : H b with
    | none => rfl
    | some u =>
      have e' := isA q
      subst e'
      rw [off (by rw [q]; simp)] at z
      cases z
  have md : Mod K mg (hidT s1.heap H) := by
    obtain ⟨mc, z1, z2⟩ := nl
    exact ⟨inH, nsH gl, ⟨mb, nsH bi, bb⟩, ⟨mc, nsH z1, z2⟩⟩
  have e0 : Env0 P w K mg (hidT s1.heap H) callerA [] s1 H := by
    refine ⟨rfl, md, fun b o z => of_hidT z, Nat.le_of_eq (hidT_size _ _), trivial, ?_, ok, .of_eq ng⟩
    intro b hb
    exact nomatch (show b ∈ ([] : List Addr) from hb)
  refine codeAny_mono (run _ inH (nsH gl) s1 H ⟨[.ref a], []⟩ (.ref a) (.ref a) _ e0 (bind s1 (.ref a)) rfl (want H hO hS)) fun r s' h => ?_
  cases r with
  | error e => exact h.elim
  | ok fl =>
    cases fl with
    | next => exact h.elim
    | brk => exact h.elim
    | cont => exact h.elim
    | ret u =>
      obtain ⟨v, H', os, bare, un, ok', r', q⟩ := h
      obtain rfl : v = .bl true := q
      obtain rfl : u = Value.bool true := r'
      refine ⟨rfl, OldK.of_keep fun b o z => ?_, os, bare⟩
      cases q : H b with
      | none => exact un.keep b o z q (fun y => nomatch (show b ∈ ([] : List Addr) from y)) (fun y => nomatch y)
      | some u =>
        rcases hO b with y | ⟨o2, xs, y⟩
        · rw [q] at y
          cases y
        · obtain ⟨z1, _⟩ := ok b _ y
          obtain ⟨z2, _⟩ := ok' b _ (un.frzs b o2 _ y)
          rw [z] at z1
          cases z1
          exact z2
theorem law_callG (inK : K.In s1.heap) (gl : s1.heap.Ns mainGlobals mg) (bi : s1.heap.Ns builtinsNs mb) (bb : ∀ y : Str, y ≠ "__name__" → mb y = bootBuiltins y) (nl : s1.heap.NoLimit) (ng : s1.gens = #[])
    (ob : s1.heap.get? a = some { cls := .type "list", data := .seq vs.toArray }) (hi : IntsAre vs ns) (hl : ns.length ≤ sizeLine) (run : ∀ base : Heap, K.In base → base.Ns mainGlobals mg → LawRun P w K mg base fa fd x sp)
    (bind : ∀ (s : Shared) (u : Value), BindsTo s fd ⟨[u], []⟩ [(x, u)]) (want : ∀ H : Hp, Only H → SqL K H a (ns.map V.int) → sp [.ref a] H (fun v _ => v = .bl true)) :
    codeAny (model P w) callerA (.call (.ref fa) ⟨[.ref a], []⟩) (LawEnd s1) s1 := by
  have rv := vals_ints hi
  cases hk : K.lookup a with
  | some o =>
    have z := inK a o hk
    rw [ob] at z
    cases z
    have hS : SqL K (fun _ => none) a (ns.map V.int) := Or.inr ⟨_, vs.toArray, _, hk, rfl, rfl, rfl, by rw [List.size_toArray, hi.length]; exact hl, by simpa using rv⟩
    exact law_core inK gl bi bb nl ng ob run bind want (fun _ => none) (fun _ => .inl rfl) hS (fun _ _ z => nomatch (show (none : Option HO) = some _ from z)) (fun _ z => (z rfl).elim) (fun z => (z rfl).elim)
  | none =>
    let fz : HO := .frz { cls := .type "list", data := .seq vs.toArray } (.lst (ns.map V.int))
    have at1 : upd (fun _ => none) a fz a = some fz := upd_same
    refine law_core inK gl bi bb nl ng ob run bind want (upd (fun _ => none) a fz) (fun b => ?_) (.inl (.inr ⟨_, at1⟩)) (fun b u z => ?_) (fun b z => ?_) fun _ => hk
    · by_cases hb : b = a
      · rw [hb, at1]
        exact .inr ⟨_, _, rfl⟩
      · exact .inl (upd_ne hb)
    · by_cases hb : b = a
      · subst hb
        rw [at1] at z
        cases z
        exact ⟨ob, by rw [List.length_map]; exact hl, vs, _, rv, ob⟩
      · rw [upd_ne hb] at z
        cases z
    · by_cases hb : b = a
      · exact hb
      · exact (z (upd_ne hb)).elim
end
/-- the end of a law whose own def is run by LawRun -/
theorem walkG {l : PySem.W.OpenLaw} {n : Nat} {q : Program} {loose : List Str} {XP : (Str → Option Value) → Heap → Prop} {YP : World → Heap → Prop} {d : DefRec} {K : Params → PySem.W.Frag} {sp : PySem.W.Frag → List V → Hp → VK → Prop} {x : Str}
    (hn : l.most = some n) (hn2 : n ≤ sizeLine) (hdf : d.params.defaults = []) (hY : ∀ (w : World) (h : Heap), YP w h → (K w.params).In h)
    (F : ∀ (w : World) (mg : Str → Option Value) (fa : Addr) (h : Heap), (K w.params).In h → h.Ns mainGlobals mg → mg d.name = some (.ref fa) →
      ∃ fd : FuncData, (∀ (s : Shared) (u : Value), BindsTo s fd ⟨[u], []⟩ [(x, u)]) ∧ ∀ base : Heap, (K w.params).In base → base.Ns mainGlobals mg → LawRun l.prog w (K w.params) mg base fa fd x (sp (K w.params)))
    (want : ∀ (K : PySem.W.Frag) (H : Hp) (a : Addr) (ns : List Int), ns.length ≤ n → SqL K H a (ns.map V.int) → sp K [.ref a] H (fun v _ => v = .bl true)) : PySem.W.WalkO q loose XP YP l.row.toRowW d [] (fun f vs => PySem.call f vs) := by
  refine Att.attach_call hn hdf ?_
  intro w s0 s1 mg mb fa o pm cd doc a vs ns G Y ho hd hcd hmg hobj hints hlen hg
  obtain ⟨fd, hb, run⟩ := F w mg fa _ (hY w _ Y) G.T.g hmg
  exact law_callG (hY w _ Y) G.T.g G.T.b G.T.builtins G.T.nolimit hg hobj hints (Nat.le_trans hlen hn2) run hb (fun H _ hS => want _ H a ns hlen hS)
end L3

/-! list(zip(a, b)) over two lists or two tuples of one length -/
namespace L3
open PySem PySem.Spec PyProof.Rows L2
section
variable {prog : Program} {w : World} {A : Around} {E : Value → Shared → Prop} {s : Shared} {z TI TO T i1 i2 l1 l2 : Addr} {f : Bool} {oT : Obj} {xs ys : Array Value}
/-- a zip of tuples whose last pair is still out gives the next pair -/
theorem zt_item {k1 k2 : Nat} {x y : Value} {Q : Option Value → Shared → Prop} (D : ZipApart z TI TO i1 i2 l1 l2) (hz : IsZipHeld s.heap z TI TO T f) (hT : s.heap.get? T = some oT) (hTI : IsPair s.heap TI (.ref i1) (.ref i2))
    (a1 : s.heap.IsTupleIter i1 l1 k1) (a2 : s.heap.IsTupleIter i2 l2 k2) (t1 : s.heap.IsTuple l1 xs) (t2 : s.heap.IsTuple l2 ys) (ex : xs[k1]? = some x) (ey : ys[k2]? = some y)
    (q : ∀ h', IsZipHeld h' z TI TO T true → h'.IsTupleIter i1 l1 (k1 + 1) → h'.IsTupleIter i2 l2 (k2 + 1) → IsPair h' s.heap.objs.size x y → h'.objs.size = s.heap.objs.size + 1 →
      (∀ b o, b ≠ z → b ≠ i1 → b ≠ i2 → s.heap.get? b = some o → h'.get? b = some o) → Q (some (.ref s.heap.objs.size)) { s with heap := h' }) : wpAny (model prog w) A (pyNext (.ref z)) Q E s := by
  have isZip : s.TypeIs (.ref z) "zip" := ⟨_, hz, rfl⟩
  have body : ∀ (A' : Around) (E' : Value → Shared → Prop), wpAny (model prog w) A' (Builtin.«zip.__next__» ⟨[.ref z], []⟩) (fun fin s' => ∃ v, fin = .done (.ret v) ∧ Q (some v) s') E' s := by
    intro A' E'
    show wpAny _ _ (field (.ref z) 2 >>= _) _ _ s
    refine wpAny_bind (wpAny_field (i := 2) hz rfl rfl ?_)
    show wpAny _ _ (field (.ref z) 3 >>= _) _ _ s
    refine wpAny_bind (wpAny_field (i := 3) hz rfl rfl (wpAny_bind (wpAny_seqItems hTI rfl ?_)))
    refine wpAny_bind (wpAny_tupleHeld_zip hz hT fun ha hza hsa => ?_)
    rw [if_neg Bool.false_ne_true]
    refine wpAny_bind ?_
    rw [← Array.forIn_toList]
    simp only [List.forIn_nil, List.forIn_cons]
    refine wpAny_bind (wpAny_bind (wpAny_holding (wpAny_bind (RZ.nextOf_tuple_item (a1.extBut hsa.extBut D.i1z) (t1.extBut hsa.extBut D.l1z) ex fun hb b1 hsb => wpAny_pure (wpAny_pure ?_)))))
    refine wpAny_bind (wpAny_bind (wpAny_holding (wpAny_bind (RZ.nextOf_tuple_item ((a2.extBut hsa.extBut D.i2z).extBut hsb.extBut D.i12.symm) ((t2.extBut hsa.extBut D.l2z).extBut hsb.extBut D.l2i1) ey fun hc c2 hsc => wpAny_pure (wpAny_pure ?_)))))
    refine wpAny_pure ?_
    show wpAny _ _ (newTuple [x, y] >>= _) _ _ _
    refine wpAny_bind (wpAny_newTuple ?_)
    have size3 : hc.objs.size = s.heap.objs.size := (hsc.1.trans hsb.1).trans hsa.1
    have stays : ∀ b o, b ≠ z → b ≠ i1 → b ≠ i2 → s.heap.get? b = some o → hc.get? b = some o := fun b o n1 n2 n3 e => hsc.extBut b o n3 (hsb.extBut b o n2 (hsa.extBut b o n1 e))
    have pz : IsZipHeld hc z TI TO T true := hsc.extBut z _ D.i2z.symm (hsb.extBut z _ D.i1z.symm hza)
    refine wpAny_pure ⟨_, rfl, ?_⟩
    have fresh : IsPair (hc.push { cls := .type "tuple", data := .seq #[x, y] }) hc.objs.size x y := Heap.get?_push_size _ rfl
    have one : (hc.push { cls := .type "tuple", data := .seq #[x, y] }).objs.size = hc.objs.size + 1 := Heap.size_push ..
    show Q (some (.ref hc.objs.size)) _
    rw [size3] at fresh one ⊢
    exact q _ (Heap.get?_push_of_some _ pz) ((b1.extBut hsc.extBut D.i12).at fun o e => Heap.get?_push_of_some _ e) (c2.at fun o e => Heap.get?_push_of_some _ e) fresh one fun b o n1 n2 n3 e => Heap.get?_push_of_some _ (stays b o n1 n2 n3 e)
  unfold pyNext
  refine wpAny_bind (wpAny_attempt (wpAny_callSpecial?_slot (name := Str.ofString "__next__") isZip F.slot_zip_next (wpAny_call_entry F.slot_zip_next isZip F.entry_zip_next ?_ (F.args_zip_next_1 _))))
  exact wpAny_mono (body _ _) (fun fin s' ⟨v, e, h⟩ => ⟨v, e, wpAny_pure h⟩) fun _ _ h => h
theorem zt_end {k1 : Nat} {Q : Option Value → Shared → Prop} (hh : A.handled = none) (D : ZipApart z TI TO i1 i2 l1 l2) (hz : IsZipHeld s.heap z TI TO T f) (hT : s.heap.get? T = some oT) (hTI : IsPair s.heap TI (.ref i1) (.ref i2))
    (a1 : s.heap.IsTupleIter i1 l1 k1) (t1 : s.heap.IsTuple l1 xs) (ex : xs[k1]? = none)
    (q : ∀ h', (∀ b o, b ≠ z → b ≠ i1 → b ≠ i2 → s.heap.get? b = some o → h'.get? b = some o) → Q none { s with heap := h' }) : wpAny (model prog w) A (pyNext (.ref z)) Q E s := by
  have isZip : s.TypeIs (.ref z) "zip" := ⟨_, hz, rfl⟩
  unfold pyNext
  refine wpAny_bind (wpAny_attempt (wpAny_callSpecial?_slot (name := Str.ofString "__next__") isZip F.slot_zip_next (wpAny_call_entry F.slot_zip_next isZip F.entry_zip_next ?_ (F.args_zip_next_1 _))))
  show wpAny _ _ (field (.ref z) 2 >>= _) _ _ s
  refine wpAny_bind (wpAny_field (i := 2) hz rfl rfl ?_)
  show wpAny _ _ (field (.ref z) 3 >>= _) _ _ s
  refine wpAny_bind (wpAny_field (i := 3) hz rfl rfl (wpAny_bind (wpAny_seqItems hTI rfl ?_)))
  refine wpAny_bind (wpAny_tupleHeld_zip hz hT fun ha hza hsa => ?_)
  rw [if_neg Bool.false_ne_true]
  refine wpAny_bind ?_
  rw [← Array.forIn_toList]
  simp only [List.forIn_nil, List.forIn_cons]
  refine wpAny_bind (wpAny_bind (wpAny_holding (wpAny_bind (RZ.nextOf_tuple_end (s := { s with heap := ha }) hh (a1.extBut hsa.extBut D.i1z) (t1.extBut hsa.extBut D.l1z) ex fun hb e hsb he => ?_))))
  obtain ⟨o, ho, hc⟩ := he
  refine wpAny_bind (wpAny_isInstance (T := "StopIteration") (b := true) ⟨o, ho, hc⟩ isSubtype_stop ?_)
  exact wpAny_pure (q hb fun b o n1 n2 _ e => hsb b o n2 (hsa.extBut b o n1 e))
end
/-! ### a zip as a source of pairs for a list S that is being made -/
structure PSrc (prog : Program) (w : World) (z : Addr) (wr : List Addr) (n : Nat) (pr : Nat → Value × Value) (St : Nat → Addr → Heap → Prop) : Prop where
  type : ∀ i S (s : Shared), St i S s.heap → s.TypeIs (.ref z) "zip"
  self : ∀ (A : Around) (E : Value → Shared → Prop) i S (s : Shared) (Q : Value → Shared → Prop), St i S s.heap → Q (.ref z) s → wpAny (model prog w) A (pyIter (.ref z)) Q E s
  keep : ∀ i S h h', St i S h → (∀ b o, b ≠ S → h.get? b = some o → h'.get? b = some o) → St i S h'
  item : ∀ (A : Around) (E : Value → Shared → Prop) i S (s : Shared) (Q : Option Value → Shared → Prop), i < n → S < s.heap.objs.size → St i S s.heap →
    (∀ h', St (i + 1) S h' → h'.get? s.heap.objs.size = some { cls := .type "tuple", data := .seq #[(pr i).1, (pr i).2] } → h'.objs.size = s.heap.objs.size + 1 → (∀ b o, b ∉ wr → s.heap.get? b = some o → h'.get? b = some o) → Q (some (.ref s.heap.objs.size)) { s with heap := h' }) →
    wpAny (model prog w) A (pyNext (.ref z)) Q E s
  done : ∀ (A : Around) (E : Value → Shared → Prop) S (s : Shared) (Q : Option Value → Shared → Prop), A.handled = none → St n S s.heap → (∀ h', (∀ b o, b ∉ wr → s.heap.get? b = some o → h'.get? b = some o) → Q none { s with heap := h' }) →
    wpAny (model prog w) A (pyNext (.ref z)) Q E s
/-- the pairs that are out -/
structure Outs (pr : Nat → Value × Value) (lo : Addr) (h : Heap) (as : List Addr) : Prop where
  rise : as.Pairwise (· < ·)
  above : ∀ a ∈ as, lo ≤ a
  pairs : ∀ (j : Nat) (a : Addr), as[j]? = some a → h.get? a = some { cls := .type "tuple", data := .seq #[(pr j).1, (pr j).2] }
section
variable {prog : Program} {w : World} {A : Around} {E : Value → Shared → Prop} {s : Shared} {R : Result → Shared → Prop} {z : Addr} {wr : List Addr} {n : Nat} {pr : Nat → Value × Value} {St : Nat → Addr → Heap → Prop}
theorem Outs.lt {lo : Addr} {h : Heap} {as : List Addr} (g : Outs pr lo h as) {a : Addr} (ha : a ∈ as) : a < h.objs.size := by
  obtain ⟨j, hj⟩ := List.mem_iff_getElem?.mp ha
  exact Heap.lt_size (g.pairs j a hj)
theorem zip_loop (W : PSrc prog w z wr n pr St) {S lo : Addr} (hh : A.handled = none) (wlo : ∀ b ∈ wr, b < lo) (Slo : S < lo) (Sw : S ∉ wr) (hn : n ≤ sizeLine) (res : Value) {h0 : Heap}
    (fin : ∀ h' tk acc c as, (∀ b o, b ≠ S → b ∉ wr → h0.get? b = some o → h'.get? b = some o) → h'.get? S = some { cls := .type "list", dict := none, data := .seq acc c, slots := #[] } → as.length = n → Outs pr lo h' as → acc.toList = as.map Value.ref →
      R (.ok (.ret res)) { s with heap := h', toks := tk }) :
    ∀ (m i : Nat) (h : Heap) (tk c : Nat) (acc : Array Value) (as : List Addr), n - i = m → i ≤ n → St i S h → (∀ b o, b ≠ S → b ∉ wr → h0.get? b = some o → h.get? b = some o) → h.get? S = some { cls := .type "list", dict := none, data := .seq acc c, slots := #[] } →
      acc.toList = as.map Value.ref → as.length = i → Outs pr lo h as → lo ≤ h.objs.size → codeAny (model prog w) A (.builtin "list.extend.loop" ⟨[.ref S, .ref z, res], []⟩) R { s with heap := h, toks := tk } := by
  intro m
  induction m with
  | zero =>
    intro i h tk c acc as e1 e2 st kp hS ha hl g hlo
    have ein : i = n := by omega
    subst ein
    refine codeAny_builtin PySem.F.entry_extend_loop ?_
    rw [Around.under_plainId PySem.F.plain_extend_loop _]
    show wpAny _ A.in1 (pyNext (.ref z) >>= _) _ _ _
    refine wpAny_bind (W.done A.in1 _ S { s with heap := h, toks := tk } _ hh st fun h' k => wpAny_pure ?_)
    exact fin h' tk acc c as (fun b o n1 n2 e => k b o n2 (kp b o n1 n2 e)) (k S _ Sw hS) hl ⟨g.rise, g.above, fun j a hj => k a _ (fun q => absurd (wlo a q) (Nat.not_lt.mpr (g.above a (List.mem_of_getElem? hj)))) (g.pairs j a hj)⟩ ha
  | succ m ih =>
    intro i h tk c acc as e1 e2 st kp hS ha hl g hlo
    have lt : i < n := by omega
    have sz : acc.size = i := by rw [← Array.length_toList, ha, List.length_map, hl]
    refine codeAny_builtin PySem.F.entry_extend_loop ?_
    rw [Around.under_plainId PySem.F.plain_extend_loop _]
    show wpAny _ A.in1 (pyNext (.ref z) >>= _) _ _ _
    have Slt : S < h.objs.size := Heap.lt_size hS
    refine wpAny_bind (W.item A.in1 _ i S { s with heap := h, toks := tk } _ lt Slt st fun h' st' tup one k => ?_)
    have hS' : h'.get? S = some { cls := .type "list", dict := none, data := .seq acc c, slots := #[] } := k S _ Sw hS
    have tup' : h'.get? h.objs.size = some { cls := .type "tuple", data := .seq #[(pr i).1, (pr i).2] } := tup
    have one' : h'.objs.size = h.objs.size + 1 := one
    have nS : h.objs.size ≠ S := Nat.ne_of_gt Slt
    have off : ∀ b o, b ≠ S → h'.get? b = some o → (h'.update S (Obj.mapSeq (·.push (Value.ref h.objs.size)))).get? b = some o := fun b o nb e => (Heap.get?_update_other _ _ (Ne.symm nb)).trans e
    show wpAny _ A.in1 (updateSeq S (·.push (Value.ref h.objs.size)) >>= _) _ _ _
    refine wpAny_bind ?_
    refine wpAny_updateSeq hS' rfl (wpAny_pure ⟨plainId_quiet PySem.F.plain_extend_loop _, ?_⟩) (by rw [sz]; omega) (by show (acc.push (Value.ref h.objs.size)).size ≤ sizeLine + 1; rw [Array.size_push, sz]; omega)
    refine ih (i + 1) _ tk _ (acc.push (Value.ref h.objs.size)) (as ++ [h.objs.size]) (by omega) lt (W.keep _ _ _ _ st' off) (fun b o n1 n2 e => off b o n1 (k b o n2 (kp b o n1 n2 e))) (Heap.get?_update_self _ hS' rfl)
      (by rw [Array.toList_push, ha, List.map_append]; rfl) (by rw [List.length_append, hl]; rfl) ⟨?_, ?_, ?_⟩ ?_
    · refine List.pairwise_append.mpr ⟨g.rise, List.pairwise_singleton _ _, ?_⟩
      intro a q b q'
      obtain rfl := List.mem_singleton.mp q'
      exact g.lt q
    · intro a q
      rcases List.mem_append.mp q with q | q
      · exact g.above a q
      · obtain rfl := List.mem_singleton.mp q
        exact hlo
    · intro j b hj
      by_cases jl : j < as.length
      · rw [List.getElem?_append_left jl] at hj
        have ab := g.above b (List.mem_of_getElem? hj)
        exact off b _ (Nat.ne_of_gt (Nat.lt_of_lt_of_le Slo ab)) (k b _ (fun q => absurd (wlo b q) (Nat.not_lt.mpr ab)) (g.pairs j b hj))
      · rw [List.getElem?_append_right (by omega)] at hj
        have j0 : j - as.length = 0 := by
          cases q : j - as.length with
          | zero => rfl
          | succ r => rw [q] at hj; simp at hj
        have ej : j = i := by omega
        rw [j0] at hj
        obtain rfl : h.objs.size = b := Option.some.inj hj
        rw [ej]
        exact off _ _ nS tup'
    · have e : (h'.update S (Obj.mapSeq (·.push (Value.ref h.objs.size)))).get? h.objs.size = _ := off _ _ nS tup'
      exact Nat.le_trans hlo (Nat.le_of_lt (Heap.lt_size e))
theorem nolen_zip : typeLookup (.type "zip") "__len__" = pure none := by rw [typeLookup_type, builtinLookup_eq_fast]; kernel_rfl
theorem nohint_zip : typeLookup (.type "zip") "__length_hint__" = pure none := by rw [typeLookup_type, builtinLookup_eq_fast]; kernel_rfl
/-- the list's end behind the call -/
def ListOut (n : Nat) (pr : Nat → Value × Value) (wr : List Addr) (lo : Addr) (s : Shared) (Q : Value → Shared → Prop) : Prop :=
  ∀ h' tk acc c as, (∀ b o, b ∉ wr → s.heap.get? b = some o → h'.get? b = some o) → h'.get? s.heap.objs.size = some { cls := .type "list", dict := none, data := .seq acc c, slots := #[] } → as.length = n → Outs pr lo h' as → acc.toList = as.map Value.ref →
    Q (.ref s.heap.objs.size) { s with heap := h', toks := tk }
theorem call_list_zip {Q : Value → Shared → Prop} (W : PSrc prog w z wr n pr St) (hh : A.handled = none) (st : ∀ h', (∀ b o, s.heap.get? b = some o → h'.get? b = some o) → St 0 s.heap.objs.size h') (wlt : ∀ b ∈ wr, b < s.heap.objs.size) (zlt : z < s.heap.objs.size) (hn : n ≤ sizeLine)
    (q : ListOut n pr wr (s.heap.objs.size + 1) s Q) : wpAny (model prog w) A (call (.type "list") [.ref z]) Q E s := by
  refine callType_codes (Q₁ := fun obj s' => obj = .ref s.heap.objs.size ∧ s' = { s with heap := s.heap.push { cls := .type "list", data := .seq #[] } }) PySem.F.called_list (PySem.F.typeCall_list_1 _) PySem.F.entry_list_init (code_list_new _ ⟨rfl, rfl⟩) ?_
  rintro obj s' ⟨rfl, rfl⟩
  have at0 : (s.heap.push { cls := .type "list", data := .seq #[] }).get? s.heap.objs.size = some { cls := .type "list", data := .seq #[] } := Heap.get?_push_size _ rfl
  refine ⟨⟨_, at0, rfl⟩, PySem.F.args_list_init_2 _ _, ?_⟩
  show wpAny _ A.in1.in1 (do let old ← Builtin.List.listItems (.ref s.heap.objs.size); Builtin.List.listUpdate (.ref s.heap.objs.size) (fun _ => #[]); letGo old.toList.reverse; Builtin.List.listExtendWith (.ref s.heap.objs.size) (.ref z) .none) _ _ _
  refine wpAny_bind ?_
  unfold Builtin.List.listItems
  refine wpAny_bind (wpAny_seqItems at0 rfl (wpAny_pure ?_))
  show wpAny _ A.in1.in1 (updateSeq s.heap.objs.size (fun _ => #[]) >>= fun _ => letGo (#[] : Array Value).toList.reverse >>= fun _ => Builtin.List.listExtendWith (.ref s.heap.objs.size) (.ref z) .none) _ _ _
  refine wpAny_bind (wpAny_updateSeq at0 rfl (wpAny_bind (wpAny_letGo ?_)))
  have at1 := Heap.get?_update_self (Obj.mapSeq (fun _ => (#[] : Array Value))) at0 rfl
  have k1 : ∀ b o, s.heap.get? b = some o → ((s.heap.push { cls := .type "list", data := .seq #[] }).update s.heap.objs.size (Obj.mapSeq (fun _ => (#[] : Array Value)))).get? b = some o :=
    fun b o e => (Heap.get?_update_other _ _ (Nat.ne_of_gt (Heap.lt_size e))).trans (Heap.get?_push_of_some _ e)
  have st1 := st _ k1
  have zz : (Value.type "zip" == Value.type "list") = false := by decide
  have zt : (Value.type "zip" == Value.type "tuple") = false := by decide
  have nsame : Builtin.List.listSameRef (.ref s.heap.objs.size) (.ref z) = false := by simp [Builtin.List.listSameRef, Nat.ne_of_gt zlt]
  unfold Builtin.List.listExtendWith
  refine wpAny_bind (wpAny_typeOf (W.type 0 _ { s with heap := (s.heap.push { cls := .type "list", data := .seq #[] }).update s.heap.objs.size (Obj.mapSeq (fun _ => (#[] : Array Value))) } st1) ?_)
  simp only [nsame, zz, zt, Bool.or_false, Bool.false_eq_true, if_false]
  refine wpAny_bind (W.self _ _ 0 _ _ _ st1 (wpAny_bind (wpAny_holding ?_)))
  have isz := W.type 0 _ { s with heap := (s.heap.push { cls := .type "list", data := .seq #[] }).update s.heap.objs.size (Obj.mapSeq (fun _ => (#[] : Array Value))) } st1
  unfold Builtin.List.listLengthHint
  refine wpAny_bind (wpAny_specialOf isz nolen_zip ?_)
  show wpAny _ A.in1.in1 (specialOf (Value.ref z) (Str.ofString "__length_hint__") >>= _) _ _ _
  refine wpAny_bind (wpAny_specialOf isz nohint_zip (wpAny_pure ?_))
  show wpAny _ A.in1.in1 (rule "list.extend.makes-room" >>= fun _ => Builtin.List.listTouch (.ref s.heap.objs.size) >>= fun _ => again (.builtin "list.extend.loop" ⟨[.ref s.heap.objs.size, .ref z, .none], []⟩)) _ _ _
  refine wpAny_bind (wpAny_rule (wpAny_bind ?_))
  show wpAny _ A.in1.in1 (updateSeq s.heap.objs.size (·.push .none) >>= fun _ => updateSeq s.heap.objs.size (·.pop)) _ _ _
  refine wpAny_bind (wpAny_updateSeq at1 rfl ?_)
  have at2 := Heap.get?_update_self (Obj.mapSeq (·.push Value.none)) at1 rfl
  refine wpAny_updateSeq (hz := by seq_fits) at2 rfl ?_
  have at3 := Heap.get?_update_self (Obj.mapSeq (·.pop)) at2 rfl
  have k3 : ∀ b o, s.heap.get? b = some o → ((((s.heap.push { cls := .type "list", data := .seq #[] }).update s.heap.objs.size (Obj.mapSeq (fun _ => (#[] : Array Value)))).update s.heap.objs.size (Obj.mapSeq (·.push Value.none))).update s.heap.objs.size (Obj.mapSeq (·.pop))).get? b = some o := by
    intro b o e
    have nb := Nat.ne_of_gt (Heap.lt_size e)
    exact (Heap.get?_update_other _ _ nb).trans ((Heap.get?_update_other _ _ nb).trans (k1 b o e))
  have big : s.heap.objs.size + 1 ≤ ((((s.heap.push { cls := .type "list", data := .seq #[] }).update s.heap.objs.size (Obj.mapSeq (fun _ => (#[] : Array Value)))).update s.heap.objs.size (Obj.mapSeq (·.push Value.none))).update s.heap.objs.size (Obj.mapSeq (·.pop))).objs.size := Heap.lt_size at3
  refine wpAny_pure ⟨plainId_quiet F.plain_extend_loop _, ?_⟩
  refine zip_loop (s := s) (A := A.in1) W (S := s.heap.objs.size) (lo := s.heap.objs.size + 1) (h0 := s.heap) hh (fun b q => Nat.lt_succ_of_lt (wlt b q)) (Nat.lt_succ_self _) (fun q => absurd (wlt _ q) (Nat.lt_irrefl _)) hn .none ?_ n 0 _ s.toks _ #[] [] rfl (Nat.zero_le _) (st _ k3) (fun b o _ _ e => k3 b o e) at3 rfl rfl ⟨List.Pairwise.nil, fun _ q => (nomatch q), fun j a q => by simp at q⟩ big
  intro h' tk acc c as kp hS hl g ha
  exact ⟨rfl, q h' tk acc c as (fun b o n2 e => kp b o (Nat.ne_of_lt (Heap.lt_size e)) n2 e) hS hl g ha⟩
end

theorem psrc_lists {prog : Program} {w : World} {z TI TO i1 i2 l1 l2 : Addr} (D : ZipApart z TI TO i1 i2 l1 l2) (xs ys : Array Value) (hn : xs.size = ys.size) : PSrc prog w z [z, TO, i1, i2] xs.size (fun i => (xs.getD i .none, ys.getD i .none))
    (fun i S h => IsPair h TI (.ref i1) (.ref i2) ∧ h.IsListIter i1 l1 i ∧ h.IsListIter i2 l2 i ∧ h.IsList l1 xs ∧ h.IsList l2 ys ∧ (S ≠ z ∧ S ≠ TI ∧ S ≠ TO ∧ S ≠ i1 ∧ S ≠ i2 ∧ S ≠ l1 ∧ S ≠ l2) ∧
      ((IsZip h z TI TO .none ∧ ∃ a b, IsPair h TO a b) ∨ ∃ T f oT, IsZipHeld h z TI TO T f ∧ h.get? T = some oT ∧ T ≠ z ∧ T ≠ i1 ∧ T ≠ i2 ∧ T ≠ S)) where
  type := by
    rintro i S s ⟨_, _, _, _, _, _, ⟨hz, _⟩ | ⟨T, f, oT, hz, _⟩⟩
    · exact ⟨_, hz, rfl⟩
    · exact ⟨_, hz, rfl⟩
  self := by
    rintro A E i S s Q ⟨_, _, _, _, _, _, ⟨hz, _⟩ | ⟨T, f, oT, hz, _⟩⟩ q
    · exact wpAny_pyIter_zip hz q
    · have isz : s.TypeIs (.ref z) "zip" := ⟨_, hz, rfl⟩
      exact wpAny_pyIter_slot isz F.slot_zip_iter (wpAny_call_entry F.slot_zip_iter isz F.entry_zip_iter (wpAny_pure ⟨_, rfl, "zip", _, isz, F.slot_zip_next.lookup, q⟩) (F.args_zip_iter_1 _))
  keep := by
    rintro i S h h' ⟨p, a1, a2, t1, t2, ⟨n1, n2, n3, n4, n5, n6, n7⟩, hz⟩ k
    refine ⟨k _ _ n2.symm p, a1.at fun o e => k _ o n4.symm e, a2.at fun o e => k _ o n5.symm e, t1.at fun o e => k _ o n6.symm e, t2.at fun o e => k _ o n7.symm e, ⟨n1, n2, n3, n4, n5, n6, n7⟩, ?_⟩
    rcases hz with ⟨hz, a, b, ho⟩ | ⟨T, f, oT, hz, hT, r1, r2, r3, r4⟩
    · exact .inl ⟨k _ _ n1.symm hz, a, b, k _ _ n3.symm ho⟩
    · exact .inr ⟨T, f, oT, k _ _ n1.symm hz, k _ _ r4 hT, r1, r2, r3, r4⟩
  item := by
    rintro A E i S s Q lt Slt ⟨p, a1, a2, t1, t2, ns, hz⟩ q
    have ex : xs[i]? = some (xs.getD i .none) := by simp [Array.getD, lt]
    have ey : ys[i]? = some (ys.getD i .none) := by
      have : i < ys.size := by omega
      simp [Array.getD, this]
    have new : ∀ {b o}, s.heap.get? b = some o → s.heap.objs.size ≠ b := fun e => Nat.ne_of_gt (Heap.lt_size e)
    have ni1 : s.heap.objs.size ≠ i1 := let ⟨_, e, _⟩ := a1; new e
    have ni2 : s.heap.objs.size ≠ i2 := let ⟨_, e, _⟩ := a2; new e
    rcases hz with ⟨hz, a, b, ho⟩ | ⟨T, f, oT, hz, hT, r1, r2, r3, r4⟩
    · refine wpAny_pyNext_zip_item D hz p ho a1 a2 t1 t2 ex ey fun h' c1 c2 c3 c4 c5 c6 k => ?_
      refine q h' ⟨k _ _ D.TIz D.TITO D.TIi1 D.TIi2 p, c3, c4, t1.at fun o e => k _ o D.l1z D.l1TO D.l1i1 D.l1i2 e, t2.at fun o e => k _ o D.l2z D.l2TO D.l2i1 D.l2i2 e, ns, .inr ⟨s.heap.objs.size, false, _, c1, c5, new hz, ni1, ni2, Nat.ne_of_gt Slt⟩⟩ c5 c6 fun b o nb e => ?_
      simp only [List.mem_cons, List.not_mem_nil, or_false, not_or] at nb
      exact k b o nb.1 nb.2.1 nb.2.2.1 nb.2.2.2 e
    · refine wpAny_pyNext_zip_item_held D hz hT p a1 a2 t1 t2 ex ey fun h' c1 c3 c4 c5 c6 k => ?_
      refine q h' ⟨k _ _ D.TIz D.TIi1 D.TIi2 p, c3, c4, t1.at fun o e => k _ o D.l1z D.l1i1 D.l1i2 e, t2.at fun o e => k _ o D.l2z D.l2i1 D.l2i2 e, ns, .inr ⟨T, true, oT, c1, k _ _ r1 r2 r3 hT, r1, r2, r3, r4⟩⟩ c5 c6 fun b o nb e => ?_
      simp only [List.mem_cons, List.not_mem_nil, or_false, not_or] at nb
      exact k b o nb.1 nb.2.2.1 nb.2.2.2 e
  done := by
    rintro A E S s Q hh ⟨p, a1, a2, t1, t2, ns, hz⟩ q
    have ex : xs[xs.size]? = none := by simp
    rcases hz with ⟨hz, a, b, ho⟩ | ⟨T, f, oT, hz, hT, r1, r2, r3, r4⟩
    · refine wpAny_pyNext_zip_end hh D hz p ho a1 a2 t1 t2 (.inl ex) fun h' k => q h' fun b o nb e => ?_
      simp only [List.mem_cons, List.not_mem_nil, or_false, not_or] at nb
      exact k b o nb.1 nb.2.1 nb.2.2.1 nb.2.2.2 e
    · refine wpAny_pyNext_zip_end_held hh D hz hT p a1 a2 t1 t2 (.inl ex) fun h' k => q h' fun b o nb e => ?_
      simp only [List.mem_cons, List.not_mem_nil, or_false, not_or] at nb
      exact k b o nb.1 nb.2.2.1 nb.2.2.2 e

theorem psrc_tuples {prog : Program} {w : World} {z TI TO i1 i2 l1 l2 : Addr} (D : ZipApart z TI TO i1 i2 l1 l2) (xs ys : Array Value) (hn : xs.size = ys.size) : PSrc prog w z [z, TO, i1, i2] xs.size (fun i => (xs.getD i .none, ys.getD i .none))
    (fun i S h => IsPair h TI (.ref i1) (.ref i2) ∧ h.IsTupleIter i1 l1 i ∧ h.IsTupleIter i2 l2 i ∧ h.IsTuple l1 xs ∧ h.IsTuple l2 ys ∧ (S ≠ z ∧ S ≠ TI ∧ S ≠ TO ∧ S ≠ i1 ∧ S ≠ i2 ∧ S ≠ l1 ∧ S ≠ l2) ∧
      ((IsZip h z TI TO .none ∧ ∃ a b, IsPair h TO a b) ∨ ∃ T f oT, IsZipHeld h z TI TO T f ∧ h.get? T = some oT ∧ T ≠ z ∧ T ≠ i1 ∧ T ≠ i2 ∧ T ≠ S)) where
  type := by
    rintro i S s ⟨_, _, _, _, _, _, ⟨hz, _⟩ | ⟨T, f, oT, hz, _⟩⟩
    · exact ⟨_, hz, rfl⟩
    · exact ⟨_, hz, rfl⟩
  self := by
    rintro A E i S s Q ⟨_, _, _, _, _, _, ⟨hz, _⟩ | ⟨T, f, oT, hz, _⟩⟩ q
    · exact wpAny_pyIter_zip hz q
    · have isz : s.TypeIs (.ref z) "zip" := ⟨_, hz, rfl⟩
      exact wpAny_pyIter_slot isz F.slot_zip_iter (wpAny_call_entry F.slot_zip_iter isz F.entry_zip_iter (wpAny_pure ⟨_, rfl, "zip", _, isz, F.slot_zip_next.lookup, q⟩) (F.args_zip_iter_1 _))
  keep := by
    rintro i S h h' ⟨p, a1, a2, t1, t2, ⟨n1, n2, n3, n4, n5, n6, n7⟩, hz⟩ k
    refine ⟨k _ _ n2.symm p, a1.at fun o e => k _ o n4.symm e, a2.at fun o e => k _ o n5.symm e, t1.at fun o e => k _ o n6.symm e, t2.at fun o e => k _ o n7.symm e, ⟨n1, n2, n3, n4, n5, n6, n7⟩, ?_⟩
    rcases hz with ⟨hz, a, b, ho⟩ | ⟨T, f, oT, hz, hT, r1, r2, r3, r4⟩
    · exact .inl ⟨k _ _ n1.symm hz, a, b, k _ _ n3.symm ho⟩
    · exact .inr ⟨T, f, oT, k _ _ n1.symm hz, k _ _ r4 hT, r1, r2, r3, r4⟩
  item := by
    rintro A E i S s Q lt Slt ⟨p, a1, a2, t1, t2, ns, hz⟩ q
    have ex : xs[i]? = some (xs.getD i .none) := by simp [Array.getD, lt]
    have ey : ys[i]? = some (ys.getD i .none) := by
      have : i < ys.size := by omega
      simp [Array.getD, this]
    have new : ∀ {b o}, s.heap.get? b = some o → s.heap.objs.size ≠ b := fun e => Nat.ne_of_gt (Heap.lt_size e)
    have ni1 : s.heap.objs.size ≠ i1 := let ⟨_, e, _⟩ := a1; new e
    have ni2 : s.heap.objs.size ≠ i2 := let ⟨_, e, _⟩ := a2; new e
    rcases hz with ⟨hz, a, b, ho⟩ | ⟨T, f, oT, hz, hT, r1, r2, r3, r4⟩
    · refine RZ.pyNext_zipT_item D hz p ho a1 a2 t1 t2 ex ey fun h' c1 c2 c3 c4 c5 c6 k => ?_
      refine q h' ⟨k _ _ D.TIz D.TITO D.TIi1 D.TIi2 p, c3, c4, t1.at fun o e => k _ o D.l1z D.l1TO D.l1i1 D.l1i2 e, t2.at fun o e => k _ o D.l2z D.l2TO D.l2i1 D.l2i2 e, ns, .inr ⟨s.heap.objs.size, false, _, c1, c5, new hz, ni1, ni2, Nat.ne_of_gt Slt⟩⟩ c5 c6 fun b o nb e => ?_
      simp only [List.mem_cons, List.not_mem_nil, or_false, not_or] at nb
      exact k b o nb.1 nb.2.1 nb.2.2.1 nb.2.2.2 e
    · refine zt_item D hz hT p a1 a2 t1 t2 ex ey fun h' c1 c3 c4 c5 c6 k => ?_
      refine q h' ⟨k _ _ D.TIz D.TIi1 D.TIi2 p, c3, c4, t1.at fun o e => k _ o D.l1z D.l1i1 D.l1i2 e, t2.at fun o e => k _ o D.l2z D.l2i1 D.l2i2 e, ns, .inr ⟨T, true, oT, c1, k _ _ r1 r2 r3 hT, r1, r2, r3, r4⟩⟩ c5 c6 fun b o nb e => ?_
      simp only [List.mem_cons, List.not_mem_nil, or_false, not_or] at nb
      exact k b o nb.1 nb.2.2.1 nb.2.2.2 e
  done := by
    rintro A E S s Q hh ⟨p, a1, a2, t1, t2, ns, hz⟩ q
    have ex : xs[xs.size]? = none := by simp
    rcases hz with ⟨hz, a, b, ho⟩ | ⟨T, f, oT, hz, hT, r1, r2, r3, r4⟩
    · refine RZ.pyNext_zipT_end hh D hz p ho a1 a2 t1 t2 (.inl ex) fun h' k => q h' fun b o nb e => ?_
      simp only [List.mem_cons, List.not_mem_nil, or_false, not_or] at nb
      exact k b o nb.1 nb.2.1 nb.2.2.1 nb.2.2.2 e
    · refine zt_end hh D hz hT p a1 t1 ex fun h' k => q h' fun b o nb e => ?_
      simp only [List.mem_cons, List.not_mem_nil, or_false, not_or] at nb
      exact k b o nb.1 nb.2.2.1 nb.2.2.2 e

/-! ### the rule -/
def putP : Hp → List Addr → List (V × V) → Hp
  | H, a :: as, p :: ps => putP (upd H a (.tup [p.1, p.2])) as ps
  | H, _, _ => H
theorem putP_off {b : Addr} : ∀ (as : List Addr) (ps : List (V × V)) (H : Hp), b ∉ as → putP H as ps b = H b
  | [], _, _, _ => rfl
  | _ :: _, [], _, _ => rfl
  | a :: as, p :: ps, H, h => by
    have h1 : b ∉ as := fun q => h (List.mem_cons_of_mem _ q)
    have h2 : b ≠ a := fun q => h (by rw [q]; exact List.mem_cons_self)
    show putP (upd H a (.tup [p.1, p.2])) as ps b = H b
    rw [putP_off as ps _ h1, upd_ne h2]
theorem putP_at : ∀ (as : List Addr) (ps : List (V × V)) (H : Hp), as.length = ps.length → as.Nodup → Paired (fun (t : Addr) (p : V × V) => putP H as ps t = some (.tup [p.1, p.2])) as ps
  | [], [], _, _, _ => .nil
  | [], _ :: _, _, h, _ => by cases h
  | _ :: _, [], _, h, _ => by cases h
  | a :: as, p :: ps, H, h, hn => by
    obtain ⟨n1, n2⟩ := List.nodup_cons.mp hn
    refine .cons ?_ (putP_at as ps (upd H a (.tup [p.1, p.2])) (Nat.succ.inj h) n2)
    show putP (upd H a (.tup [p.1, p.2])) as ps a = some (.tup [p.1, p.2])
    rw [putP_off as ps _ n1, upd_same]
/-- behind list(zip(..)): a new list of new pairs -/
def ZipEnd (H : Hp) (Q : VK) (xs ys : List V) : Prop := ∀ (H' : Hp) (l : Addr) (ts : List Addr), Same H H' → H l = none → H' l = some (.lst (ts.map V.ref)) → Paired (fun (t : Addr) (p : V × V) => H' t = some (.tup [p.1, p.2])) ts (xs.zip ys) → Q (.ref l) H'
section
variable {X : Cx} {pins : List (Addr × Obj)} {σ : L2.St} {H : Hp} {s : Shared} {xs ys : List V} {us vs : List Value}
theorem na_not {L : Nat} (h : L + 1 ≤ L) : False := by omega
theorem na_le {n L t : Nat} (h : n ≤ L) (g : L + 1 ≤ t) : n ≤ t := by omega
theorem na_ne {b n L : Nat} (h : b < n) (g : n ≤ L) : b ≠ L := by omega
theorem na_out {b n L : Nat} (h : b < n) (g : n ≤ L) (q : L + 1 ≤ b) : False := by omega
theorem na_ns {n a b : Nat} (la : a < n) (lb : b < n) : n + 5 ≠ n + 4 ∧ n + 5 ≠ n + 2 ∧ n + 5 ≠ n + 3 ∧ n + 5 ≠ n ∧ n + 5 ≠ n + 1 ∧ n + 5 ≠ a ∧ n + 5 ≠ b := by omega
theorem na_wr {n b : Nat} (h : b = n + 4 ∨ b = n + 3 ∨ b = n ∨ b = n + 1) : b < n + 5 := by omega
theorem na_old {n b : Nat} (h : b < n) (q : b = n + 4 ∨ b = n + 3 ∨ b = n ∨ b = n + 1) : False := by omega
theorem getD_of {us : List Value} {j : Nat} {u : Value} (h : us[j]? = some u) : us.toArray.getD j .none = u := by
  obtain ⟨h1, h2⟩ := List.getElem?_eq_some_iff.mp h
  simp [Array.getD, h1, h2]
theorem zip_laid (I : Inv X pins σ H s) (rx : Vals xs us) (ry : Vals ys vs) {h2 : Heap} {tk c L : Nat} {acc : Array Value} {as : List Addr} (k : ∀ b o, s.heap.get? b = some o → h2.get? b = some o) (hL : s.heap.objs.size ≤ L)
    (hS : h2.get? L = some { cls := .type "list", dict := none, data := .seq acc c, slots := #[] }) (hn : as.length = (xs.zip ys).length) (hz : as.length ≤ sizeLine) (g : Outs (fun i => (us.toArray.getD i .none, vs.toArray.getD i .none)) (L + 1) h2 as) (ha : acc.toList = as.map Value.ref) :
    ∃ H' : Hp, Same H H' ∧ H L = none ∧ H' L = some (.lst (as.map V.ref)) ∧ Paired (fun (t : Addr) (p : V × V) => H' t = some (.tup [p.1, p.2])) as (xs.zip ys) ∧ Inv X pins σ H' { s with heap := h2, toks := tk } := by
  have nL : L ∉ as := fun q => na_not (g.above L q)
  have nd : as.Nodup := List.Pairwise.imp (fun {a b} (h : a < b) => Nat.ne_of_lt h) g.rise
  have newT : ∀ t ∈ as, H t = none := fun t q => I.hok.fresh (na_le hL (g.above t q))
  have newL : H L = none := I.hok.fresh hL
  have tups := putP_at as (xs.zip ys) (upd H L (.lst (as.map V.ref))) hn nd
  have off : ∀ b, b ∉ as → b ≠ L → putP (upd H L (.lst (as.map V.ref))) as (xs.zip ys) b = H b := fun b q1 q2 => by rw [putP_off as _ _ q1, upd_ne q2]
  have low : ∀ b o, s.heap.get? b = some o → b ∉ as ∧ b ≠ L := fun b o e => by
    have lt := Heap.lt_size e
    exact ⟨fun q => na_out lt hL (g.above b q), na_ne lt hL⟩
  have kp : Same H (putP (upd H L (.lst (as.map V.ref))) as (xs.zip ys)) := fun b u e => by
    rw [off b (fun q => by rw [newT b q] at e; cases e) (fun q => by rw [q, newL] at e; cases e)]
    exact e
  have atL : putP (upd H L (.lst (as.map V.ref))) as (xs.zip ys) L = some (.lst (as.map V.ref)) := by rw [putP_off as _ _ nL, upd_same]
  refine ⟨_, kp, newL, atL, tups, ?_⟩
  have un : Un (frs X.stack) [] H (putP (upd H L (.lst (as.map V.ref))) as (xs.zip ys)) s.heap h2 := by
    refine ⟨fun b o e _ _ _ => k b o e, fun b o e _ _ _ => ⟨o.slots, k b o e⟩, fun b o e n _ => ?_, fun b o e _ => ⟨o, k b o e⟩, fun b zs e => kp b _ e, fun b o u e => kp b _ e, fun b ps e => ⟨#[], ?_⟩⟩
    · obtain ⟨q1, q2⟩ := low b o e
      rw [off b q1 q2]
      exact n
    · rw [kp b _ e]
      simp
  refine I.call' (ch := []) rfl un (fun b u e => ?_) I.bare fun b q => nomatch q
  by_cases hb : b ∈ as
  · obtain ⟨j, p, e1, e2, e3⟩ := LiI.paired_ix tups hb
    rw [e3] at e
    cases e
    obtain ⟨x1, y1⟩ := List.getElem?_zip_eq_some.mp e2
    obtain ⟨u, eu, ru⟩ := Vals.get rx x1
    obtain ⟨v, ev, rv⟩ := Vals.get ry y1
    have t := g.pairs j b e1
    rw [getD_of eu, getD_of ev] at t
    exact ⟨by show 2 ≤ sizeLine; decide, [u, v], .cons ru (.cons rv .nil), ⟨_, t, rfl, _, rfl⟩⟩
  · by_cases hb2 : b = L
    · rw [hb2] at e ⊢
      rw [atL] at e
      cases e
      refine ⟨by rw [List.length_map]; exact hz, acc.toList, c, by rw [ha]; exact LiI.vals_refs as, ?_⟩
      rw [Array.toArray_toList]
      exact hS
    · rw [off b hb hb2] at e
      exact (I.hok b u e).stay (fun d w _ q => k d w q) (fun d q => kp d _ q) fun d zs q => kp d _ q
def tListZip (K : PySem.W.Frag) (ta : TA) : TE := fun σ H Q => ta σ H fun vs H1 => ∃ (a b : Addr) (xs ys : List V), vs = [.ref a, .ref b] ∧ ((SqL K H1 a xs ∧ SqL K H1 b ys) ∨ (SqT K H1 a xs ∧ SqT K H1 b ys)) ∧ xs.length = ys.length ∧ ZipEnd H1 Q xs ys
theorem pe_listZip {e e2 : Expr} {ta : TA} {p p2 pos pos2 : Pos} (hg : Gl X "list") (hm : X.mg "list" = none) (hgz : Gl X "zip") (hmz : X.mg "zip" = none) (hc : X.calm = true) (hp : PA X [e, e2] ta)
    (hs : starEach [.Call (.Name "zip" p2) [e, e2] [] pos2] X.env = (false, eval (.Call (.Name "zip" p2) [e, e2] [] pos2) X.env) :: starEach [] X.env := by rfl) (hpl : (backTo pos (starEach [] X.env)).any (·.1) = false := by rfl)
    (hs2 : starEach [e, e2] X.env = (false, eval e X.env) :: starEach [e2] X.env := by rfl) (hpl2 : (backTo pos2 (starEach [e2] X.env)).any (·.1) = false := by rfl) :
    PE X (.Call (.Name "list" p) [.Call (.Name "zip" p2) [e, e2] [] pos2] [] pos) (tListZip X.K ta) := by
  refine ⟨fun pins s σ H Q I h => ?_⟩
  refine Call_ (ld_blt I hg hm (show bootBuiltins "list" = some (Value.type "list") by decide +kernel) (PyProof.Rows.callWith_type1 ?_ hs hpl))
  rw [hs]
  show wpAny _ _ (spliced ((false, eval (.Call (.Name "zip" p2) [e, e2] [] pos2) X.env) :: backTo pos (starEach [] X.env))) _ _ s
  refine Calls.spliced_cons ?_
  refine Call_ (ld_blt I hgz hmz PyProof.Rows.boot_zip (PyProof.Rows.callWith_type1 (thn (hp.run pos2 pins s σ H _ I h) fun us s1 ⟨vs, H1, I1, r1, q1⟩ => ?_) hs2 hpl2))
  obtain ⟨a, b, xs, ys, ex, hq, hl, q⟩ := q1
  subst ex
  cases r1 with
  | cons r rr =>
    cases rr with
    | cons r' rr =>
      cases rr
      cases r
      cases r'
      rcases hq with ⟨hx, hy⟩ | ⟨hx, hy⟩
      · obtain ⟨ia, rv, p1, z1⟩ := I1.list hx
        obtain ⟨ib, rw', p3, _⟩ := I1.list hy
        have eq : ia.toArray.size = ib.toArray.size := by simp only [List.size_toArray]; rw [← rv.length, ← rw'.length]; exact hl
        refine call_zip_2 p1.isList p3.isList fun h' hz hTI hTO h1 h2 hsz hk => Calls.spliced_nil ?_
        refine call_list_zip (s := { s1 with heap := h' }) (psrc_lists (PySem.W.ktu_apart s1.heap.objs.size a b p1.lt p3.lt) ia.toArray ib.toArray eq) (I1.ok.hd hc) ?_ ?_ ?_ ?_ ?_
        · intro h2' k
          have la := p1.lt
          have lb := p3.lt
          refine ⟨k _ _ hTI, h1.at fun o e => k _ o e, h2.at fun o e => k _ o e, p1.isList.at fun o e => k _ o (hk _ o e), p3.isList.at fun o e => k _ o (hk _ o e), ?_, .inl ⟨k _ _ hz, _, _, k _ _ hTO⟩⟩
          show h'.objs.size ≠ _ ∧ h'.objs.size ≠ _ ∧ h'.objs.size ≠ _ ∧ h'.objs.size ≠ _ ∧ h'.objs.size ≠ _ ∧ h'.objs.size ≠ _ ∧ h'.objs.size ≠ _
          rw [hsz]
          exact na_ns la lb
        · intro b' hb'
          show b' < h'.objs.size
          rw [hsz]
          simp only [List.mem_cons, List.not_mem_nil, or_false] at hb'
          exact na_wr hb'
        · show s1.heap.objs.size + 4 < h'.objs.size
          rw [hsz]
          exact Nat.lt_succ_self _
        · rw [List.size_toArray, ← rv.length]
          exact z1
        · intro h3 tk acc c as kp hS hlen g ha
          have kk : ∀ b' o, s1.heap.get? b' = some o → h3.get? b' = some o := fun b' o e => kp b' o (fun z => by
            have := Heap.lt_size e
            simp only [List.mem_cons, List.not_mem_nil, or_false] at z
            exact na_old this z) (hk b' o e)
          have lz : (xs.zip ys).length = xs.length := by rw [List.length_zip]; omega
          have la : as.length = xs.length := by rw [hlen, List.size_toArray, ← rv.length]
          obtain ⟨H', c1, c2, c3, c4, J⟩ := zip_laid (tk := tk) I1 rv rw' kk (show s1.heap.objs.size ≤ h'.objs.size by rw [hsz]; exact Nat.le_add_right _ _) hS (by omega) (by omega) g ha
          exact ⟨.ref h'.objs.size, H', J, rfl, q H' _ as c1 c2 c3 c4⟩
      · obtain ⟨ia, rv, p1, z1⟩ := I1.tuple hx
        obtain ⟨ib, rw', p3, _⟩ := I1.tuple hy
        have eq : ia.toArray.size = ib.toArray.size := by simp only [List.size_toArray]; rw [← rv.length, ← rw'.length]; exact hl
        refine RZ.call_zipT p1 p3 fun h' hz hTI hTO h1 h2 hsz hk => Calls.spliced_nil ?_
        refine call_list_zip (s := { s1 with heap := h' }) (psrc_tuples (PySem.W.ktu_apart s1.heap.objs.size a b p1.lt p3.lt) ia.toArray ib.toArray eq) (I1.ok.hd hc) ?_ ?_ ?_ ?_ ?_
        · intro h2' k
          have la := p1.lt
          have lb := p3.lt
          refine ⟨k _ _ hTI, h1.at fun o e => k _ o e, h2.at fun o e => k _ o e, Heap.IsTuple.at p1 fun o e => k _ o (hk _ o e), Heap.IsTuple.at p3 fun o e => k _ o (hk _ o e), ?_, .inl ⟨k _ _ hz, _, _, k _ _ hTO⟩⟩
          show h'.objs.size ≠ _ ∧ h'.objs.size ≠ _ ∧ h'.objs.size ≠ _ ∧ h'.objs.size ≠ _ ∧ h'.objs.size ≠ _ ∧ h'.objs.size ≠ _ ∧ h'.objs.size ≠ _
          rw [hsz]
          exact na_ns la lb
        · intro b' hb'
          show b' < h'.objs.size
          rw [hsz]
          simp only [List.mem_cons, List.not_mem_nil, or_false] at hb'
          exact na_wr hb'
        · show s1.heap.objs.size + 4 < h'.objs.size
          rw [hsz]
          exact Nat.lt_succ_self _
        · rw [List.size_toArray, ← rv.length]
          exact z1
        · intro h3 tk acc c as kp hS hlen g ha
          have kk : ∀ b' o, s1.heap.get? b' = some o → h3.get? b' = some o := fun b' o e => kp b' o (fun z => by
            have := Heap.lt_size e
            simp only [List.mem_cons, List.not_mem_nil, or_false] at z
            exact na_old this z) (hk b' o e)
          have lz : (xs.zip ys).length = xs.length := by rw [List.length_zip]; omega
          have la : as.length = xs.length := by rw [hlen, List.size_toArray, ← rv.length]
          obtain ⟨H', c1, c2, c3, c4, J⟩ := zip_laid (tk := tk) I1 rv rw' kk (show s1.heap.objs.size ≤ h'.objs.size by rw [hsz]; exact Nat.le_add_right _ _) hS (by omega) (by omega) g ha
          exact ⟨.ref h'.objs.size, H', J, rfl, q H' _ as c1 c2 c3 c4⟩
end
end L3

/-! dicts of kinds that are equal -/
namespace L3
open PySem PySem.Spec PyProof.Rows L2
section
variable {X : Cx} {pins : List (Addr × Obj)} {σ : L2.St} {H : Hp} {s : Shared}
theorem opR_or {f : Value → Value → Sem Value} {r r' : R2} (h : OpR X f r) (h' : OpR X f r') : OpR X f (fun x y H Q => r x y H Q ∨ r' x y H Q) := by
  intro pins s σ H x y v u Q I rx ry q
  rcases q with q | q
  · exact h pins s σ H x y v u Q I rx ry q
  · exact h' pins s σ H x y v u Q I rx ry q
theorem kv_hits (I : Inv X pins σ H s) {A : Around} (hu : A.units + 64 < cLine) {ls : List (Key × V)} {b2 : By} {vb : List (Key × Value)} (rb : KV ls vb) (k2 : ByAt H ls b2) (f2 : ∀ q ∈ b2, q.2.fit 60) :
    ∀ {ks : List (Key × V)} {b1 : By} {va : List (Key × Value)}, KV ks va → ByAt H ks b1 → (∀ q ∈ b1, q.2.fit 60 ∧ lk b2 q.1 = some q.2) → PySem.W.KeqHits A s vb va true
  | _, _, _, .nil, .nil, _ => .nil
  | (key, v) :: ks, (x, k) :: b1, (key', u) :: va, .cons ⟨e1, r1⟩ t1, .cons ⟨e2, g⟩ t2, h => by
    obtain ⟨fk, el⟩ := h _ List.mem_cons_self
    have e1' : key = key' := e1
    have e2' : key = .inr x := e2
    subst e1' e2'
    rcases k2.get x with ⟨_, z⟩ | ⟨v2, k', e3, e4, g'⟩
    · rw [z] at el
      cases el
    · rw [e4] at el
      cases el
      have rr : RelO (some v2) (valueAt vb (.inr x)) := by
        rw [← e3]
        exact rb.val (.inr x)
      obtain ⟨y, hy, ry⟩ := rr.some_of
      obtain ⟨as, ra⟩ := Dp.reads I _ v u g.dp r1
      obtain ⟨bs, rb'⟩ := Dp.reads I _ v2 y g'.dp ry
      obtain ⟨l1, l2⟩ := Kd.lay fk
      have eq := SeqAt.eqAt_reads _ _ A s u y as bs ra rb' l1 l1 (by have : min k.dat.depth k.dat.depth = k.dat.depth := Nat.min_self _; omega)
      rw [Kd.eqv, decide_eq_true rfl] at eq
      exact PySem.W.KeqHits.hit hy eq (kv_hits I hu rb k2 f2 t1 t2 fun q hq => h q (List.mem_cons_of_mem _ hq))
def rBy (r : Bool) : R2 := fun x y H Q => ∃ (a b : Addr) (ks ls : List (Key × V)) (b1 b2 : By), x = .ref a ∧ y = .ref b ∧ H a = some (.dK ks) ∧ H b = some (.dK ls) ∧ ByAt H ks b1 ∧ ByAt H ls b2 ∧ b1.length = b2.length ∧ (∀ q ∈ b1, q.2.fit 60 ∧ lk b2 q.1 = some q.2) ∧ (∀ q ∈ b2, q.2.fit 60) ∧ Q (.bl r) H
theorem op_eqBy (hu : X.A.units + 65 < cLine) : OpR X (compareOp .Eq) (rBy true) := by
  intro pins s σ H x y v u Q I rx ry ⟨a, b, ks, ls, b1, b2, ex, ey, ea, eb, k1, k2, hl, h1, h2, q⟩
  subst ex ey
  obtain rfl : v = Value.ref a := rx
  obtain rfl : u = Value.ref b := ry
  obtain ⟨_, ya, va, ra, da⟩ := (show ObjOk X.prog X.w H s.heap a (.dK ks) from I.hok a _ ea)
  obtain ⟨_, yb, vb, rb, db⟩ := (show ObjOk X.prog X.w H s.heap b (.dK ls) from I.hok b _ eb)
  have lv : va.length = vb.length := by rw [← ra.length, ← rb.length, Paired.length k1, Paired.length k2]; exact hl
  refine PySem.W.keq_eq (knd := mixKind X.prog X.w) (r := true) ya yb da db (by omega) (fun _ => kv_hits I (A := X.A.in1) (by show X.A.units + 1 + 64 < cLine; omega) rb k2 h2 ra k1 h1) ?_
  have e : (va.length == vb.length && true) = true := by simp [lv]
  rw [e]
  exact ⟨.bl true, H, I, rfl, q⟩
theorem op_neBy (hu : X.A.units + 65 < cLine) : OpR X (compareOp .NotEq) (rBy false) := by
  intro pins s σ H x y v u Q I rx ry ⟨a, b, ks, ls, b1, b2, ex, ey, ea, eb, k1, k2, hl, h1, h2, q⟩
  subst ex ey
  obtain rfl : v = Value.ref a := rx
  obtain rfl : u = Value.ref b := ry
  obtain ⟨_, ya, va, ra, da⟩ := (show ObjOk X.prog X.w H s.heap a (.dK ks) from I.hok a _ ea)
  obtain ⟨_, yb, vb, rb, db⟩ := (show ObjOk X.prog X.w H s.heap b (.dK ls) from I.hok b _ eb)
  have lv : va.length = vb.length := by rw [← ra.length, ← rb.length, Paired.length k1, Paired.length k2]; exact hl
  refine PySem.W.keq_ne (knd := mixKind X.prog X.w) (r := true) ya yb da db (by omega) (fun _ => kv_hits I (A := X.A.in1) (by show X.A.units + 1 + 64 < cLine; omega) rb k2 h2 ra k1 h1) ?_
  have e : (!(va.length == vb.length && true)) = false := by simp [lv]
  rw [e]
  exact ⟨.bl false, H, I, rfl, q⟩
end
/-- what is in order names each key once -/
theorem addV_nodup {fs : List Str} (x : Str) (h : fs.Nodup) : (addV fs x).Nodup := by
  unfold addV
  by_cases e : x ∈ fs
  · rw [if_pos e]
    exact h
  · rw [if_neg e]
    exact List.nodup_append.mpr ⟨h, by simp, fun a ha b hb => by rw [List.mem_singleton.mp hb]; intro z; rw [z] at ha; exact e ha⟩
theorem Kd.vs_nodup : ∀ (k : Kd) {fs : List Str}, fs.Nodup → (k.vs fs).Nodup
  | .var x, _, h => addV_nodup x h
  | .con _, _, h => h
  | .app a b, _, h => Kd.vs_nodup b (Kd.vs_nodup a h)
theorem vsL_nodup : ∀ (ks : List Kd) {fs : List Str}, fs.Nodup → (vsL ks fs).Nodup
  | [], _, h => h
  | k :: r, _, h => vsL_nodup r (k.vs_nodup h)
theorem lk_self : ∀ (b : By), (names b).Nodup → ∀ q ∈ b, lk b q.1 = some q.2
  | [], _, q, h => nomatch h
  | p :: r, hn, q, h => by
    obtain ⟨n1, n2⟩ := List.nodup_cons.mp (show (p.1 :: names r).Nodup from hn)
    rcases List.mem_cons.mp h with e | h
    · rw [e]
      exact lk_pos rfl
    · have ne : ¬ p.1 = q.1 := fun z => n1 (by rw [z]; exact List.mem_map.mpr ⟨q, h, rfl⟩)
      rw [lk_neg ne]
      exact lk_self r n2 q h
end L3

/-! how kinds are shown: no dict, not too long -/
namespace L3
open PySem L2
theorem shown_word {x : Str} (w : Wok x) : (PyData.str x).shown.length ≤ 82 := by
  have h := StrLaws.reprText_len x (fun c hc => by have := w.2.2 c hc; omega)
  have e : (PyData.str x).shown = reprText x := by simp only [PyData.shown]
  rw [e]
  have := w.2.1
  omega
theorem shown_var : (PyData.str "var").shown.length ≤ 82 := by decide +kernel
theorem shown_con : (PyData.str "con").shown.length ≤ 82 := by decide +kernel
theorem shown_apply : (PyData.str "apply").shown.length ≤ 82 := by decide +kernel
theorem shown_two (a b : PyData) : (PyData.tuple [a, b]).shown.length ≤ a.shown.length + b.shown.length + 7 := by
  have h := tupleText_len_le [a.shown, b.shown]
  simp only [PyData.shown, PyData.shownAll]
  simp only [List.map_cons, List.map_nil, List.sum_cons, List.sum_nil, List.length_cons, List.length_nil] at h
  omega
theorem shown_three (a b c : PyData) : (PyData.tuple [a, b, c]).shown.length ≤ a.shown.length + b.shown.length + c.shown.length + 9 := by
  have h := tupleText_len_le [a.shown, b.shown, c.shown]
  simp only [PyData.shown, PyData.shownAll]
  simp only [List.map_cons, List.map_nil, List.sum_cons, List.sum_nil, List.length_cons, List.length_nil] at h
  omega
theorem Kd.shown_len : ∀ {k : Kd} {n : Nat}, k.fit n → k.dat.shown.length + 100 ≤ 300 * 2 ^ n
  | .var x, n, h => by
    have h1 := shown_two (.str "var") (.str x)
    have h2 := shown_word (wok_of_var h)
    have h3 := shown_var
    have h4 : 1 ≤ 2 ^ n := Nat.one_le_two_pow
    show (PyData.tuple [.str "var", .str x]).shown.length + 100 ≤ _
    omega
  | .con x, n, h => by
    have h1 := shown_two (.str "con") (.str x)
    have h2 := shown_word (wok_of_con h)
    have h3 := shown_con
    have h4 : 1 ≤ 2 ^ n := Nat.one_le_two_pow
    show (PyData.tuple [.str "con", .str x]).shown.length + 100 ≤ _
    omega
  | .app a b, n, h => by
    obtain ⟨m, rfl, ha, hb⟩ := Kd.fit_app h
    have h1 := shown_three (.str "apply") a.dat b.dat
    have h2 := Kd.shown_len ha
    have h3 := Kd.shown_len hb
    have h4 := shown_apply
    have h5 : 2 ^ (m + 1) = 2 ^ m * 2 := Nat.pow_succ ..
    show (PyData.tuple [.str "apply", a.dat, b.dat]).shown.length + 100 ≤ _
    omega
theorem Kd.show_ok : ∀ k : Kd, k.dat.showable = true ∧ k.dat.hasDict = false
  | .var x => by simp [Kd.dat, PyData.showable, PyData.showableAll, PyData.hasDict, PyData.hasDictAll]
  | .con x => by simp [Kd.dat, PyData.showable, PyData.showableAll, PyData.hasDict, PyData.hasDictAll]
  | .app a b => by
    obtain ⟨h1, h2⟩ := Kd.show_ok a
    obtain ⟨h3, h4⟩ := Kd.show_ok b
    simp [Kd.dat, PyData.showable, PyData.showableAll, PyData.hasDict, PyData.hasDictAll, h1, h2, h3, h4]
theorem kds_show : ∀ {ks : List Kd} {n : Nat}, (∀ k ∈ ks, k.fit n) → PyData.showableAll (ks.map Kd.dat) = true ∧ PyData.hasDictAll (ks.map Kd.dat) = false ∧ PyData.depthAll (ks.map Kd.dat) ≤ n + 1 ∧ ((PyData.shownAll (ks.map Kd.dat)).map (·.length)).sum ≤ ks.length * (300 * 2 ^ n) ∧ (PyData.shownAll (ks.map Kd.dat)).length = ks.length
  | [], n, _ => by simp [PyData.showableAll, PyData.hasDictAll, PyData.depthAll, PyData.shownAll]
  | k :: r, n, h => by
    obtain ⟨h1, h2, h3, h4, h5⟩ := kds_show (ks := r) (n := n) fun y hy => h y (List.mem_cons_of_mem _ hy)
    have hk := h k List.mem_cons_self
    obtain ⟨g1, g2⟩ := Kd.show_ok k
    obtain ⟨g3, g4⟩ := Kd.lay hk
    have g5 := Kd.shown_len hk
    refine ⟨?_, ?_, ?_, ?_, ?_⟩
    · simp [PyData.showableAll, g1, h1]
    · simp [PyData.hasDictAll, g2, h2]
    · simp only [List.map_cons, PyData.depthAll]
      omega
    · have e : (r.length + 1) * (300 * 2 ^ n) = r.length * (300 * 2 ^ n) + 300 * 2 ^ n := Nat.succ_mul ..
      simp only [List.map_cons, PyData.shownAll, List.sum_cons, List.length_cons]
      rw [e]
      generalize r.length * (300 * 2 ^ n) = z at h4 ⊢
      omega
    · simp [PyData.shownAll, h5]
/-- [patterns, kinds] -/
def twoD (ps ks : List Kd) : PyData := .list [.list (ps.map Kd.dat), .list (ks.map Kd.dat)]
theorem twoD_show {ps ks : List Kd} (hp : ∀ k ∈ ps, k.fit 12) (hk : ∀ k ∈ ks, k.fit 12) (lp : ps.length ≤ 4) (lk : ks.length ≤ 4) :
    (twoD ps ks).showable = true ∧ (twoD ps ks).hasDict = false ∧ (twoD ps ks).depth ≤ 60 ∧ (twoD ps ks).shown.length ≤ sizeLine := by
  obtain ⟨a1, a2, a3, a4, a5⟩ := kds_show hp
  obtain ⟨b1, b2, b3, b4, b5⟩ := kds_show hk
  refine ⟨?_, ?_, ?_, ?_⟩
  · simp [twoD, PyData.showable, PyData.showableAll, a1, b1]
  · simp [twoD, PyData.hasDict, PyData.hasDictAll, a2, b2]
  · simp only [twoD, PyData.depth, PyData.depthAll]
    omega
  · have h := listText_len_le [listText (PyData.shownAll (ps.map Kd.dat)), listText (PyData.shownAll (ks.map Kd.dat))]
    have h1 := listText_len_le (PyData.shownAll (ps.map Kd.dat))
    have h2 := listText_len_le (PyData.shownAll (ks.map Kd.dat))
    have c1 : ps.length * (300 * 2 ^ 12) ≤ 4 * (300 * 2 ^ 12) := Nat.mul_le_mul_right _ lp
    have c2 : ks.length * (300 * 2 ^ 12) ≤ 4 * (300 * 2 ^ 12) := Nat.mul_le_mul_right _ lk
    simp only [List.map_cons, List.map_nil, List.sum_cons, List.sum_nil, List.length_cons, List.length_nil] at h
    simp only [twoD, PyData.shown, PyData.shownAll]
    have e := sizeLine_eq
    rw [e]
    omega
end L3

set_option maxHeartbeats 4000000
/-! values of any kind: none, bools, ints, texts, lists, tuples, dicts; literals; repr -/
namespace L3
open PySem PySem.Spec PyProof.Rows L2
mutual
/-- v is d; t is where the tape stands -/
inductive Da (t : Addr) (H : Hp) : V → PyData → Prop
  | non : Da t H .non .none
  | bl (b : Bool) : Da t H (.bl b) (.bool b)
  | int (i : Int) : Da t H (.int i) (.int i)
  | str (x : Str) : Da t H (.str x) (.str x)
  | lst {a : Addr} {xs : List V} {ds : List PyData} : H a = some (.lst xs) → a ≠ sysModules → DaAll t H xs ds → Da t H (.ref a) (.list ds)
  | tup {a : Addr} {xs : List V} {ds : List PyData} : H a = some (.tup xs) → DaAll t H xs ds → Da t H (.ref a) (.tuple ds)
  | dct {a : Addr} {kvs : List (Key × V)} {ds : List (PyData × PyData)} : H a = some (.dK kvs) → a ≠ t → DaKv t H kvs ds → Da t H (.ref a) (.dict ds)
inductive DaAll (t : Addr) (H : Hp) : List V → List PyData → Prop
  | nil : DaAll t H [] []
  | cons {v : V} {vs : List V} {d : PyData} {ds : List PyData} : Da t H v d → DaAll t H vs ds → DaAll t H (v :: vs) (d :: ds)
inductive DaKv (t : Addr) (H : Hp) : List (Key × V) → List (PyData × PyData) → Prop
  | nil : DaKv t H [] []
  | cons {x : Str} {v : V} {vs : List (Key × V)} {d : PyData} {ds : List (PyData × PyData)} : Da t H v d → DaKv t H vs ds → DaKv t H ((.inr x, v) :: vs) ((.str x, d) :: ds)
end
/-- what a change of the heap has to keep -/
structure Kp (t : Addr) (H H' : Hp) : Prop where
  l : ∀ a xs, H a = some (.lst xs) → H' a = some (.lst xs)
  u : ∀ a xs, H a = some (.tup xs) → H' a = some (.tup xs)
  d : ∀ a kvs, a ≠ t → H a = some (.dK kvs) → H' a = some (.dK kvs)
mutual
theorem Da.kp {t : Addr} {H H' : Hp} (e : Kp t H H') : ∀ {d : PyData} {v : V}, Da t H v d → Da t H' v d
  | .none, _, h => by cases h; exact .non
  | .bool b, _, h => by cases h; exact .bl b
  | .int i, _, h => by cases h; exact .int i
  | .str x, _, h => by cases h; exact .str x
  | .list ds, _, h => by
    cases h with
    | lst h1 h2 h3 => exact .lst (e.l _ _ h1) h2 (DaAll.kp e h3)
  | .tuple ds, _, h => by
    cases h with
    | tup h1 h3 => exact .tup (e.u _ _ h1) (DaAll.kp e h3)
  | .dict ds, _, h => by
    cases h with
    | dct h1 h2 h3 => exact .dct (e.d _ _ h2 h1) h2 (DaKv.kp e h3)
theorem DaAll.kp {t : Addr} {H H' : Hp} (e : Kp t H H') : ∀ {ds : List PyData} {vs : List V}, DaAll t H vs ds → DaAll t H' vs ds
  | [], _, h => by cases h; exact .nil
  | d :: ds, _, h => by
    cases h with
    | cons h1 h2 => exact .cons (Da.kp e h1) (DaAll.kp e h2)
theorem DaKv.kp {t : Addr} {H H' : Hp} (e : Kp t H H') : ∀ {ds : List (PyData × PyData)} {vs : List (Key × V)}, DaKv t H vs ds → DaKv t H' vs ds
  | [], _, h => by cases h; exact .nil
  | d :: ds, _, h => by
    cases h with
    | cons h1 h2 => exact .cons (Da.kp e h1) (DaKv.kp e h2)
end
theorem kp_same {t : Addr} {H H' : Hp} (e : Same H H') : Kp t H H' := ⟨fun _ _ h => e _ _ h, fun _ _ h => e _ _ h, fun _ _ _ h => e _ _ h⟩
theorem DaAll.len {t : Addr} {H : Hp} : ∀ {vs : List V} {ds : List PyData}, DaAll t H vs ds → vs.length = ds.length
  | _, [], h => by cases h; rfl
  | _, d :: ds, h => by
    cases h with
    | cons _ h => rw [List.length_cons, List.length_cons, DaAll.len h]
theorem DaAll.app {t : Addr} {H : Hp} : ∀ {vs ws : List V} {ds es : List PyData}, DaAll t H vs ds → DaAll t H ws es → DaAll t H (vs ++ ws) (ds ++ es)
  | _, _, [], _, h, g => by cases h; exact g
  | _, _, d :: ds, _, h, g => by
    cases h with
    | cons h1 h2 => exact .cons h1 (DaAll.app h2 g)
theorem DaAll.mem {t : Addr} {H : Hp} {v : V} : ∀ {vs : List V} {ds : List PyData}, DaAll t H vs ds → v ∈ vs → ∃ d ∈ ds, Da t H v d
  | _, [], h, hv => by cases h; cases hv
  | _, d :: ds, h, hv => by
    cases h with
    | cons h1 h2 =>
      rcases List.mem_cons.mp hv with e | hv
      · exact ⟨d, List.mem_cons_self, by rw [e]; exact h1⟩
      · obtain ⟨d', m, q⟩ := DaAll.mem h2 hv
        exact ⟨d', List.mem_cons_of_mem _ m, q⟩
/-! ### read by the library -/
section
variable {X : Cx} {pins : List (Addr × Obj)} {σ : L2.St} {H : Hp} {s : Shared} {t : Addr}
theorem kv_keys {knd : KeyKind X.prog X.w Key} (hk : knd.is = keyIs) : ∀ {kvs : List (Key × V)} {ds : List (PyData × PyData)} {es : List DictEntry} {vs : List (Key × Value)}, DaKv t H kvs ds → KV kvs vs → Pairs knd es vs → ReadsAll s.heap (es.map (·.key)) (ds.map (·.1)) []
  | _, [], _, _, h, h2, h3 => by
    cases h
    cases h2
    cases h3
    exact ReadsAll.nil
  | _, (q, d) :: ds, [], _, h, h2, h3 => by
    cases h3
    cases h2
    cases h
  | _, (q, d) :: ds, e :: es, _, h, h2, h3 => by
    cases h with
    | @cons x v vs d' ds' g1 g2 =>
      cases h2 with
      | cons e2 t2 =>
        cases h3 with
        | cons p1 p2 t3 =>
          obtain ⟨e2, _⟩ := e2
          rw [hk] at p1
          have h1' : keyIs _ e.key = true := p1
          rw [← e2] at h1'
          obtain ⟨tk, ht⟩ := Value.isStrOf_shape (x := x) (v := e.key) h1'
          have ih := kv_keys hk g2 t2 t3
          show ReadsAll s.heap (e.key :: es.map (·.key)) (PyData.str x :: _) []
          rw [ht]
          exact ReadsAll.cons (as := []) (bs := []) (Reads.str _ _) ih
mutual
theorem Da.reads (I : Inv X pins σ H s) : ∀ (d : PyData) (v : V) (u : Value), Da t H v d → RelV v u → ∃ as, Reads s.heap u d as ∧ sysModules ∉ as
  | .none, _, _, h, r => by
    cases h
    cases r
    exact ⟨_, Reads.none, List.not_mem_nil⟩
  | .bool b, _, _, h, r => by
    cases h
    cases r
    exact ⟨_, Reads.bool b, List.not_mem_nil⟩
  | .int i, _, _, h, r => by
    cases h
    obtain ⟨k, rfl⟩ := r
    exact ⟨_, Reads.int i k, List.not_mem_nil⟩
  | .str x, _, _, h, r => by
    cases h
    obtain ⟨k, rfl⟩ := r
    exact ⟨_, Reads.str x k, List.not_mem_nil⟩
  | .list ds, _, u, h, r => by
    cases h with
    | @lst a xs _ hs ns ha =>
      obtain rfl : u = Value.ref a := r
      obtain ⟨its, rv, ⟨o, n, ho, hc, _, hd⟩, _⟩ := I.list (SqL.of hs)
      obtain ⟨as, hr, q⟩ := Da.readsAll I ds _ its ha rv
      exact ⟨_, Reads.list ho hc hd hr, fun z => (List.mem_cons.mp z).elim (fun e => ns e.symm) q⟩
  | .tuple ds, _, u, h, r => by
    cases h with
    | @tup a xs _ hs ha =>
      obtain rfl : u = Value.ref a := r
      obtain ⟨its, rv, ⟨o, ho, hc, n, hd⟩, _⟩ := I.tuple (SqT.of hs)
      obtain ⟨as, hr, q⟩ := Da.readsAll I ds _ its ha rv
      exact ⟨_, Reads.tuple ho hc hd hr, q⟩
  | .dict ds, _, u, h, r => by
    cases h with
    | @dct a kvs _ hs na ha =>
      obtain rfl : u = Value.ref a := r
      obtain ⟨_, lo, vs, ra, da⟩ := (show ObjOk X.prog X.w H s.heap a (.dK kvs) from I.hok a _ hs)
      obtain ⟨ep, o, es, ho, hx, hdat, _, pr, _⟩ := da.dictAt
      obtain ⟨bs, hr, q⟩ := Da.readsKv I ds kvs _ vs ha ra pr
      refine ⟨_, Reads.dict (as := []) ho hx.1 hdat (kv_keys rfl ha ra pr) hr, fun z => ?_⟩
      rcases List.mem_append.mp z with e | e
      · have e := List.mem_singleton.mp e
        rw [← e] at lo
        simp at lo
      · exact q e
theorem Da.readsAll (I : Inv X pins σ H s) : ∀ (ds : List PyData) (vs : List V) (us : List Value), DaAll t H vs ds → Vals vs us → ∃ as, ReadsAll s.heap us ds as ∧ sysModules ∉ as
  | [], _, _, h, r => by
    cases h
    cases r
    exact ⟨_, ReadsAll.nil, List.not_mem_nil⟩
  | d :: ds, _, _, h, r => by
    cases h with
    | cons h1 h2 =>
      cases r with
      | cons r1 r2 =>
        obtain ⟨as, q1, n1⟩ := Da.reads I d _ _ h1 r1
        obtain ⟨bs, q2, n2⟩ := Da.readsAll I ds _ _ h2 r2
        exact ⟨_, ReadsAll.cons q1 q2, fun z => (List.mem_append.mp z).elim n1 n2⟩
theorem Da.readsKv (I : Inv X pins σ H s) {knd : KeyKind X.prog X.w Key} : ∀ (ds : List (PyData × PyData)) (kvs : List (Key × V)) (es : List DictEntry) (vs : List (Key × Value)), DaKv t H kvs ds → KV kvs vs → Pairs knd es vs → ∃ as, ReadsAll s.heap (es.map (·.val)) (ds.map (·.2)) as ∧ sysModules ∉ as
  | [], _, _, _, h, h2, h3 => by
    cases h
    cases h2
    cases h3
    exact ⟨_, ReadsAll.nil, List.not_mem_nil⟩
  | (q, d) :: ds, _, [], _, h, h2, h3 => by
    cases h3
    cases h2
    cases h
  | (q, d) :: ds, _, e :: es', _, h, h2, h3 => by
    cases h with
    | @cons x v vs d' ds' g1 g2 =>
      cases h2 with
      | cons e2 t2 =>
        cases h3 with
        | cons p1 p2 t3 =>
          obtain ⟨_, r⟩ := e2
          obtain ⟨as, q1, n1⟩ := Da.reads I d _ _ g1 r
          obtain ⟨bs, q2, n2⟩ := Da.readsKv I ds _ es' _ g2 t2 t3
          have h2' : e.val = _ := p2
          refine ⟨_, ?_, fun z => (List.mem_append.mp z).elim n1 n2⟩
          show ReadsAll s.heap (e.val :: es'.map (·.val)) (d :: _) _
          rw [h2']
          exact ReadsAll.cons q1 q2
end
/-- repr of a list, a tuple or a dict of such values -/
def rReprA (t : Addr) : List V → Hp → VK → Prop := fun xs H Q => ∃ (a : Addr) (d : PyData), xs = [.ref a] ∧ Da t H (.ref a) d ∧ d.showable = true ∧ d.depth ≤ 60 ∧ d.shown.length ≤ sizeLine ∧ Q (.str d.shown) H
theorem call_reprA (t : Addr) (hg : X.A.guards = some []) (hu : X.A.units + 64 < cLine) : CallR X (.builtin "repr") (rReprA t) := by
  intro pins s σ H xs us Q I r h
  obtain ⟨a, d, rfl, hd, hs, hdep, hsz, q⟩ := h
  obtain ⟨u, rfl, rx⟩ := vals1 r
  obtain rfl : u = Value.ref a := rx
  obtain ⟨as, hr, n⟩ := Da.reads I d _ _ hd (show RelV (.ref a) (.ref a) from rfl)
  exact repr_of_reads' hr hs (fun _ => n) hg (by omega) (fun _ _ e => e) (fun h' u tk hk => ⟨.str d.shown, H, I.kept (t' := tk) hk, ⟨u, rfl⟩, q⟩) hsz
end
/-! ### literals -/
section
variable {X : Cx} {e : Expr} {es : List Expr} {pos : Pos} {t : Addr}
theorem _root_.L2.PE.weak {te te' : TE} (h : PE X e te) (m : ∀ σ H Q, te' σ H Q → te σ H Q) : PE X e te' := ⟨fun pins s σ H Q I q => h.run pins s σ H Q I (m σ H Q q)⟩
theorem _root_.L2.PA.weak {te te' : TA} (h : PA X es te) (m : ∀ σ H Q, te' σ H Q → te σ H Q) : PA X es te' := ⟨fun pos pins s σ H Q I q => h.run pos pins s σ H Q I (m σ H Q q)⟩
/-- a value that is d, all else is kept -/
def tLit (t : Addr) (d : PyData) : TE := fun _ H Q => (∃ o, H t = some o) ∧ ∀ H' v, Same H H' → Da t H' v d → Q v H'
def tLits (t : Addr) (ds : List PyData) : TA := fun _ H Q => (∃ o, H t = some o) ∧ ∀ H' vs, Same H H' → DaAll t H' vs ds → Q vs H'
/-- a new list of such values -/
def tLitL (t : Addr) (ds : List PyData) : TE := fun _ H Q => (∃ o, H t = some o) ∧ ∀ H' l vs, Same H H' → l ≠ sysModules → H' l = some (.lst vs) → DaAll t H' vs ds → Q (.ref l) H'
theorem pl_nil : PA X [] (tLits t []) := pa_nil.weak fun σ H Q h => h.2 H [] (Same.refl H) .nil
theorem pl_cons {d : PyData} {ds : List PyData} (ha : PE X e (tLit t d)) (hr : PA X es (tLits t ds)) (hs : starEach (e :: es) X.env = (false, eval e X.env) :: starEach es X.env := by rfl) : PA X (e :: es) (tLits t (d :: ds)) :=
  (pa_cons ha hr hs).weak fun σ H Q ⟨⟨o, ho⟩, h⟩ => ⟨⟨o, ho⟩, fun H1 v s1 d1 => ⟨⟨o, s1 _ _ ho⟩, fun H2 vs s2 d2 => h H2 (v :: vs) (s1.trans s2) (.cons (d1.kp (kp_same s2)) d2)⟩⟩
theorem pl_tup {x1} {ds : List PyData} (h : PA X es (tLits t ds)) (hz : ds.length ≤ 1000 := by decide) : PE X (.Tuple es x1 pos) (tLit t (.tuple ds)) :=
  (pe_tup h).weak fun σ H Q ⟨⟨o, ho⟩, h⟩ => ⟨⟨o, ho⟩, fun H1 vs s1 d1 => ⟨by rw [d1.len, sizeLine_eq]; omega, fun p hp => h _ _ (s1.trans (same_new hp)) (.tup upd_same (d1.kp (kp_same (same_new hp))))⟩⟩
theorem pl_lstL {ds : List PyData} (h : PA X es (tLits t ds)) (hz : ds.length ≤ 1000 := by decide) : PE X (.List es pos) (tLitL t ds) := by
  refine ⟨fun pins s σ H Q I hq => ?_⟩
  obtain ⟨ho, hq⟩ := hq
  refine wpAny_List_spliced (thn (h.run pos pins s σ H (fun vs H1 => Same H H1 ∧ DaAll t H1 vs ds) I ⟨ho, fun H1 vs s1 d1 => ⟨s1, d1⟩⟩) fun us s1 ⟨xs, H1, I1, r, sm, dd⟩ => ⟨by rw [← r.length, dd.len, sizeLine_eq]; omega, ?_⟩)
  have hf : H1 s1.heap.objs.size = none := I1.hok.fresh (Nat.le_refl _)
  refine ⟨.ref s1.heap.objs.size, upd H1 s1.heap.objs.size (.lst xs), I1.laid (t' := s1.toks) (fun b u e => Heap.get?_push_of_some _ e) (Nat.le_refl _) ?_, rfl, hq _ _ xs (sm.trans (same_new hf)) (Nat.ne_of_gt I1.big) upd_same (dd.kp (kp_same (same_new hf)))⟩
  exact ⟨by rw [dd.len, sizeLine_eq]; omega, us, 0, r, Heap.get?_push_size _ rfl⟩
theorem pl_lst {ds : List PyData} (h : PA X es (tLits t ds)) (hz : ds.length ≤ 1000 := by decide) : PE X (.List es pos) (tLit t (.list ds)) :=
  (pl_lstL h hz).weak fun σ H Q ⟨ho, h⟩ => ⟨ho, fun H1 l vs s1 n1 g1 d1 => h _ _ s1 (.lst g1 n1 d1)⟩
theorem pl_c {x : V} {d : PyData} (h : PE X e (tC x)) (m : ∀ H, Da t H x d) : PE X e (tLit t d) := h.weak fun σ H Q ⟨_, h⟩ => h H x (Same.refl H) (m H)
theorem pl_d0 : PE X (.Dict [] [] pos) (tLit t (.dict [])) :=
  pe_dnewK.weak fun σ H Q ⟨⟨o, ho⟩, h⟩ p hp => h _ _ (same_new hp) (.dct upd_same (fun e => by rw [e, ho] at hp; cases hp) .nil)
theorem pl_neg {i : Int} (h : PE X e (tC (.int i))) : PE X (.UnaryOp .USub e pos) (tLit t (.int (-i))) :=
  (pe_un un_neg h).weak fun σ H Q ⟨_, q⟩ => ⟨_, rfl, q H _ (Same.refl H) (.int _)⟩
theorem pl_pow {e2 : Expr} {i j : Int} (h : PE X e (tC (.int i))) (h2 : PE X e2 (tC (.int j))) (hc : CPow i j := by decide) : PE X (.BinOp e .Pow e2 pos) (tLit t (.int (i ^ j.toNat))) :=
  (pe_op op_pow h h2).weak fun σ H Q ⟨_, q⟩ => ⟨_, _, rfl, rfl, hc, q H _ (Same.refl H) (.int _)⟩
theorem pl_d1 {x : Str} {i : Int} {p1 p2 : Pos} {k1 k2} : PE X (.Dict [some (.Constant (.str x) k1 p1)] [.Constant (.int i) k2 p2] pos) (tLit t (.dict [(.str x, .int i)])) :=
  (pe_disp (pps_cons pe_str pe_int pps_nil) (by rfl) (by rfl) (fun z => by cases z) (by show 1 ≤ 15; decide)).weak fun σ H Q ⟨⟨o, ho⟩, h⟩ p hp => ⟨upd_same, [(.inr x, .int i)], rfl, by show 1 ≤ 15; decide, h _ _ (fun b o' e => by
    rw [upd_ne (ne_of_none e hp), upd_ne (ne_of_none e hp)]
    exact e) (.dct upd_same (fun e => by rw [e, ho] at hp; cases hp) (.cons (.int i) .nil))⟩
end
end L3

/-! a value of any kind: its type; beside a text -/
namespace L3
open PySem PySem.Spec PyProof.Rows L2
open PySem.SeqAt
theorem dict_eq_declines_str (a : Addr) (es : Array DictEntry) (n : Nat) (dd : Option Addr) (sl : Array (Option Value)) (b : Str) (u : Tok) :
    Meets (Builtin.«dict.__eq__» ⟨[.ref a, .str b u], []⟩) (fun _ R s => s.heap.get? a = some { cls := .type "dict", dict := dd, data := .dict es n, slots := sl } ∧ R (.ok (.ret .notImplemented)) s) :=
  .of_wp fun prog w A R s h => by
    obtain ⟨hl, h⟩ := h
    have tA : s.TypeIs (.ref a) "dict" := ⟨_, hl, rfl⟩
    show wpAny _ _ (Builtin.Dict.dictSlotArgs "__eq__" ⟨[.ref a, .str b u], []⟩ >>= _) _ _ s
    refine wpAny_bind ?_
    unfold Builtin.Dict.dictSlotArgs
    refine wpAny_bind (wpAny_notOrdered_dict tA ?_)
    show wpAny _ _ (pure (Value.ref a, Value.str b u)) _ _ s
    refine wpAny_pure ?_
    refine wpAny_bind (wpAny_isInstance (T := "str") (typeIs_str s b u) F.sub_str_dict ?_)
    simp only [Bool.not_false, if_true]
    exact wpAny_bind (wpAny_rule (wpAny_pure ⟨_, rfl, h⟩))
theorem str_eq_declines_dict (b : Str) (u : Tok) (l : Addr) (c : Value) (es : Array DictEntry) (n : Nat) (dd : Option Addr) (sl : Array (Option Value)) :
    Meets (Builtin.«str.__eq__» ⟨[.str b u, .ref l], []⟩) (fun _ R s => s.heap.get? l = some { cls := c, dict := dd, data := .dict es n, slots := sl } ∧ R (.ok (.ret .notImplemented)) s) :=
  .of_wp fun prog w A R s h => by obtain ⟨hp, g, d, tk, os⟩ := s; obtain ⟨hl, h⟩ := h; wp_walk using wpAny_loadPart' hl, wpAny_load hl; exact ⟨_, rfl, h⟩
section
variable {A : Around} {s : Shared}
theorem rc_dict_str {l : Addr} {o : Obj} {es : Array DictEntry} {n : Nat} (b : Str) (u : Tok) (ho : s.heap.get? l = some o) (hc : o.cls = .type "dict") (hd : o.data = .dict es n) (hu : A.units < cLine) : RcAt A s (.ref l) (.str b u) false := fun prog w E Q h => by
  obtain ⟨cls, dd, data, sl⟩ := o
  simp only at hc hd
  subst hc hd
  exact rc_eq_decline_or (k := false) ⟨_, ho, rfl⟩ (typeIs_str s b u) (by decide) F.sub_str_dict F.slot_dict_eq F.slot_str_eq_refl
    (fun _ hq => call_meets F.slot_dict_eq ⟨_, ho, rfl⟩ F.entry_dict_eq (F.args_dict_eq_2 _ _) (dict_eq_declines_str l es n dd sl b u) ⟨ho, hq⟩)
    (fun _ hq => call_meets F.slot_str_eq_refl (typeIs_str s b u) F.entry_str_eq (F.args_str_eq_2 _ _) (str_eq_declines_dict b u l (.type "dict") es n dd sl) ⟨ho, hq⟩)
    (fun _ hq => wpAny_of_eq (rfl : isSame (.ref l) (.str b u) = pure false) hq) (.inr hu) h
end
/-- whether a value is this text -/
def isS (x : Str) : PyData → Bool
  | .str y => decide (y = x)
  | _ => false
def tyName : PyData → String
  | .none => "NoneType"
  | .bool _ => "bool"
  | .int _ => "int"
  | .str _ => "str"
  | .list _ => "list"
  | .tuple _ => "tuple"
  | .dict _ => "dict"
section
variable {X : Cx} {pins : List (Addr × Obj)} {σ : L2.St} {H : Hp} {s : Shared}
def rEqStr (t : Addr) : R2 := fun x y H Q => ∃ (d : PyData) (z : Str), y = .str z ∧ Da t H x d ∧ Q (.bl (isS z d)) H
theorem op_eqStr {t : Addr} (hu : X.A.units + 64 < cLine) : OpR X (compareOp .Eq) (rEqStr t) := by
  intro pins s σ H x y v u Q I rx ry h
  obtain ⟨d, z, rfl, hd, q⟩ := h
  obtain ⟨tk, rfl⟩ := (show ∃ k, u = Value.str z k from ry)
  have hu' : X.A.units < cLine := by omega
  have fin : ∀ b : Bool, b = isS z d → EP X pins σ Q (.bool b) s := fun b e => ⟨.bl b, H, I, rfl, by rw [e]; exact q⟩
  cases d with
  | none =>
    cases hd
    cases (show v = Value.none from rx)
    exact RcAt.none_str z tk _ _ _ _ (fin _ rfl)
  | bool b =>
    cases hd
    cases (show v = Value.bool b from rx)
    exact RcAt.bool_str b z tk _ _ _ _ (fin _ rfl)
  | int i =>
    cases hd
    obtain ⟨k, rfl⟩ := (show ∃ k, v = Value.int i k from rx)
    exact RcAt.int_str i k z tk _ _ _ _ (fin _ rfl)
  | str y =>
    cases hd
    obtain ⟨k, rfl⟩ := (show ∃ k, v = Value.str y k from rx)
    exact RcAt.str_str y k z tk _ _ _ _ (fin _ (str_beq y z))
  | list ds =>
    cases hd with
    | @lst a xs _ hs ns ha =>
      obtain rfl : v = Value.ref a := rx
      obtain ⟨its, rv, ⟨o, n, ho, hc, _, hd⟩, _⟩ := I.list (SqL.of hs)
      exact RcAt.list_str z tk ⟨o, ho, hc, n, hd⟩ hu' _ _ _ _ (fin _ rfl)
  | tuple ds =>
    cases hd with
    | @tup a xs _ hs ha =>
      obtain rfl : v = Value.ref a := rx
      obtain ⟨its, rv, ⟨o, ho, hc, n, hd⟩, _⟩ := I.tuple (SqT.of hs)
      exact RcAt.tuple_str z tk ⟨o, ho, hc, n, hd⟩ hu' _ _ _ _ (fin _ rfl)
  | dict ds =>
    cases hd with
    | @dct a kvs _ hs na ha =>
      obtain rfl : v = Value.ref a := rx
      obtain ⟨_, lo, vs, ra, da⟩ := (show ObjOk X.prog X.w H s.heap a (.dK kvs) from I.hok a _ hs)
      obtain ⟨ep, o, es, ho, hx, hdat, _, pr, _⟩ := da.dictAt
      exact rc_dict_str z tk ho hx.1 hdat hu' _ _ _ _ (fin _ rfl)
theorem Da.ty {K : PySem.W.Frag} {t : Addr} {v : V} {d : PyData} (h : Da t H v d) : TyX K H v (.type (tyName d)) := by
  cases d with
  | none => cases h; exact .base .non
  | bool b => cases h; exact .base (.bl b)
  | int i => cases h; exact .base (.int i)
  | str y => cases h; exact .base (.str y)
  | list ds =>
    cases h with
    | lst h1 _ _ => exact .base (.lst h1)
  | tuple ds =>
    cases h with
    | tup h1 _ => exact .base (.tup h1)
  | dict ds =>
    cases h with
    | dct h1 _ _ => exact .base (.dK h1)
def isStr : PyData → Bool
  | .str _ => true
  | _ => false
def isTup : PyData → Bool
  | .tuple _ => true
  | _ => false
theorem kit_str {K : PySem.W.Frag} (d : PyData) : PySem.W.kitOne K (.type (tyName d)) (.type "str") = some (isStr d) := by
  cases d with
  | none => exact kit_ty (show kitB "NoneType" "str" = some false by decide +kernel)
  | bool _ => exact kit_ty (show kitB "bool" "str" = some false by decide +kernel)
  | int _ => exact kit_ty (show kitB "int" "str" = some false by decide +kernel)
  | str _ => exact kit_ty (show kitB "str" "str" = some true by decide +kernel)
  | list _ => exact kit_ty (show kitB "list" "str" = some false by decide +kernel)
  | tuple _ => exact kit_ty (show kitB "tuple" "str" = some false by decide +kernel)
  | dict _ => exact kit_ty (show kitB "dict" "str" = some false by decide +kernel)
theorem kit_tup {K : PySem.W.Frag} (d : PyData) : PySem.W.kitOne K (.type (tyName d)) (.type "tuple") = some (isTup d) := by
  cases d with
  | none => exact kit_ty (show kitB "NoneType" "tuple" = some false by decide +kernel)
  | bool _ => exact kit_ty (show kitB "bool" "tuple" = some false by decide +kernel)
  | int _ => exact kit_ty (show kitB "int" "tuple" = some false by decide +kernel)
  | str _ => exact kit_ty (show kitB "str" "tuple" = some false by decide +kernel)
  | list _ => exact kit_ty (show kitB "list" "tuple" = some false by decide +kernel)
  | tuple _ => exact kit_ty (show kitB "tuple" "tuple" = some true by decide +kernel)
  | dict _ => exact kit_ty (show kitB "dict" "tuple" = some false by decide +kernel)
end
end L3

/-! names, wholes, texts among values of any kind -/
namespace L3
open PySem L2
theorem szl {n : Nat} (h : n ≤ 1000000) : n < sizeLine := Nat.lt_of_le_of_lt h (by decide)
structure Bl9 (mg : Str → Option Value) : Prop where
  isinstance : mg "isinstance" = none
  all : mg "all" = none
  str_ : mg "str" = none
  tuple : mg "tuple" = none
  bool : mg "bool" = none
  int : mg "int" = none
  ord : mg "ord" = none
  abs : mg "abs" = none
  max : mg "max" = none
def barL : List Str := ["data", "role", "case", "define", "derive", "picks", "above", "settles", "member", "as", "if", "given", "let", "and", "in", "match", "end"]
theorem pe_gc {X : Cx} {x : Str} {v : V} {pos : Pos} (hg : Gl X x) (h : ∃ u, X.mg x = some u ∧ RelV v u) (hd : (x == ("__debug__" : Str)) = false := by decide) : PE X (.Name x pos) (tC v) := by
  obtain ⟨u, e, r⟩ := h
  exact pe_glob hg e r hd
/-- a sign from a to z -/
def lo (c : Nat) : Bool := decide (97 ≤ c) && decide (c ≤ 122)
/-- 1 to 8 letters -/
def wok (x : Str) : Bool := decide (1 ≤ x.length) && decide (x.length ≤ 8) && x.cps.all lo
def isWordD : PyData → Bool
  | .str x => wok x
  | _ => false
def isNameD : PyData → Bool
  | .str x => wok x && !decide (x ∈ barL)
  | _ => false
def isIntD : PyData → Bool
  | .int _ => true
  | _ => false
def isWholeD : PyData → Bool
  | .int i => decide (-(10 ^ 30) ≤ i) && decide (i ≤ 10 ^ 30)
  | _ => false
/-- a sign that a text may have -/
def sgnT (c : Nat) : Bool := decide (32 ≤ c) && decide (c ≤ 126) && !decide (c = 37)
def isTextD : PyData → Bool
  | .str x => decide (x.length ≤ 200) && x.cps.all sgnT
  | _ => false
theorem lo_tab : ∀ c, c < 128 → (Unicode.isAlpha c && Unicode.isUpper c) = (decide (65 ≤ c) && decide (c ≤ 90)) ∧ Unicode.isAlpha c = (decide (65 ≤ c) && decide (c ≤ 90) || lo c) ∧ Unicode.isLower c = lo c ∧ (Unicode.isUpper c || Unicode.isTitle c) = (decide (65 ≤ c) && decide (c ≤ 90)) := by decide +kernel
theorem asc_low {x : Str} (h1 : 1 ≤ x.length) : (Txt.isascii x && (Txt.isalpha x && Txt.islower x)) = x.cps.all lo := by
  have hl : ∀ p : Nat → Bool, x.cps.all p = x.cps.toList.all p := fun p => (Array.all_toList).symm
  have hn : ∀ p : Nat → Bool, x.cps.any p = x.cps.toList.any p := fun p => (Array.any_toList).symm
  unfold Txt.isascii Txt.isalpha Txt.islower
  have e1 : decide (x.length > 0) = true := decide_eq_true h1
  rw [e1, hl, hl, hl, hn, hn]
  have h1 : 0 < x.cps.toList.length := by
    rw [Array.length_toList]
    exact h1
  generalize x.cps.toList = l at h1 ⊢
  rw [Bool.eq_iff_iff]
  simp only [Bool.true_and, Bool.and_eq_true, List.all_eq_true, List.any_eq_true, Bool.not_eq_true', List.any_eq_false, decide_eq_true_eq]
  constructor
  · rintro ⟨ha, hb, _, hc⟩ c m
    obtain ⟨_, t2, _, t4⟩ := lo_tab c (ha c m)
    have b := hb c m
    have u := hc c m
    rw [t4] at u
    rw [t2, Bool.or_eq_true] at b
    rcases b with b | b
    · exact absurd b u
    · exact b
  · intro h
    have small : ∀ c ∈ l, c < 128 := fun c m => by
      have := h c m
      unfold lo at this
      simp only [Bool.and_eq_true, decide_eq_true_eq] at this
      omega
    refine ⟨small, fun c m => ?_, ?_, fun c m => ?_⟩
    · rw [(lo_tab c (small c m)).2.1, h c m, Bool.or_true]
    · obtain ⟨c, m⟩ := List.exists_mem_of_length_pos h1
      exact ⟨c, m, by rw [(lo_tab c (small c m)).2.2.1]; exact h c m⟩
    · rw [(lo_tab c (small c m)).2.2.2]
      have := h c m
      unfold lo at this
      simp only [Bool.and_eq_true, decide_eq_true_eq] at this ⊢
      omega
end L3

/-! a tuple of anything beside a tuple of one text -/
namespace L3
open PySem PySem.Spec PyProof.Rows L2
open PySem.SeqAt
theorem eqAt_rc {A : Around} {s : Shared} {v : Value} {z : Str} {tk : Tok} {b : Bool} (hf : ∀ x y, v ≠ .float x y) (h : RcAt A s v (.str z tk) b) (e : v = .str z tk → b = true) : EqAt A s v (.str z tk) b := fun prog w E Q hq => by
  by_cases c : v = .str z tk
  · have eb := e c
    subst c eb
    exact EqAt.same _ prog w E Q hq
  · unfold eqBool
    refine wpAny_holding ?_
    refine wpAny_ite_split (fun hab => absurd (eq_of_beq hab) c) (fun _ => ?_)
    cases v with
    | float x y => exact absurd rfl (hf x y)
    | _ => exact wpAny_bind (h prog w E _ (wpAny_truthy_bool hq))
section
variable {X : Cx} {pins : List (Addr × Obj)} {σ : L2.St} {H : Hp} {s : Shared}
theorem rc_any_str {t : Addr} {A : Around} (I : Inv X pins σ H s) (hu' : A.units < cLine) {d : PyData} {x : V} {v : Value} {z : Str} {tk : Tok} (hd : Da t H x d) (rx : RelV x v) : RcAt A s v (.str z tk) (isS z d) ∧ (v = .str z tk → isS z d = true) ∧ (∀ x y, v ≠ .float x y) := by
  cases d with
  | none =>
    cases hd
    cases (show v = Value.none from rx)
    exact ⟨RcAt.none_str z tk, nofun, nofun⟩
  | bool b =>
    cases hd
    cases (show v = Value.bool b from rx)
    exact ⟨RcAt.bool_str b z tk, nofun, nofun⟩
  | int i =>
    cases hd
    obtain ⟨k, rfl⟩ := (show ∃ k, v = Value.int i k from rx)
    exact ⟨RcAt.int_str i k z tk, nofun, nofun⟩
  | str y =>
    cases hd
    obtain ⟨k, rfl⟩ := (show ∃ k, v = Value.str y k from rx)
    have e : isS z (.str y) = (y == z) := by
      show decide (y = z) = (y == z)
      rw [Bool.eq_iff_iff, decide_eq_true_eq, beq_iff_eq]
    rw [e]
    refine ⟨RcAt.str_str y k z tk, fun h => ?_, nofun⟩
    injection h with h _
    rw [h]
    exact beq_self_eq_true z
  | list ds =>
    cases hd with
    | @lst a xs _ hs ns ha =>
      obtain rfl : v = Value.ref a := rx
      obtain ⟨its, rv, ⟨o, n, ho, hc, _, hd⟩, _⟩ := I.list (SqL.of hs)
      exact ⟨RcAt.list_str z tk ⟨o, ho, hc, n, hd⟩ hu', nofun, nofun⟩
  | tuple ds =>
    cases hd with
    | @tup a xs _ hs ha =>
      obtain rfl : v = Value.ref a := rx
      obtain ⟨its, rv, ⟨o, ho, hc, n, hd⟩, _⟩ := I.tuple (SqT.of hs)
      exact ⟨RcAt.tuple_str z tk ⟨o, ho, hc, n, hd⟩ hu', nofun, nofun⟩
  | dict ds =>
    cases hd with
    | @dct a kvs _ hs na ha =>
      obtain rfl : v = Value.ref a := rx
      obtain ⟨_, lo, vs, ra, da⟩ := (show ObjOk X.prog X.w H s.heap a (.dK kvs) from I.hok a _ hs)
      obtain ⟨ep, o, es, ho, hx, hdat, _, pr, _⟩ := da.dictAt
      exact ⟨rc_dict_str z tk ho hx.1 hdat hu', nofun, nofun⟩
/-- one value, this text -/
def isOne (z : Str) : List PyData → Bool
  | [d] => isS z d
  | _ => false
def rEqOne (t : Addr) : R2 := fun x y H Q => ∃ (a b : Addr) (ds : List PyData) (z : Str), x = .ref a ∧ y = .ref b ∧ Da t H (.ref a) (.tuple ds) ∧ H b = some (.tup [.str z]) ∧ Q (.bl (isOne z ds)) H
theorem op_eqOne {t : Addr} (hu : X.A.units + 64 < cLine) : OpR X (compareOp .Eq) (rEqOne t) := by
  intro pins s σ H x y v u Q I rx ry h
  obtain ⟨a, b, ds, z, rfl, rfl, hd, hb, q⟩ := h
  obtain rfl : v = Value.ref a := rx
  obtain rfl : u = Value.ref b := ry
  cases hd with
  | @tup _ xs _ ha da =>
    obtain ⟨its, rv, ⟨o, ho, hc, n, hd⟩, _⟩ := I.tuple (SqT.of ha)
    obtain ⟨its2, rv2, ⟨o2, ho2, hc2, n2, hd2⟩, _⟩ := I.tuple (SqT.of hb)
    obtain ⟨u2, rfl, r2⟩ := vals1 rv2
    obtain ⟨tk, rfl⟩ := (show ∃ k, u2 = Value.str z k from r2)
    have fin : ∀ b : Bool, b = isOne z ds → EP X pins σ Q (.bool b) s := fun b e => ⟨.bl b, H, I, rfl, by rw [e]; exact q⟩
    cases da with
    | nil =>
      cases rv
      exact RcAt.tuples (e := fun _ => true) ⟨o, ho, hc, n, hd⟩ ⟨o2, ho2, hc2, n2, hd2⟩ (by omega) (fun j h1 h2 => absurd h1 (by simp)) _ _ _ _ (fin _ rfl)
    | @cons v1 vs1 d ds' q1 t1 =>
      cases rv with
      | @cons _ u1 _ us1 r1 rr =>
        obtain ⟨c1, c2, c3⟩ := rc_any_str (A := X.A.in1) (z := z) (tk := tk) I (by show X.A.units + 1 < cLine; omega) q1 r1
        refine RcAt.tuples (e := fun _ => isS z d) ⟨o, ho, hc, n, hd⟩ ⟨o2, ho2, hc2, n2, hd2⟩ (by omega) (fun j h1 h2 => ?_) _ _ _ _ (fin _ ?_)
        · obtain rfl : j = 0 := by
            have : j < 1 := h2
            omega
          exact eqAt_rc c3 c1 c2
        · have l1 := t1.len
          have l2 := rr.length
          cases t1 with
          | nil =>
            cases rr
            show (isS z d && true && true) = isS z d
            simp
          | cons _ _ =>
            cases rr
            show (_ && _) = false
            simp
end
end L3

/-! values: what stands within, how many parts, how deep -/
namespace L3
open PySem L2
--PURE
/-- what stands within a value; none for what is none -/
def innerD : PyData → Option (List PyData)
  | .tuple [m, n, .tuple ds] => if isS "made" m && isNameD n then some ds else none
  | .tuple [a, b] => if (isS "whole" a && isWholeD b) || (isS "text" a && isTextD b) then some [] else none
  | .tuple [a] => if isS "function" a then some [] else none
  | _ => none
mutual
/-- parts and depth -/
def meas : PyData → Option (Nat × Nat)
  | .tuple ds => measT ds
  | _ => none
def measT : List PyData → Option (Nat × Nat)
  | [a] => if isS "function" a then some (1, 1) else none
  | [a, b] => if (isS "whole" a && isWholeD b) || (isS "text" a && isTextD b) then some (1, 1) else none
  | [m, n, e] => if isS "made" m && isNameD n then (measE e).map fun p => (1 + p.1, 1 + p.2) else none
  | _ => none
def measE : PyData → Option (Nat × Nat)
  | .tuple ds => measL ds
  | _ => none
/-- parts together, the deepest -/
def measL : List PyData → Option (Nat × Nat)
  | [] => some (0, 0)
  | d :: ds => match meas d, measL ds with
    | some p, some q => some (p.1 + q.1, max p.2 q.2)
    | _, _ => none
end
theorem meas_inner : ∀ (d : PyData), meas d = (innerD d).bind fun ds => (measL ds).map fun p => (1 + p.1, 1 + p.2)
  | .tuple [m, n, .tuple ds] => by
    simp only [meas, measT, measE, innerD]
    split <;> rfl
  | .tuple [a, b] => by
    simp only [meas, measT, innerD]
    split <;> simp [measL]
  | .tuple [a] => by
    simp only [meas, measT, innerD]
    split <;> simp [measL]
  | .tuple [m, n, .none] | .tuple [m, n, .bool _] | .tuple [m, n, .int _] | .tuple [m, n, .str _] | .tuple [m, n, .list _] | .tuple [m, n, .dict _] => by
    simp only [meas, measT, measE, innerD, Option.map_none, ite_self, Option.bind_none]
  | .tuple [] => by simp only [meas, measT, innerD, Option.bind_none]
  | .tuple (_ :: _ :: _ :: _ :: _) => by simp only [meas, measT, innerD, Option.bind_none]
  | .none => by simp only [meas, innerD, Option.bind_none]
  | .bool _ => by simp only [meas, innerD, Option.bind_none]
  | .int _ => by simp only [meas, innerD, Option.bind_none]
  | .str _ => by simp only [meas, innerD, Option.bind_none]
  | .list _ => by simp only [meas, innerD, Option.bind_none]
  | .dict _ => by simp only [meas, innerD, Option.bind_none]
theorem meas_low {d : PyData} {p : Nat × Nat} (h : meas d = some p) : 1 ≤ p.1 ∧ 1 ≤ p.2 := by
  rw [meas_inner] at h
  cases hi : innerD d with
  | none => rw [hi] at h; cases h
  | some ds =>
    rw [hi] at h
    have h : (measL ds).map (fun p => (1 + p.1, 1 + p.2)) = some p := h
    cases hm : measL ds with
    | none => rw [hm] at h; cases h
    | some q =>
      rw [hm] at h
      have h := Option.some.inj h
      rw [← h]
      exact ⟨by show 1 ≤ 1 + _; omega, by show 1 ≤ 1 + _; omega⟩
/-- all are values, none reaches below 101; how many parts -/
def sumM : List (PyData × Nat) → Option Nat
  | [] => some 0
  | (d, n) :: ps => match meas d, sumM ps with
    | some p, some s => if n + p.2 ≤ 101 then some (p.1 + s) else none
    | _, _ => none
theorem sumM_app : ∀ (a b : List (PyData × Nat)), sumM (a ++ b) = (sumM a).bind fun s => (sumM b).map fun r => s + r
  | [], b => by simp [sumM]
  | (d, n) :: a, b => by
    rw [List.cons_append]
    simp only [sumM, sumM_app a b]
    cases meas d with
    | none => rfl
    | some p =>
      cases sumM a with
      | none => rfl
      | some s =>
        cases sumM b with
        | none => simp
        | some r =>
          simp
          split
          · simp; omega
          · simp
/-- whether the stack comes to a good end -/
def chk (ps : List (PyData × Nat)) (many : Nat) : Bool := match sumM ps with
  | some s => decide (many + s ≤ 1000)
  | none => false
theorem sumM_inner {n : Nat} : ∀ (ds : List PyData), sumM (ds.map fun d => (d, n + 1)) = match measL ds with
    | some p => if p.2 = 0 ∨ n + 1 + p.2 ≤ 101 then some p.1 else none
    | none => none
  | [] => by simp [sumM, measL]
  | d :: ds => by
    simp only [List.map_cons, sumM, measL, sumM_inner ds]
    cases hm : meas d with
    | none => rfl
    | some p =>
      have hl := meas_low hm
      cases hq : measL ds with
      | none => rfl
      | some q =>
        simp only []
        by_cases h2 : q.2 = 0 ∨ n + 1 + q.2 ≤ 101
        · rw [if_pos h2]
          simp only []
          by_cases h1 : n + 1 + p.2 ≤ 101
          · rw [if_pos h1, if_pos (.inr (by rcases h2 with h2 | h2 <;> omega))]
          · rw [if_neg h1, if_neg (by omega)]
        · rw [if_neg h2, if_neg (by omega)]
theorem sumM_one (d : PyData) (n : Nat) : sumM [(d, n)] = match meas d with
    | some p => if n + p.2 ≤ 101 then some p.1 else none
    | none => none := by
  simp only [sumM]
  cases meas d with
  | none => rfl
  | some p => simp
/-- what the law wants of is_value -/
def due (d : PyData) : Bool := match meas d with
  | some p => decide (p.1 ≤ 1000) && decide (p.2 ≤ 100)
  | none => false
theorem chk_first (d : PyData) : chk [(d, 1)] 0 = due d := by
  unfold chk due
  rw [sumM_one]
  cases meas d with
  | none => rfl
  | some p =>
    simp only []
    by_cases h : 1 + p.2 ≤ 101
    · rw [if_pos h, decide_eq_true (by omega : p.2 ≤ 100), Bool.and_true]
      simp
    · rw [if_neg h, decide_eq_false (by omega : ¬ p.2 ≤ 100), Bool.and_false]
theorem chk_last {ps : List (PyData × Nat)} {d : PyData} {n many : Nat} : chk (ps ++ [(d, n)]) many = match innerD d with
    | none => false
    | some ds => decide (many + 1 ≤ 1000) && decide (n ≤ 100) && chk (ps ++ ds.map fun e => (e, n + 1)) (many + 1) := by
  unfold chk
  rw [sumM_app, sumM_one, meas_inner]
  cases hi : innerD d with
  | none => cases sumM ps <;> rfl
  | some ds =>
    simp only [Option.bind_some]
    rw [sumM_app, sumM_inner]
    cases hm : measL ds with
    | none => cases sumM ps <;> simp
    | some q =>
      simp only [Option.map_some]
      cases hs : sumM ps with
      | none => simp
      | some s =>
        simp only [Option.bind_some]
        by_cases h1 : n + (1 + q.2) ≤ 101
        · rw [if_pos h1, if_pos (.inr (by omega))]
          simp only [Option.map_some]
          rw [Bool.eq_iff_iff]
          simp only [Bool.and_eq_true, decide_eq_true_eq]
          omega
        · rw [if_neg h1]
          simp only [Option.map_none]
          by_cases h2 : q.2 = 0 ∨ n + 1 + q.2 ≤ 101
          · rw [if_pos h2, decide_eq_false (by omega : ¬ n ≤ 100)]
            simp
          · rw [if_neg h2]
            simp
theorem measL_app : ∀ (a b : List PyData), measL (a ++ b) = (measL a).bind fun p => (measL b).map fun q => (p.1 + q.1, max p.2 q.2)
  | [], b => by simp [measL]
  | d :: a, b => by
    rw [List.cons_append]
    simp only [measL, measL_app a b]
    cases meas d with
    | none => rfl
    | some p =>
      cases measL a with
      | none => rfl
      | some s =>
        cases measL b with
        | none => simp
        | some r => simp; omega
theorem parts_step {ds0 : List PyData} {e : PyData} {q : Nat × Nat} (h : measL (ds0 ++ [e]) = some q) : ∃ es q', innerD e = some es ∧ measL (ds0 ++ es) = some q' ∧ q.1 = q'.1 + 1 := by
  rw [measL_app] at h
  cases h0 : measL ds0 with
  | none => rw [h0] at h; cases h
  | some p =>
    rw [h0] at h
    simp only [Option.bind_some, measL] at h
    rw [meas_inner] at h
    cases hi : innerD e with
    | none => rw [hi] at h; cases h
    | some es =>
      rw [hi] at h
      simp only [Option.bind_some] at h
      cases hm : measL es with
      | none => rw [hm] at h; cases h
      | some r =>
        rw [hm] at h
        simp only [Option.map_some] at h
        have h := Option.some.inj h
        refine ⟨es, (p.1 + r.1, max p.2 r.2), rfl, ?_, ?_⟩
        · rw [measL_app, h0, hm]
          rfl
        · rw [← h]
          show p.1 + (1 + r.1 + 0) = p.1 + r.1 + 1
          omega
mutual
def psz : PyData → Nat
  | .tuple ds => 1 + pszL ds
  | _ => 1
def pszL : List PyData → Nat
  | [] => 0
  | d :: ds => psz d + pszL ds
end
theorem psz_pos (d : PyData) : 1 ≤ psz d := by
  cases d <;> simp only [psz] <;> omega
theorem pszL_app : ∀ (a b : List PyData), pszL (a ++ b) = pszL a + pszL b
  | [], b => by simp [pszL]
  | d :: a, b => by simp only [List.cons_append, pszL, pszL_app a b]; omega
theorem pszL_len : ∀ (a : List PyData), a.length ≤ pszL a
  | [] => Nat.le_refl _
  | d :: a => by
    have := psz_pos d
    have := pszL_len a
    simp only [List.length_cons, pszL]
    omega
theorem inner_less {d : PyData} {ds : List PyData} (h : innerD d = some ds) : pszL ds < psz d := by
  unfold innerD at h
  split at h
  · split at h
    · have h := Option.some.inj h
      subst h
      simp only [psz, pszL]
      omega
    · cases h
  · split at h
    · have h := Option.some.inj h
      subst h
      simp only [psz, pszL]
      omega
    · cases h
  · split at h
    · have h := Option.some.inj h
      subst h
      simp only [psz, pszL]
      omega
    · cases h
  · cases h
end L3

namespace L3
open PySem L2
structure Mn (mg : Str → Option Value) : Prop where
  BOUND : ∃ u, mg "BOUND" = some u ∧ RelV (.int (10 ^ 30)) u
  min : mg "min" = none
  LONGEST_TEXT : ∃ u, mg "LONGEST_TEXT" = some u ∧ RelV (.int 200) u
section
variable {P : Program} {w : World} {K : PySem.W.Frag} {mg : Str → Option Value} {base : Heap}
/-! ### integers, wholes -/
def isBoolD : PyData → Bool
  | .bool _ => true
  | _ => false
theorem kit_int {K : PySem.W.Frag} (d : PyData) : PySem.W.kitOne K (.type (tyName d)) (.type "int") = some (isIntD d || isBoolD d) := by
  cases d with
  | none => exact kit_ty (show kitB "NoneType" "int" = some false by decide +kernel)
  | bool _ => exact kit_ty (show kitB "bool" "int" = some true by decide +kernel)
  | int _ => exact kit_ty (show kitB "int" "int" = some true by decide +kernel)
  | str _ => exact kit_ty (show kitB "str" "int" = some false by decide +kernel)
  | list _ => exact kit_ty (show kitB "list" "int" = some false by decide +kernel)
  | tuple _ => exact kit_ty (show kitB "tuple" "int" = some false by decide +kernel)
  | dict _ => exact kit_ty (show kitB "dict" "int" = some false by decide +kernel)
theorem kit_bool {K : PySem.W.Frag} (d : PyData) : PySem.W.kitOne K (.type (tyName d)) (.type "bool") = some (isBoolD d) := by
  cases d with
  | none => exact kit_ty (show kitB "NoneType" "bool" = some false by decide +kernel)
  | bool _ => exact kit_ty (show kitB "bool" "bool" = some true by decide +kernel)
  | int _ => exact kit_ty (show kitB "int" "bool" = some false by decide +kernel)
  | str _ => exact kit_ty (show kitB "str" "bool" = some false by decide +kernel)
  | list _ => exact kit_ty (show kitB "list" "bool" = some false by decide +kernel)
  | tuple _ => exact kit_ty (show kitB "tuple" "bool" = some false by decide +kernel)
  | dict _ => exact kit_ty (show kitB "dict" "bool" = some false by decide +kernel)
abbrev s_is_integer : Stmt := topS 5
abbrev N_is_integer : List Str := ["value"]
theorem sc_is_integer : FnScope N_is_integer ["value"] (defScope s_is_integer) := ⟨rfl, rfl, rfl, by decide +kernel, rfl, by decide +kernel, by decide +kernel⟩
def spInt : Sp := fun vs H Q _ => ∃ (t : Addr) (v : V) (d : PyData), vs = [v] ∧ Da t H v d ∧ Q (.bl (isIntD d)) H
theorem ok_int {f : Addr} {fd : FuncData} (F : Fun K "is_integer" "is_integer" s_is_integer f fd) (B9 : Bl9 mg) : FnOk P w K mg base CX0 1 f fd ["value"] spInt := by
  refine F.ok sc_is_integer (fun vs H Q E h => ?_) (fun cdv A outer s H vs Q E hr h => ?_)
  · obtain ⟨t, v, d, rfl, _⟩ := h
    rfl
  · obtain ⟨t, v, d, rfl, hd, k⟩ := h
    refine ⟨_, (pss_one (ps_ret (pe_and (pe_callB call_isi (by rfl) B9.isinstance PyProof.Rows.boot_isinstance (pa_cons (pv 0) (pa_cons (pe_bltn (v := .ty "int") (by rfl) B9.int (by decide +kernel) rfl) pa_nil))) (pe_one (pe_not (pe_callB call_isi (by rfl) B9.isinstance PyProof.Rows.boot_isinstance (pa_cons (pv 0) (pa_cons (pe_bltn (v := .ty "bool") (by rfl) B9.bool (by decide +kernel) rfl) pa_nil)))))))), ?_⟩
    refine ⟨_, rfl, v, .ty "int", .type (tyName d), .type "int", _, rfl, .ty "int", hd.ty, kit_int d, _, rfl, ?_⟩
    cases hi : (isIntD d || isBoolD d) with
    | false =>
      have e : isIntD d = false := (Bool.or_eq_false_iff.mp hi).1
      rw [e] at k
      exact iF rfl k
    | true =>
      refine iT rfl ?_
      refine ⟨_, rfl, v, .ty "bool", .type (tyName d), .type "bool", isBoolD d, rfl, .ty "bool", hd.ty, kit_bool d, _, rfl, ?_⟩
      have e : isIntD d = !isBoolD d := by cases d <;> first | rfl | cases hi
      rw [e] at k
      exact k
abbrev s_is_whole : Stmt := topS 9
abbrev N_is_whole : List Str := ["value"]
theorem sc_is_whole : FnScope N_is_whole ["value"] (defScope s_is_whole) := ⟨rfl, rfl, rfl, by decide +kernel, rfl, by decide +kernel, by decide +kernel⟩
def spWhole : Sp := fun vs H Q _ => ∃ (t : Addr) (v : V) (d : PyData), vs = [v] ∧ Da t H v d ∧ Q (.bl (isWholeD d)) H
theorem ok_whole {f : Addr} {fd : FuncData} (F : Fun K "is_whole" "is_whole" s_is_whole f fd) (M : Mn mg) (D_is_integer : Kn P w K mg base 1 "is_integer" ["value"] spInt) : FnOk P w K mg base CX0 2 f fd ["value"] spWhole := by
  refine F.ok sc_is_whole (fun vs H Q E h => ?_) (fun cdv A outer s H vs Q E hr h => ?_)
  · obtain ⟨t, v, d, rfl, _⟩ := h
    rfl
  · obtain ⟨t, v, d, rfl, hd, k⟩ := h
    have hr_is_integer : Room 1 _ := hr
    refine ⟨_, (pss_one (ps_ret (pe_and (pe_kn D_is_integer hr_is_integer (pa_cons (pv 0) pa_nil)) (pe_one (pe_chain op_le op_le (pe_un un_neg (pe_gc (by rfl) M.BOUND)) (pv 0) (pe_gc (by rfl) M.BOUND)))))), ?_⟩
    refine ⟨_, rfl, t, v, d, rfl, hd, ?_⟩
    refine ⟨_, rfl, ?_⟩
    cases hi : isIntD d with
    | false =>
      have e : isWholeD d = false := by cases d <;> first | rfl | cases hi
      rw [e] at k
      exact iF rfl k
    | true =>
      obtain ⟨i, rfl⟩ : ∃ i, d = .int i := by
        cases d with
        | int i => exact ⟨i, rfl⟩
        | _ => cases hi
      cases hd
      refine iT rfl ?_
      have e : isWholeD (.int i) = (decide (-(10 ^ 30) ≤ i) && decide (i ≤ 10 ^ 30)) := rfl
      rw [e] at k
      refine ⟨_, rfl, _, rfl, _, _, rfl, rfl, _, rfl, ?_⟩
      by_cases h1 : (-(10 ^ 30) : Int) ≤ i
      · rw [decide_eq_true h1] at k
        refine iT (decide_eq_true h1) ?_
        exact ⟨_, _, rfl, rfl, k⟩
      · rw [decide_eq_false h1] at k
        exact iF (decide_eq_false h1) k
abbrev s_is_text : Stmt := topS 10
abbrev N_is_text : List Str := ["value", "sign"]
theorem sc_is_text : FnScope N_is_text ["value"] (defScope s_is_text) := ⟨rfl, rfl, rfl, by decide +kernel, rfl, by decide +kernel, by decide +kernel⟩
def spText : Sp := fun vs H Q _ => ∃ (t : Addr) (v : V) (d : PyData), vs = [v] ∧ Da t H v d ∧ (∀ x, d = .str x → x.length ≤ 1000) ∧ ∀ H', Same H H' → Q (.bl (isTextD d)) H'
theorem ok_text {f : Addr} {fd : FuncData} (F : Fun K "is_text" "is_text" s_is_text f fd) (B : Bl mg) (B9 : Bl9 mg) (M : Mn mg) : FnOk P w K mg base CX0 1 f fd ["value"] spText := by
  refine F.ok sc_is_text (fun vs H Q E h => ?_) (fun cdv A outer s H vs Q E hr h => ?_)
  · obtain ⟨t, v, d, rfl, _⟩ := h
    rfl
  · obtain ⟨t, v, d, rfl, hd, hx, k⟩ := h
    refine ⟨_, (pss_cons (ps_if (PW.pt (pw_or (pt_not (pt_val (pe_callB call_isi (by rfl) B9.isinstance PyProof.Rows.boot_isinstance (pa_cons (pv 0) (pa_cons (pe_bltn (v := .ty "str") (by rfl) B9.str_ (by decide +kernel) rfl) pa_nil))))) (pw_or1 (pt_cmpR op_gt (pe_callB call_len (by rfl) B.len PySem.boot_len (pa_cons (pv 0) pa_nil)) (pe_gc (by rfl) M.LONGEST_TEXT) (nomark _)))))
  (pss_one (ps_ret pe_bl))
  pss_nil)
  (pss_one (ps_ret (pe_callB (cr_all rfl) (by rfl) B9.all (by decide +kernel) (pa_cons (pe_lc (own := [("sign", 1)]) rfl sc_is_text.nd (pi_str (pv 0)) (blkOk_by (N := N_is_text) (sc := (defScope s_is_text)) (own := [("sign", 1)]) (by decide +kernel)) (fun _ _ _ _ _ => (pg_name (i := 1) sc_is_text.nd rfl (Or.inl rfl))) (fun _ _ _ _ _ => pts_nil) (fun _ _ _ _ _ => (pe_and (pe_chain op_le op_le pe_int (pe_callB call_ord (by rfl) B9.ord PyProof.Rows.boot_ord (pa_cons (pv 1) pa_nil)) pe_int) (pe_one (pe_cmpR op_ne (pe_callB call_ord (by rfl) B9.ord PyProof.Rows.boot_ord (pa_cons (pv 1) pa_nil)) pe_int (nomark _)))))) pa_nil))))), ?_⟩
    refine ⟨_, rfl, v, .ty "str", .type (tyName d), .type "str", isStr d, rfl, .ty "str", hd.ty, kit_str d, _, rfl, ?_⟩
    cases hs : isStr d with
    | false =>
      have e : isTextD d = false := by cases d <;> first | rfl | cases hs
      rw [e] at k
      refine iT rfl ?_
      exact iT rfl (k H (Same.refl H))
    | true =>
      obtain ⟨x, rfl⟩ : ∃ x, d = .str x := by
        cases d with
        | str x => exact ⟨x, rfl⟩
        | _ => cases hs
      cases hd
      have lx := hx x rfl
      refine iF rfl ?_
      refine ⟨_, rfl, .str x, x.length, rfl, ⟨by rw [sizeLine_eq]; omega, rfl⟩, _, _, rfl, rfl, ?_⟩
      refine ⟨_, rfl, ?_⟩
      by_cases h1 : (x.length : Int) > 200
      · refine iT (decide_eq_true h1) ?_
        have e : isTextD (.str x) = false := by
          show (decide (x.length ≤ 200) && _) = false
          rw [decide_eq_false (by omega)]
          rfl
        rw [e] at k
        exact k H (Same.refl H)
      · refine iF (decide_eq_false h1) ?_
        have e : isTextD (.str x) = x.cps.toList.all sgnT := by
          show (decide (x.length ≤ 200) && _) = _
          rw [decide_eq_true (by omega), ← Array.all_toList]
          rfl
        rw [e] at k
        refine ⟨_, rfl, x, rfl, fun D hD => lc_it walk_str (fun i H' => Same H H' ∧ H' D = some (.lst (((x.cps.toList.take i).map sgnT).map V.bl))) ⟨same_new hD, upd_same⟩ (fun i H' _ _ => trivial) ?_ ?_⟩
        · rintro i y H1 H2 hi ⟨s1, g1⟩ ⟨rfl, c, ec, rfl⟩
          refine ⟨rfl, ?_⟩
          have ec' : x.cps.toList[i]? = some c := by simpa using ec
          have hi' : i < x.length := hi
          have fin : ∀ b : Bool, b = sgnT c → ∃ acc, H2 D = some (.lst acc) ∧ acc.length < sizeLine ∧ Same H (upd H2 D (.lst (acc ++ [V.bl b]))) ∧ upd H2 D (.lst (acc ++ [V.bl b])) D = some (.lst (((x.cps.toList.take (i + 1)).map sgnT).map V.bl)) := fun b eb => by
            refine ⟨_, g1, szl (by simp; omega), fun b o e => ?_, ?_⟩
            · rw [upd_ne (ne_of_none e hD)]
              exact s1 _ _ e
            · rw [upd_same, List.take_add_one, ec', eb]
              simp
          refine ⟨_, rfl, ⟨#[c]⟩, rfl, rfl, _, _, rfl, rfl, _, rfl, ?_⟩
          show if decide ((32 : Int) ≤ (c : Int)) = true then _ else _
          by_cases q1 : 32 ≤ c
          · refine iT (decide_eq_true (by omega)) ?_
            refine ⟨_, _, rfl, rfl, _, rfl, ?_⟩
            show if decide ((c : Int) ≤ 126) = true then _ else _
            by_cases q2 : c ≤ 126
            · refine iT (decide_eq_true (by omega)) ?_
              refine ⟨_, rfl, ⟨#[c]⟩, rfl, rfl, rfl, ?_⟩
              refine fin _ ?_
              unfold sgnT
              rw [decide_eq_true q1, decide_eq_true q2]
              show (!decide (V.int (c : Int) = V.int 37)) = _
              by_cases q3 : c = 37
              · rw [decide_eq_true q3, decide_eq_true (by rw [q3]; rfl)]
                rfl
              · rw [decide_eq_false q3, decide_eq_false (fun z => q3 (by injection z with z; omega))]
                rfl
            · refine iF (decide_eq_false (by omega)) ?_
              refine fin _ ?_
              unfold sgnT
              rw [decide_eq_false q2]
              simp
          · refine iF (decide_eq_false (by omega)) ?_
            refine ⟨_, rfl, iF rfl (fin _ ?_)⟩
            unfold sgnT
            rw [decide_eq_false q1]
            simp
        · rintro H1 ⟨s1, g1⟩
          rw [List.take_of_length_le (by simp)] at g1
          refine ⟨D, _, rfl, SqL.of g1, ?_⟩
          have ew : (x.cps.toList.map sgnT).all id = x.cps.toList.all sgnT := by
            rw [List.all_map]
            rfl
          rw [ew]
          exact k H1 s1
end
end L3

namespace L3
open PySem L2
/-- a number cut to the bound -/
def clp (i : Int) : Int := max (-(10 ^ 30)) (min (10 ^ 30) i)
section
variable {P : Program} {w : World} {K : PySem.W.Frag} {mg : Str → Option Value} {base : Heap}
abbrev s_bounded : Stmt := topS 16
abbrev N_bounded : List Str := ["number"]
theorem sc_bounded : FnScope N_bounded ["number"] (defScope s_bounded) := ⟨rfl, rfl, rfl, by decide +kernel, rfl, by decide +kernel, by decide +kernel⟩
def spBounded : Sp := fun vs H Q _ => ∃ n : Int, vs = [.int n] ∧ ∀ a, H a = none → Q (.ref a) (upd H a (.tup [.str "whole", .int (clp n)]))
theorem ok_bounded {f : Addr} {fd : FuncData} (F : Fun K "bounded" "bounded" s_bounded f fd) (B9 : Bl9 mg) (M : Mn mg) : FnOk P w K mg base CX0 1 f fd ["number"] spBounded := by
  refine F.ok sc_bounded (fun vs H Q E h => ?_) (fun cdv A outer s H vs Q E hr h => ?_)
  · obtain ⟨n, rfl, _⟩ := h
    rfl
  · obtain ⟨n, rfl, k⟩ := h
    refine ⟨_, (pss_one (ps_ret (pe_tup (pa_cons pe_str (pa_cons (pe_callB (call_max2 rfl) (by rfl) B9.max PyProof.Rows.boot_max (pa_cons (pe_un un_neg (pe_gc (by rfl) M.BOUND)) (pa_cons (pe_callB (call_min2 rfl) (by rfl) M.min PyProof.Rows.boot_min (pa_cons (pe_gc (by rfl) M.BOUND) (pa_cons (pv 0) pa_nil))) pa_nil))) pa_nil))))), ?_⟩
    refine ⟨_, rfl, _, rfl, _, _, rfl, _, _, rfl, ?_⟩
    refine ⟨slz rfl, fun a ha => ?_⟩
    have e : (if (if n < 10 ^ 30 then n else (10 ^ 30 : Int)) > -(10 ^ 30) then (if n < 10 ^ 30 then n else (10 ^ 30 : Int)) else -(10 ^ 30)) = clp n := by
      unfold clp
      generalize (10 ^ 30 : Int) = b
      omega
    have k2 := k a ha
    rw [← e] at k2
    exact k2
abbrev s_truth : Stmt := topS 17
abbrev N_truth : List Str := ["holds"]
theorem sc_truth : FnScope N_truth ["holds"] (defScope s_truth) := ⟨rfl, rfl, rfl, by decide +kernel, rfl, by decide +kernel, by decide +kernel⟩
def spTruth : Sp := fun vs H Q _ => ∃ b : Bool, vs = [.bl b] ∧ ∀ e a, H e = none → (upd H e (.tup [])) a = none → Q (.ref a) (upd (upd H e (.tup [])) a (.tup [.str "made", .str (if b then "yes" else "no"), .ref e]))
theorem ok_truth {f : Addr} {fd : FuncData} (F : Fun K "truth" "truth" s_truth f fd) : FnOk P w K mg base CX0 1 f fd ["holds"] spTruth := by
  refine F.ok sc_truth (fun vs H Q E h => ?_) (fun cdv A outer s H vs Q E hr h => ?_)
  · obtain ⟨n, rfl, _⟩ := h
    rfl
  · obtain ⟨b, rfl, k⟩ := h
    refine ⟨_, (pss_one (ps_ret (pe_tup (pa_cons pe_str (pa_cons (pe_ifExp (pt_val (pv 0)) pe_str pe_str) (pa_cons (pe_tup pa_nil) pa_nil)))))), ?_⟩
    refine ⟨_, rfl, _, rfl, ?_⟩
    cases b with
    | true =>
      refine iT rfl ?_
      exact ⟨slz rfl, fun e he => ⟨slz rfl, fun a ha => k e a he ha⟩⟩
    | false =>
      refine iF rfl ?_
      exact ⟨slz rfl, fun e he => ⟨slz rfl, fun a ha => k e a he ha⟩⟩
abbrev s_put_together : Stmt := topS 23
abbrev N_put_together : List Str := ["one", "other"]
theorem sc_put_together : FnScope N_put_together ["one", "other"] (defScope s_put_together) := ⟨rfl, rfl, rfl, by decide +kernel, rfl, by decide +kernel, by decide +kernel⟩
def spPut : Sp := fun vs H Q _ => ∃ x y : Str, vs = [.str x, .str y] ∧ x.length ≤ 1000 ∧ y.length ≤ 1000 ∧ ∀ a, H a = none → Q (.ref a) (upd H a (.tup [.str "text", .str (cutS (x ++ y) none (some 200))]))
theorem ok_put {f : Addr} {fd : FuncData} (F : Fun K "put_together" "put_together" s_put_together f fd) (M : Mn mg) : FnOk P w K mg base CX0 1 f fd ["one", "other"] spPut := by
  refine F.ok sc_put_together (fun vs H Q E h => ?_) (fun cdv A outer s H vs Q E hr h => ?_)
  · obtain ⟨n, m, rfl, _⟩ := h
    rfl
  · obtain ⟨x, y, rfl, l1, l2, k⟩ := h
    refine ⟨_, (pss_one (ps_ret (pe_tup (pa_cons pe_str (pa_cons (pe_slice sl_str (pe_op op_add_str (pv 0) (pv 1)) po_none (po_some (pe_gc (by rfl) M.LONGEST_TEXT))) pa_nil))))), ?_⟩
    refine ⟨_, rfl, _, rfl, ?_⟩
    refine ⟨_, _, rfl, rfl, by rw [sizeLine_eq]; omega, ?_⟩
    refine ⟨_, rfl, x ++ y, rfl, ?_, ?_⟩
    · rw [Str.length_append, sizeLine_eq]
      omega
    exact ⟨slz rfl, k⟩
abbrev s_length_of : Stmt := topS 24
abbrev N_length_of : List Str := ["text"]
theorem sc_length_of : FnScope N_length_of ["text"] (defScope s_length_of) := ⟨rfl, rfl, rfl, by decide +kernel, rfl, by decide +kernel, by decide +kernel⟩
def spLen : Sp := fun vs H Q _ => ∃ x : Str, vs = [.str x] ∧ x.length ≤ 1000 ∧ ∀ a, H a = none → Q (.ref a) (upd H a (.tup [.str "whole", .int x.length]))
theorem ok_length {f : Addr} {fd : FuncData} (F : Fun K "length_of" "length_of" s_length_of f fd) (B : Bl mg) : FnOk P w K mg base CX0 1 f fd ["text"] spLen := by
  refine F.ok sc_length_of (fun vs H Q E h => ?_) (fun cdv A outer s H vs Q E hr h => ?_)
  · obtain ⟨x, rfl, _⟩ := h
    rfl
  · obtain ⟨x, rfl, l, k⟩ := h
    refine ⟨_, (pss_one (ps_ret (pe_tup (pa_cons pe_str (pa_cons (pe_callB call_len (by rfl) B.len PySem.boot_len (pa_cons (pv 0) pa_nil)) pa_nil))))), ?_⟩
    refine ⟨_, rfl, _, _, rfl, ⟨by rw [sizeLine_eq]; omega, rfl⟩, ?_⟩
    exact ⟨slz rfl, k⟩
abbrev s_spelled : Stmt := topS 25
abbrev N_spelled : List Str := ["number"]
theorem sc_spelled : FnScope N_spelled ["number"] (defScope s_spelled) := ⟨rfl, rfl, rfl, by decide +kernel, rfl, by decide +kernel, by decide +kernel⟩
def spSpell : Sp := fun vs H Q _ => ∃ n : Int, vs = [.int n] ∧ n.natAbs.log2 < 1920 ∧ ∀ a, H a = none → Q (.ref a) (upd H a (.tup [.str "text", .str (toString n)]))
theorem ok_spelled {f : Addr} {fd : FuncData} (F : Fun K "spelled" "spelled" s_spelled f fd) (B9 : Bl9 mg) : FnOk P w K mg base CX0 1 f fd ["number"] spSpell := by
  refine F.ok sc_spelled (fun vs H Q E h => ?_) (fun cdv A outer s H vs Q E hr h => ?_)
  · obtain ⟨x, rfl, _⟩ := h
    rfl
  · obtain ⟨n, rfl, l, k⟩ := h
    refine ⟨_, (pss_one (ps_ret (pe_tup (pa_cons pe_str (pa_cons (pe_callTy call_str_int (by rfl) B9.str_ PyProof.Rows.boot_str (pa_cons (pv 0) pa_nil)) pa_nil))))), ?_⟩
    refine ⟨_, rfl, _, rfl, l, ?_⟩
    exact ⟨slz rfl, k⟩
end
end L3

namespace L3
open PySem L2
theorem op_or {X : Cx} {op} {r1 r2 : R2} (h1 : OpR X op r1) (h2 : OpR X op r2) : OpR X op (fun x y H Q => r1 x y H Q ∨ r2 x y H Q) := by
  intro pins s σ H x y v u Q I rx ry h
  rcases h with h | h
  · exact h1 pins s σ H x y v u Q I rx ry h
  · exact h2 pins s σ H x y v u Q I rx ry h
/-- one <= other -/
def leS (x y : Str) : Bool := !decide (y.cps.toList < x.cps.toList)
section
variable {P : Program} {w : World} {K : PySem.W.Frag} {mg : Str → Option Value} {base : Heap}
abbrev s_added : Stmt := topS 18
abbrev N_added : List Str := ["one", "other"]
theorem sc_added : FnScope N_added ["one", "other"] (defScope s_added) := ⟨rfl, rfl, rfl, by decide +kernel, rfl, by decide +kernel, by decide +kernel⟩
def spAdd : Sp := fun vs H Q _ => ∃ i j : Int, vs = [.int i, .int j] ∧ ∀ a, H a = none → Q (.ref a) (upd H a (.tup [.str "whole", .int (clp (i + j))]))
theorem ok_add {f : Addr} {fd : FuncData} (F : Fun K "added" "added" s_added f fd) (D_bounded : Kn P w K mg base 1 "bounded" ["number"] spBounded) : FnOk P w K mg base CX0 2 f fd ["one", "other"] spAdd := by
  refine F.ok sc_added (fun vs H Q E h => ?_) (fun cdv A outer s H vs Q E hr h => ?_)
  · obtain ⟨i, j, rfl, _⟩ := h
    rfl
  · obtain ⟨i, j, rfl, k⟩ := h
    have hr_bounded : Room 1 _ := hr
    refine ⟨_, (pss_one (ps_ret (pe_kn D_bounded hr_bounded (pa_cons (pe_op op_add (pv 0) (pv 1)) pa_nil)))), ?_⟩
    exact ⟨_, rfl, _, rfl, _, _, rfl, rfl, _, rfl, k⟩
abbrev s_lessened : Stmt := topS 19
abbrev N_lessened : List Str := ["one", "other"]
theorem sc_lessened : FnScope N_lessened ["one", "other"] (defScope s_lessened) := ⟨rfl, rfl, rfl, by decide +kernel, rfl, by decide +kernel, by decide +kernel⟩
def spLess : Sp := fun vs H Q _ => ∃ i j : Int, vs = [.int i, .int j] ∧ ∀ a, H a = none → Q (.ref a) (upd H a (.tup [.str "whole", .int (clp (i - j))]))
theorem ok_less {f : Addr} {fd : FuncData} (F : Fun K "lessened" "lessened" s_lessened f fd) (D_bounded : Kn P w K mg base 1 "bounded" ["number"] spBounded) : FnOk P w K mg base CX0 2 f fd ["one", "other"] spLess := by
  refine F.ok sc_lessened (fun vs H Q E h => ?_) (fun cdv A outer s H vs Q E hr h => ?_)
  · obtain ⟨i, j, rfl, _⟩ := h
    rfl
  · obtain ⟨i, j, rfl, k⟩ := h
    have hr_bounded : Room 1 _ := hr
    refine ⟨_, (pss_one (ps_ret (pe_kn D_bounded hr_bounded (pa_cons (pe_op op_sub (pv 0) (pv 1)) pa_nil)))), ?_⟩
    exact ⟨_, rfl, _, rfl, _, _, rfl, rfl, _, rfl, k⟩
abbrev s_multiplied : Stmt := topS 20
abbrev N_multiplied : List Str := ["one", "other"]
theorem sc_multiplied : FnScope N_multiplied ["one", "other"] (defScope s_multiplied) := ⟨rfl, rfl, rfl, by decide +kernel, rfl, by decide +kernel, by decide +kernel⟩
def spMul : Sp := fun vs H Q _ => ∃ i j : Int, vs = [.int i, .int j] ∧ i.natAbs < 2 ^ 100 ∧ j.natAbs < 2 ^ 100 ∧ ∀ a, H a = none → Q (.ref a) (upd H a (.tup [.str "whole", .int (clp (i * j))]))
theorem ok_mul {f : Addr} {fd : FuncData} (F : Fun K "multiplied" "multiplied" s_multiplied f fd) (D_bounded : Kn P w K mg base 1 "bounded" ["number"] spBounded) : FnOk P w K mg base CX0 2 f fd ["one", "other"] spMul := by
  refine F.ok sc_multiplied (fun vs H Q E h => ?_) (fun cdv A outer s H vs Q E hr h => ?_)
  · obtain ⟨i, j, rfl, _⟩ := h
    rfl
  · obtain ⟨i, j, rfl, b1, b2, k⟩ := h
    have hr_bounded : Room 1 _ := hr
    refine ⟨_, (pss_one (ps_ret (pe_kn D_bounded hr_bounded (pa_cons (pe_op op_mulW (pv 0) (pv 1)) pa_nil)))), ?_⟩
    exact ⟨_, rfl, _, rfl, _, _, rfl, rfl, wide_mul b1 b2 (by omega) (by omega) (by omega), _, rfl, k⟩
abbrev s_are_equal : Stmt := topS 21
abbrev N_are_equal : List Str := ["one", "other"]
theorem sc_are_equal : FnScope N_are_equal ["one", "other"] (defScope s_are_equal) := ⟨rfl, rfl, rfl, by decide +kernel, rfl, by decide +kernel, by decide +kernel⟩
def spEqual : Sp := fun vs H Q _ => ∃ (b : Bool) (u v : V), vs = [u, v] ∧ ((∃ i j : Int, u = .int i ∧ v = .int j ∧ b = decide (i = j)) ∨ ∃ i j : Str, u = .str i ∧ v = .str j ∧ b = decide (i = j)) ∧ ∀ e a, H e = none → (upd H e (.tup [])) a = none → Q (.ref a) (upd (upd H e (.tup [])) a (.tup [.str "made", .str (if b then "yes" else "no"), .ref e]))
theorem ok_equal {f : Addr} {fd : FuncData} (F : Fun K "are_equal" "are_equal" s_are_equal f fd) (D_truth : Kn P w K mg base 1 "truth" ["holds"] spTruth) : FnOk P w K mg base CX0 2 f fd ["one", "other"] spEqual := by
  refine F.ok sc_are_equal (fun vs H Q E h => ?_) (fun cdv A outer s H vs Q E hr h => ?_)
  · obtain ⟨b, i, j, rfl, _⟩ := h
    rfl
  · obtain ⟨b, u, v, rfl, hh, k⟩ := h
    have hr_truth : Room 1 _ := hr
    refine ⟨_, (pss_one (ps_ret (pe_kn D_truth hr_truth (pa_cons (pe_cmpR op_eq (pv 0) (pv 1) (nomark _)) pa_nil)))), ?_⟩
    rcases hh with ⟨i, j, rfl, rfl, e⟩ | ⟨i, j, rfl, rfl, e⟩
    · refine ⟨_, rfl, _, rfl, rfl, b, ?_, k⟩
      rw [e]
      simp
    · refine ⟨_, rfl, _, rfl, rfl, b, ?_, k⟩
      rw [e]
      simp
abbrev s_are_in_row : Stmt := topS 22
abbrev N_are_in_row : List Str := ["one", "other"]
theorem sc_are_in_row : FnScope N_are_in_row ["one", "other"] (defScope s_are_in_row) := ⟨rfl, rfl, rfl, by decide +kernel, rfl, by decide +kernel, by decide +kernel⟩
def spRow : Sp := fun vs H Q _ => ∃ (b : Bool) (u v : V), vs = [u, v] ∧ ((∃ i j : Int, u = .int i ∧ v = .int j ∧ b = decide (i ≤ j)) ∨ ∃ i j : Str, u = .str i ∧ v = .str j ∧ b = leS i j) ∧ ∀ e a, H e = none → (upd H e (.tup [])) a = none → Q (.ref a) (upd (upd H e (.tup [])) a (.tup [.str "made", .str (if b then "yes" else "no"), .ref e]))
theorem ok_row {f : Addr} {fd : FuncData} (F : Fun K "are_in_row" "are_in_row" s_are_in_row f fd) (D_truth : Kn P w K mg base 1 "truth" ["holds"] spTruth) : FnOk P w K mg base CX0 2 f fd ["one", "other"] spRow := by
  refine F.ok sc_are_in_row (fun vs H Q E h => ?_) (fun cdv A outer s H vs Q E hr h => ?_)
  · obtain ⟨b, i, j, rfl, _⟩ := h
    rfl
  · obtain ⟨b, u, v, rfl, hh, k⟩ := h
    have hr_truth : Room 1 _ := hr
    refine ⟨_, (pss_one (ps_ret (pe_kn D_truth hr_truth (pa_cons (pe_cmpR (op_or op_le op_le_str) (pv 0) (pv 1) (nomark _)) pa_nil)))), ?_⟩
    rcases hh with ⟨i, j, rfl, rfl, e⟩ | ⟨i, j, rfl, rfl, e⟩
    · refine ⟨_, rfl, _, rfl, .inl ⟨_, _, rfl, rfl, b, ?_, k⟩⟩
      rw [e]
      rfl
    · refine ⟨_, rfl, _, rfl, .inr ⟨_, _, rfl, rfl, b, ?_, k⟩⟩
      rw [e]
      rfl
abbrev s_is_plain : Stmt := topS 15
abbrev N_is_plain : List Str := ["value", "word"]
theorem sc_is_plain : FnScope N_is_plain ["value", "word"] (defScope s_is_plain) := ⟨rfl, rfl, rfl, by decide +kernel, rfl, by decide +kernel, by decide +kernel⟩
/-- a right value of the word -/
def Pl (H : Hp) (a : Addr) (word : Str) (v : V) : Prop := H a = some (.tup [.str word, v]) ∧ ((word = "whole" ∧ ∃ i : Int, v = .int i ∧ -(10 ^ 30) ≤ i ∧ i ≤ 10 ^ 30) ∨ (word = "text" ∧ ∃ x : Str, v = .str x ∧ isTextD (.str x) = true))
def spPlain : Sp := fun vs H Q _ => ∃ (a : Addr) (word : Str) (v : V), vs = [.ref a, .str word] ∧ Pl H a word v ∧ ∀ H', Same H H' → Q (.bl true) H'
theorem ok_plain {f : Addr} {fd : FuncData} (F : Fun K "is_plain" "is_plain" s_is_plain f fd) (B : Bl mg) (B9 : Bl9 mg) (D_is_whole : Kn P w K mg base 2 "is_whole" ["value"] spWhole) (D_is_text : Kn P w K mg base 1 "is_text" ["value"] spText) : FnOk P w K mg base CX0 3 f fd ["value", "word"] spPlain := by
  refine F.ok sc_is_plain (fun vs H Q E h => ?_) (fun cdv A outer s H vs Q E hr h => ?_)
  · obtain ⟨a, word, v, rfl, _⟩ := h
    rfl
  · obtain ⟨a, word, v, rfl, ⟨ga, hv⟩, k⟩ := h
    have hr_is_whole : Room 2 _ := hr
    have hr_is_text : Room 1 _ := hr.mono (by decide)
    refine ⟨_, (pss_cons (ps_if (PW.pt (pw_or (pt_not (pt_val (pe_callB call_isi (by rfl) B9.isinstance PyProof.Rows.boot_isinstance (pa_cons (pv 0) (pa_cons (pe_bltn (v := .ty "tuple") (by rfl) B9.tuple (by decide +kernel) rfl) pa_nil))))) (pw_or (pt_cmpR op_ne (pe_callB call_len (by rfl) B.len PySem.boot_len (pa_cons (pv 0) pa_nil)) pe_int (nomark _)) (pw_or1 (pt_cmpR op_ne (pe_ix ix_tup (pv 0) pe_int (fun _ _ => rfl)) (pv 1) (nomark _))))))
  (pss_one (ps_ret pe_bl))
  pss_nil)
  (pss_one (ps_ret (pe_ifExp (pt_cmpR op_eq (pv 1) pe_str (nomark _)) (pe_kn D_is_whole hr_is_whole (pa_cons (pe_ix ix_tup (pv 0) pe_int (fun _ _ => rfl)) pa_nil)) (pe_kn D_is_text hr_is_text (pa_cons (pe_ix ix_tup (pv 0) pe_int (fun _ _ => rfl)) pa_nil)))))), ?_⟩
    have ty : TyX K H (.ref a) (.type "tuple") := by
      rcases hv with ⟨rfl, i, rfl, _⟩ | ⟨rfl, x, rfl, _⟩
      · exact (Da.tup (t := 0) ga (.cons (.str _) (.cons (.int i) .nil))).ty
      · exact (Da.tup (t := 0) ga (.cons (.str _) (.cons (.str x) .nil))).ty
    refine ⟨_, rfl, .ref a, .ty "tuple", .type "tuple", .type "tuple", true, rfl, .ty "tuple", ty, kit_tup (.tuple []), _, rfl, ?_⟩
    refine iF rfl ?_
    refine ⟨_, rfl, .ref a, 2, rfl, .inr ⟨_, SqT.of ga, rfl⟩, ?_⟩
    refine ⟨rfl, _, rfl, ?_⟩
    refine iF (by decide) ?_
    refine ⟨_, rfl, a, _, 0, _, rfl, rfl, SqT.of ga, rfl, _, rfl, ?_⟩
    refine ⟨rfl, _, rfl, ?_⟩
    refine iF (by simp) ?_
    refine ⟨_, rfl, rfl, _, rfl, ?_⟩
    rcases hv with ⟨rfl, i, rfl, b1, b2⟩ | ⟨rfl, x, rfl, hx⟩
    · refine iT (by decide) ?_
      refine ⟨_, rfl, a, _, 1, _, rfl, rfl, SqT.of ga, rfl, 0, _, .int i, rfl, .int i, ?_⟩
      have e : isWholeD (.int i) = true := by
        show (decide (-(10 ^ 30) ≤ i) && decide (i ≤ 10 ^ 30)) = true
        rw [decide_eq_true b1, decide_eq_true b2]
        rfl
      rw [e]
      exact k H (Same.refl H)
    · refine iF (by decide) ?_
      refine ⟨_, rfl, a, _, 1, _, rfl, rfl, SqT.of ga, rfl, 0, _, .str x, rfl, .str x, fun y ey => ?_, fun H' s' => ?_⟩
      · cases ey
        have h2 : (decide (x.length ≤ 200) && x.cps.all sgnT) = true := hx
        have h3 := of_decide_eq_true (Bool.and_eq_true_iff.mp h2).1
        omega
      · rw [hx]
        exact k H' s'
end
end L3

/-! a statement that is never reached -/
namespace L3
open PySem L2
def tNever : TS := fun _ _ _ => False
theorem ps_never {X : Cx} {st : Stmt} : PS X st tNever := ⟨fun _ _ _ _ _ _ h => h.elim⟩
end L3

/-! a dict of the module whose keys are texts: what it has -/
namespace L3
open PySem L2
def keyNm (e : DictEntry) : Option Str := match e.key with
  | .str x _ => some x
  | _ => none
theorem has_of {K : PySem.W.Frag} {a : Addr} {es : Array DictEntry} {n : Nat} {ks : List Str} (l : K.lookup a = some ⟨.type "dict", none, .dict es n, #[]⟩) (hk : es.toList.map keyNm = ks.map some) : ∀ z : Str, ∃ r, PySem.W.nsIn K a z = some r ∧ r.isSome = decide (z ∈ ks) := by
  intro z
  unfold PySem.W.nsIn
  rw [l]
  show ∃ r, (match es.toList.find? (·.key.isStr z) with
    | some e => some (some e.val)
    | none => if es.toList.any (·.refKey) then none else some none) = some r ∧ _
  generalize es.toList = l at hk
  have key : ∀ (l : List DictEntry) (ks : List Str), l.map keyNm = ks.map some → (l.find? (·.key.isStr z)).isSome = decide (z ∈ ks) ∧ l.any (·.refKey) = false := by
    intro l
    induction l with
    | nil =>
      intro ks h
      cases ks with
      | nil => exact ⟨rfl, rfl⟩
      | cons _ _ => cases h
    | cons e r ih =>
      intro ks h
      cases ks with
      | nil => cases h
      | cons x ks =>
        rw [List.map_cons, List.map_cons] at h
        injection h with h1 h2
        obtain ⟨i1, i2⟩ := ih ks h2
        obtain ⟨tk, ek⟩ : ∃ tk, e.key = .str x tk := by
          unfold keyNm at h1
          split at h1
          · rename_i y tk q
            injection h1 with h1
            exact ⟨tk, by rw [q, h1]⟩
          · cases h1
        refine ⟨?_, ?_⟩
        · rw [List.find?_cons]
          have es : e.key.isStr z = decide (z = x) := by
            rw [ek]
            show (x == z) = decide (z = x)
            rw [Bool.eq_iff_iff, beq_iff_eq, decide_eq_true_eq]
            exact eq_comm
          rw [es]
          by_cases c : z = x
          · rw [decide_eq_true c]
            simp [c]
          · rw [decide_eq_false c]
            simp only [i1]
            rw [Bool.eq_iff_iff, decide_eq_true_eq, decide_eq_true_eq, List.mem_cons]
            exact ⟨.inr, fun h => h.resolve_left c⟩
        · rw [List.any_cons, i2, Bool.or_false]
          unfold DictEntry.refKey
          rw [ek]
  obtain ⟨k1, k2⟩ := key l ks hk
  cases hf : l.find? (·.key.isStr z) with
  | some e =>
    rw [hf] at k1
    exact ⟨some e.val, rfl, k1⟩
  | none =>
    rw [hf] at k1
    refine ⟨none, ?_, k1⟩
    show (if l.any (·.refKey) = true then none else some none) = some none
    rw [k2]
    rfl
end L3

namespace L3
open PySem L2
def nmL : List Str := ["plus", "minus", "times", "equal", "upto", "join", "size", "eqtext", "uptotext", "spell"]
/-- the two dicts of the module -/
structure Mk (K : PySem.W.Frag) (w : World) (mg : Str → Option Value) (kA : Addr) (es : Array DictEntry) (nb : Nat) (aA : Addr) (es2 : Array DictEntry) (nb2 : Nat) : Prop where
  KINDS : ∃ u, mg "KINDS" = some u ∧ RelV (.ref kA) u
  enum : mg "enumerate" = none
  kd : KDict K w kA es nb
  has : ∀ z : Str, ∃ r, PySem.W.nsIn K kA z = some r ∧ r.isSome = decide (z ∈ nmL)
  ACTIONS : ∃ u, mg "ACTIONS" = some u ∧ RelV (.ref aA) u
  ad : KDict K w aA es2 nb2
section
variable {P : Program} {w : World} {K : PySem.W.Frag} {mg : Str → Option Value} {base : Heap} {kA aA : Addr} {es es2 : Array DictEntry} {nb nb2 : Nat}
abbrev s_check_primitive : Stmt := topS 14
abbrev N_check_primitive : List Str := ["name"]
theorem sc_check_primitive : FnScope N_check_primitive ["name"] (defScope s_check_primitive) := ⟨rfl, rfl, rfl, by decide +kernel, rfl, by decide +kernel, by decide +kernel⟩
def spCheck : Sp := fun vs H Q _ => ∃ x : Str, vs = [.str x] ∧ x ∈ nmL ∧ Q .non H
theorem ok_check {f : Addr} {fd : FuncData} (F : Fun K "check_primitive" "check_primitive" s_check_primitive f fd) (B9 : Bl9 mg) (M : Mk K w mg kA es nb aA es2 nb2) : FnOk P w K mg base CX0 1 f fd ["name"] spCheck := by
  refine F.ok sc_check_primitive (fun vs H Q E h => ?_) (fun cdv A outer s H vs Q E hr h => ?_)
  · obtain ⟨x, rfl, _⟩ := h
    rfl
  · obtain ⟨x, rfl, hx, k⟩ := h
    refine ⟨_, (pss_one (ps_if (PW.pt (pw_or (pt_not (pt_val (pe_callB call_isi (by rfl) B9.isinstance PyProof.Rows.boot_isinstance (pa_cons (pv 0) (pa_cons (pe_bltn (v := .ty "str") (by rfl) B9.str_ (by decide +kernel) rfl) pa_nil))))) (pw_or1 (pt_cmpR (op_notIn_kd M.kd) (pv 0) (pe_gc (by rfl) M.KINDS) (by rfl)))))
  (pss_one ps_never)
  pss_nil)), ?_⟩
    obtain ⟨r, er, hr2⟩ := M.has x
    refine ⟨_, rfl, .str x, .ty "str", .type "str", .type "str", true, rfl, .ty "str", .base (.str x), kit_str (.str x), _, rfl, ?_⟩
    refine iF rfl ?_
    refine ⟨_, rfl, x, r, rfl, rfl, er, ?_⟩
    rw [hr2, decide_eq_true hx]
    exact ⟨_, rfl, iF rfl k⟩
end
end L3

/-! list(reversed(t)) of a tuple -/
namespace L3
open PySem PySem.Spec PyProof.Rows L2 RT
theorem nolen_rt : typeLookup (.type "reversed") "__len__" = pure none := by rw [typeLookup_type, builtinLookup_eq_fast]; kernel_rfl
theorem hint_rt : typeLookup (.type "reversed") "__length_hint__" = pure (some (.builtin "reversed.__length_hint__")) := by rw [typeLookup_type, builtinLookup_eq_fast]; kernel_rfl
theorem walks_rt {prog : Program} {w : World} {A : Around} (hh : A.handled = none) (I t : Addr) (hne : t ≠ I) (items : Array Value) (hn : items.size ≤ sizeLine) :
    Walks prog w A I [I, t] [I] items.size (fun i v => items[items.size - 1 - i]? = some v) (fun i h => i ≤ items.size ∧ IsRt h I t ((items.size : Int) - 1 - (i : Int)) ∧ IsTup h t items) where
  sub := fun b hb => by simp at hb; simp [hb]
  frame := fun _ _ _ x hk => ⟨x.1, x.2.1.at fun o e => hk I (by simp) o e, by
    obtain ⟨o, ho, r⟩ := x.2.2
    exact ⟨o, hk t (by simp) o ho, r⟩⟩
  item := fun i s Q E hi x hQ => by
    have e : (items.size : Int) - 1 - (i : Int) = ((items.size - 1 - i : Nat) : Int) := by omega
    have hit := x.2.1
    rw [e] at hit
    have hx : items[items.size - 1 - i]? = some (items[items.size - 1 - i]'(by omega)) := Array.getElem?_eq_getElem (by omega)
    refine next_rt_item hit x.2.2 hx hn fun h' hit' hs' => ?_
    have e2 : ((items.size - 1 - i : Nat) : Int) - 1 = (items.size : Int) - 1 - ((i + 1 : Nat) : Int) := by omega
    rw [e2] at hit'
    refine hQ _ h' (s.toks + 1) hx ⟨hi, hit', ?_⟩ fun b o hb eo => hs'.extBut b o (fun h => hb (by simp [h])) eo
    obtain ⟨o, ho, r⟩ := x.2.2
    exact ⟨o, (hs'.2 t hne).trans ho, r⟩
  done := fun s Q E x hQ => by
    have e : (items.size : Int) - 1 - (items.size : Int) = -1 := by omega
    have hit := x.2.1
    rw [e] at hit
    exact next_rt_end hh hit fun h' he' => hQ h' s.toks fun b o hb eo => he' b o (fun h => hb (by simp [h])) eo
  self := fun _ _ _ _ x hQ => iter_rt x.2.1 hQ
theorem asInt_int (n : Int) (tk : Nat) : asInt? (Value.int n tk) = pure (some n) := rfl
theorem slot_rt_hint : Slot "reversed" "__length_hint__" "reversed.__length_hint__" :=
  .of (owner := "reversed") (n := "__length_hint__") (by rw [typeLookup_type, builtinLookup_eq_fast]; kernel_rfl) (by decide +kernel) (by decide +kernel) (by decide +kernel)
    (by first | exact .inl (by decide +kernel) | exact .inr (by decide +kernel)) (by rw [isSubtype_type]; kernel_rfl)
theorem entry_rt_hint : entryFor table "reversed.__length_hint__" = some Builtin.«reversed.__length_hint__» := entryFor_of_tree (by kernel_rfl)
theorem args_rt_hint (a : Value) : argsOk "reversed.__length_hint__" ⟨[a], []⟩ := by
  unfold argsOk; rw [signature?_of (id := "reversed.__length_hint__") (n := ['_', '_', 't', 'n', 'i', 'h', '_', 'h', 't', 'g', 'n', 'e', 'l', '_', '_']) (o := ['d', 'e', 's', 'r', 'e', 'v', 'e', 'r']) (by kernel_rfl) owner_rt]; kernel_rfl
section
variable {prog : Program} {w : World} {A : Around} {E : Value → Shared → Prop} {s : Shared}
theorem hint_rt_call {it t : Addr} {items : Array Value} {Q : Value → Shared → Prop} (hit : IsRt s.heap it t ((items.size : Int) - 1)) (ht : IsTup s.heap t items) (hn : items.size ≤ sizeLine)
    (q : ∀ tk tk', Q (.int (items.size : Int) tk) { s with toks := tk' }) : wpAny (model prog w) A (call (.builtin "reversed.__length_hint__") [.ref it]) Q E s := by
  obtain ⟨o, ho, hc, hd⟩ := id hit
  have hn' := hn
  rw [sizeLine_eq] at hn'
  refine wpAny_call_entry slot_rt_hint hit.typeIs entry_rt_hint ?_ (args_rt_hint _)
  unfold Builtin.«reversed.__length_hint__»
  refine wpAny_bind (wpAny_of_eq (a := Value.ref it) rfl ?_)
  try dsimp only
  refine wpAny_bind (wpAny_field ho hd (x := .ref t) rfl ?_)
  rw [if_neg (show ¬ ((Value.ref t == Value.none) = true) from Bool.false_ne_true)]
  try dsimp only
  refine wpAny_bind (len_tuple ht (by omega) ?_)
  refine wpAny_bind (wpAny_of_eq (a := some ((items.size : Nat) : Int)) rfl ?_)
  try dsimp only
  refine wpAny_bind (wpAny_field (s := { s with toks := s.toks + 1 + 1 }) ho hd (x := rawInt ((items.size : Int) - 1)) rfl ?_)
  show wpAny _ _ (if ((items.size : Nat) : Int) < (items.size : Int) - 1 + 1 then _ else _) _ _ _
  rw [if_neg (by omega)]
  unfold retInt
  refine wpAny_bind (wpAny_mkInt ?_)
  refine wpAny_pure ⟨_, rfl, ?_⟩
  rw [show (items.size : Int) - 1 + 1 = (items.size : Int) by omega]
  exact q _ _
theorem call_list_rt {it t : Addr} {items : Array Value} {Q : Value → Shared → Prop} (hh : A.handled = none) (hit : IsRt s.heap it t ((items.size : Int) - 1)) (ht : IsTup s.heap t items) (hne : t ≠ it) (hn : items.size ≤ sizeLine)
    (q : ∀ h' tk acc c, (∀ b o, b ≠ it → s.heap.get? b = some o → h'.get? b = some o) → h'.get? s.heap.objs.size = some { cls := .type "list", dict := none, data := .seq acc c, slots := #[] } → ItemsOf (fun i v => items[items.size - 1 - i]? = some v) acc items.size →
      Q (.ref s.heap.objs.size) { s with heap := h', toks := tk }) : wpAny (model prog w) A (call (.type "list") [.ref it]) Q E s := by
  have W := (walks_rt (prog := prog) (w := w) (A := A.in1.in1) hh it t hne items hn).toS
  obtain ⟨oi, hoi, _⟩ := id hit
  obtain ⟨ot, hot, _⟩ := id ht
  have zlt : it < s.heap.objs.size := Heap.lt_size hoi
  have tlt : t < s.heap.objs.size := Heap.lt_size hot
  refine callType_codes (Q₁ := fun obj s' => obj = .ref s.heap.objs.size ∧ s' = { s with heap := s.heap.push { cls := .type "list", data := .seq #[] } }) PySem.F.called_list (PySem.F.typeCall_list_1 _) PySem.F.entry_list_init (code_list_new _ ⟨rfl, rfl⟩) ?_
  rintro obj s' ⟨rfl, rfl⟩
  have at0 : (s.heap.push { cls := .type "list", data := .seq #[] }).get? s.heap.objs.size = some { cls := .type "list", data := .seq #[] } := Heap.get?_push_size _ rfl
  refine ⟨⟨_, at0, rfl⟩, PySem.F.args_list_init_2 _ _, ?_⟩
  show wpAny _ A.in1.in1 (do let old ← Builtin.List.listItems (.ref s.heap.objs.size); Builtin.List.listUpdate (.ref s.heap.objs.size) (fun _ => #[]); letGo old.toList.reverse; Builtin.List.listExtendWith (.ref s.heap.objs.size) (.ref it) .none) _ _ _
  refine wpAny_bind ?_
  unfold Builtin.List.listItems
  refine wpAny_bind (wpAny_seqItems at0 rfl (wpAny_pure ?_))
  show wpAny _ A.in1.in1 (updateSeq s.heap.objs.size (fun _ => #[]) >>= fun _ => letGo (#[] : Array Value).toList.reverse >>= fun _ => Builtin.List.listExtendWith (.ref s.heap.objs.size) (.ref it) .none) _ _ _
  refine wpAny_bind (wpAny_updateSeq at0 rfl (wpAny_bind (wpAny_letGo ?_)))
  have at1 := Heap.get?_update_self (Obj.mapSeq (fun _ => (#[] : Array Value))) at0 rfl
  have k1 : ∀ b o, s.heap.get? b = some o → ((s.heap.push { cls := .type "list", data := .seq #[] }).update s.heap.objs.size (Obj.mapSeq (fun _ => (#[] : Array Value)))).get? b = some o :=
    fun b o e => (Heap.get?_update_other _ _ (Nat.ne_of_gt (Heap.lt_size e))).trans (Heap.get?_push_of_some _ e)
  generalize (s.heap.push { cls := .type "list", data := .seq #[] }).update s.heap.objs.size (Obj.mapSeq (fun _ => (#[] : Array Value))) = g1 at at1 k1 ⊢
  have hit1 : IsRt g1 it t ((items.size : Int) - 1) := hit.at fun o e => k1 _ o e
  have ht1 : IsTup g1 t items := by
    obtain ⟨o, ho, r⟩ := ht
    exact ⟨o, k1 _ _ ho, r⟩
  have isz : ({ s with heap := g1 } : Shared).TypeIs (.ref it) "reversed" := IsRt.typeIs (s := { s with heap := g1 }) hit1
  have nsame : Builtin.List.listSameRef (.ref s.heap.objs.size) (.ref it) = false := by simp [Builtin.List.listSameRef, Nat.ne_of_gt zlt]
  have zz : (Value.type "reversed" == Value.type "list") = false := by decide
  have zt : (Value.type "reversed" == Value.type "tuple") = false := by decide
  unfold Builtin.List.listExtendWith
  refine wpAny_bind (wpAny_typeOf isz ?_)
  simp only [nsame, zz, zt, Bool.or_false, Bool.false_eq_true, if_false]
  refine wpAny_bind (iter_rt (s := { s with heap := g1 }) hit1 (wpAny_bind (wpAny_holding ?_)))
  unfold Builtin.List.listLengthHint
  refine wpAny_bind (wpAny_specialOf isz nolen_rt ?_)
  show wpAny _ A.in1.in1 (specialOf (Value.ref it) (Str.ofString "__length_hint__") >>= _) _ _ _
  refine wpAny_bind (wpAny_specialOf isz hint_rt ?_)
  generalize hid : ("reversed.__length_hint__" : String) = id0
  wp_delta
  rw [show splitId id0 = some ("reversed", "__length_hint__") from by subst hid; decide +kernel]
  subst hid
  refine wpAny_bind (wpAny_isInstance (b := true) isz (by rw [isSubtype_type]; kernel_rfl) ?_)
  rw [if_neg (by decide)]
  try dsimp only
  rw [if_neg (by decide +kernel)]
  refine wpAny_bind (wpAny_rule ?_)
  refine wpAny_bind (wpAny_of_eq (slot_rt_hint.bind _) ?_)
  try dsimp only
  refine wpAny_bind (wpAny_attempt (hint_rt_call (s := { s with heap := g1 }) hit1 ht1 hn fun tk tk' => ?_))
  try dsimp only
  have hS : ∀ (g2 : Heap) (c : Nat) (tk2 : Nat), (∀ b o, s.heap.get? b = some o → g2.get? b = some o) → g2.get? s.heap.objs.size = some { cls := .type "list", dict := none, data := .seq #[] c, slots := #[] } →
      codeAny (model prog w) A.in1 (.builtin "list.extend.loop" ⟨[.ref s.heap.objs.size, .ref it, .none], []⟩) (wants (fun r s₂ => r = Value.none ∧ Q (Value.ref s.heap.objs.size) s₂) E) { s with heap := g2, toks := tk2 } := by
    intro g2 c tk2 k2 at2
    have e0 : ((items.size : Nat) : Int) - 1 - ((0 : Nat) : Int) = (items.size : Int) - 1 := by omega
    refine codeAny_extend_loopS W hn _ ?_ .none items.size 0 { s with heap := g2, toks := tk2 } #[] c rfl (Nat.zero_le _) ⟨Nat.zero_le _, by rw [e0]; exact hit.at fun o e => k2 _ o e, by
      obtain ⟨o, ho, r⟩ := ht
      exact ⟨o, k2 _ _ ho, r⟩⟩ at2 (ItemsOf.nil _) fun s' acc' c' hm hS' hacc => ?_
    · simp only [List.mem_cons, List.not_mem_nil, or_false, not_or]
      exact ⟨Nat.ne_of_gt zlt, Nat.ne_of_gt tlt⟩
    · refine ⟨rfl, ?_⟩
      rw [Moved.eq_with hm]
      refine q s'.heap s'.toks acc' c' (fun b o hb e => hm.heap b o (fun hmem => ?_) (k2 _ _ e)) hS' hacc
      rcases List.mem_cons.mp hmem with e' | hmem
      · exact absurd (Heap.lt_size e) (by rw [e']; exact Nat.lt_irrefl _)
      · exact hb (List.mem_singleton.mp hmem)
  have hz0 : 0 ≤ (items.size : Int) := by omega
  have hz1 : (items.size : Int) < 2 ^ 63 := by
    rw [sizeLine_eq] at hn
    omega
  have hz2 : (items.size : Int).toNat ≤ sizeLine := by
    rw [Int.toNat_natCast]
    exact hn
  generalize ((items.size : Nat) : Int) = z at hz0 hz1 hz2 ⊢
  refine wpAny_bind (wpAny_of_eq (asInt_int z tk) ?_)
  try dsimp only
  rw [if_neg (by
    have : Builtin.List.listFitsIndex z = true := by
      unfold Builtin.List.listFitsIndex
      simp only [Bool.and_eq_true, decide_eq_true_eq]
      omega
    rw [this]; decide), if_neg (by omega), if_neg (by
    unfold Builtin.List.listTooLong
    simp only [decide_eq_true_eq]
    omega)]
  refine wpAny_pure ?_
  split
  · refine wpAny_bind (wpAny_rule (wpAny_bind ?_))
    show wpAny _ A.in1.in1 (updateSeq s.heap.objs.size (·.push .none) >>= fun _ => updateSeq s.heap.objs.size (·.pop)) _ _ _
    refine wpAny_bind (wpAny_updateSeq at1 rfl ?_)
    have at2 := Heap.get?_update_self (Obj.mapSeq (·.push Value.none)) at1 rfl
    refine wpAny_updateSeq (hz := by seq_fits) at2 rfl ?_
    have at3 := Heap.get?_update_self (Obj.mapSeq (·.pop)) at2 rfl
    refine wpAny_pure ⟨plainId_quiet F.plain_extend_loop _, ?_⟩
    refine hS _ _ tk' (fun b o e => ?_) at3
    have nb := Nat.ne_of_gt (Heap.lt_size e)
    exact (Heap.get?_update_other _ _ nb).trans ((Heap.get?_update_other _ _ nb).trans (k1 b o e))
  · refine wpAny_pure ⟨plainId_quiet F.plain_extend_loop _, ?_⟩
    exact hS g1 _ tk' k1 at1
end
/-- list(reversed(t)), t a tuple -/
def tListRevT (K : PySem.W.Frag) (te : TE) : TE := fun σ H Q => te σ H fun v H1 => ∃ (a : Addr) (xs : List V), v = .ref a ∧ SqT K H1 a xs ∧ ∀ q, H1 q = none → Q (.ref q) (upd H1 q (.lst xs.reverse))
theorem pe_listRevT {X : Cx} {e : Expr} {te : TE} {p p2 pos pos2 : Pos} (hc : X.calm = true) (hg : Gl X "list") (hm : X.mg "list" = none) (hg2 : Gl X "reversed") (hm2 : X.mg "reversed" = none) (he : PE X e te)
    (hs : starEach [e] X.env = (false, eval e X.env) :: starEach [] X.env := by rfl)
    (hs2 : starEach [.Call (.Name "reversed" p2) [e] [] pos2] X.env = (false, eval (.Call (.Name "reversed" p2) [e] [] pos2) X.env) :: starEach [] X.env := by rfl) :
    PE X (.Call (.Name "list" p) [.Call (.Name "reversed" p2) [e] [] pos2] [] pos) (tListRevT X.K te) := by
  refine ⟨fun pins s σ H Q I h => ?_⟩
  refine Call_ (ld_blt I hg hm (show bootBuiltins "list" = some (Value.type "list") by decide +kernel) (PyProof.Rows.callWith_type1 (args_cons (Call_ (ld_blt I hg2 hm2 PyProof.Rows.boot_reversed (PyProof.Rows.callWith_type1 (args_cons (thn (he.run pins s σ H _ I h) fun u s1 ⟨v, H1, I1, r1, q1⟩ => args_nil ?_) hs) hs rfl))) hs2) hs2 rfl))
  obtain ⟨a, xs, ev, hq, q⟩ := q1
  subst ev
  obtain rfl : u = Value.ref a := r1
  obtain ⟨its, rv, p', hz⟩ := I1.tuple hq
  have hl := rv.length
  have hn63 := line63
  have hn : its.toArray.size ≤ sizeLine := by rw [List.size_toArray, ← rv.length]; exact hz
  refine call_reversed_tup p' (fun A E Q k => len_tuple p' (by simp only [List.size_toArray] <;> omega) k) (args_nil ?_)
  have k0 : ∀ b o, s1.heap.get? b = some o → (s1.heap.push (rtObj a ((its.toArray.size : Int) - 1))).get? b = some o := fun b o e => Heap.get?_push_of_some _ e
  obtain ⟨ol, hol, _⟩ := id p'
  have hne : a ≠ s1.heap.objs.size := Nat.ne_of_lt (Heap.lt_size hol)
  refine call_list_rt (s := { s1 with heap := s1.heap.push (rtObj a ((its.toArray.size : Int) - 1)), toks := s1.toks + 1 + 1 }) (I1.ok.hd hc) ⟨_, Heap.get?_push_size _ rfl, rfl, rfl⟩ (by
    obtain ⟨o, ho, r⟩ := p'
    exact ⟨o, k0 _ _ ho, r⟩) hne hn fun h' tk acc c hk at' hi => ?_
  have kk : ∀ b o, s1.heap.get? b = some o → h'.get? b = some o := fun b o e => hk b o (Nat.ne_of_lt (Heap.lt_size e)) (k0 b o e)
  have le : s1.heap.objs.size ≤ (s1.heap.push (rtObj a ((its.toArray.size : Int) - 1))).objs.size := by
    have z : (s1.heap.push (rtObj a ((its.toArray.size : Int) - 1))).get? s1.heap.objs.size = some (rtObj a ((its.toArray.size : Int) - 1)) := Heap.get?_push_size _ rfl
    exact Nat.le_of_lt (Heap.lt_size z)
  exact ⟨.ref _, upd H1 _ (.lst xs.reverse), I1.laid (t' := tk) kk le (show ObjOk X.prog X.w _ h' _ (.lst xs.reverse) from ⟨by rw [List.length_reverse]; exact hz, acc.toList, c, vals_rev rv hi, by rw [Array.toArray_toList]; exact at'⟩), rfl, q _ (I1.hok.fresh le)⟩
end L3

/-! defs with a star parameter, known by their names -/
namespace L3
open PySem PySem.Spec PyProof.Rows L2 StX
structure KnR (P : Program) (w : World) (K : PySem.W.Frag) (mg : Str → Option Value) (base : Heap) (k : Nat) (x : Str) (sp : Sp) : Prop where
  ex : ∃ (f : Addr), FnR P w K mg base CX0 k f sp ∧ mg x = some (.ref f) ∧ PySem.W.keepIn K (.ref f) = true
def tCallR (sp : Sp) (t : TA) : TE := fun σ H Q => t σ H fun vs H1 => sp vs H1 Q E0
def tCallS (K : PySem.W.Frag) (sp : Sp) (te : TE) : TE := fun σ H Q => te σ H fun y H1 => ∃ a xs, y = V.ref a ∧ (SqT K H1 a xs ∨ SqL K H1 a xs) ∧ sp xs H1 Q E0
section
variable {X : Cx} {x : Str} {k : Nat} {sp : Sp} {e : Expr} {es : List Expr} {te : TE} {t : TA} {p sp_ pos : Pos}
theorem pe_ks (D : KnR X.prog X.w X.K X.mg X.base k x sp) (hr : Room k X.A) (ha : PA X (e :: es) t) (hg : Gl X x := by rfl) (hdb : (x == ("__debug__" : Str)) = false := by decide)
    (he : starEach (e :: es) X.env = (false, eval e X.env) :: starEach es X.env := by rfl) (hpl : (backTo pos (starEach es X.env)).any (·.1) = false := by rfl) :
    PE X (.Call (.Name x p) (e :: es) [] pos) (tCallR sp t) := by
  obtain ⟨f, F, hm, hk⟩ := D.ex
  refine ⟨fun pins s σ H Q I h => ?_⟩
  refine wpAny_Call_Name_kw (ld_glob I hg hm ?_ hdb)
  refine PySem.W.callWith_K (h₀ := X.base) I.ok.mod.kin hk (thn (ha.run pos pins s σ H _ I h) fun us s1 ⟨vs, H1, I1, r, q⟩ => ⟨I1.kIn, ?_⟩) he hpl
  exact wpAny_call (run_fnR F hr pass0 I1 r q)
theorem pe_ks0 (D : KnR X.prog X.w X.K X.mg X.base k x sp) (hr : Room k X.A) (hg : Gl X x := by rfl) (hdb : (x == ("__debug__" : Str)) = false := by decide) : PE X (.Call (.Name x p) [] [] pos) (tCallR sp tNil) := by
  obtain ⟨f, F, hm, hk⟩ := D.ex
  refine ⟨fun pins s σ H Q I h => ?_⟩
  refine wpAny_Call_Name_kw (ld_glob I hg hm ?_ hdb)
  exact PySem.W.callWith_K0 I.kIn hk (wpAny_call (run_fnR (us := []) F hr pass0 I .nil h))
theorem pe_ks1 (D : KnR X.prog X.w X.K X.mg X.base k x sp) (hr : Room k X.A) (he : PE X e te) (hg : Gl X x := by rfl) (hd : (x == ("__debug__" : Str)) = false := by decide)
    (hst : starEach [.Starred e sp_] X.env = [(true, eval e X.env)] := by rfl) :
    PE X (.Call (.Name x p) [.Starred e sp_] [] pos) (tCallS X.K sp te) := by
  obtain ⟨f, F, hm, hk⟩ := D.ex
  exact pe_callS1 F hr hk hg hm pass0 he hd hst
end
section
variable {P : Program} {w : World} {K : PySem.W.Frag} {mg : Str → Option Value} {base : Heap}
/-- what a def with a star parameter is promised, by what it is promised of the tuple -/
def spStar (n : Nat) (sp : Sp) : Sp := fun vs H Q E => ∃ ws rest, vs = ws ++ rest ∧ ws.length = n ∧ rest.length ≤ sizeLine ∧ ∀ p, H p = none → sp (ws ++ [V.ref p]) (upd H p (.tup rest)) Q E
theorem fn_starK {x qual pv : Str} {st : Stmt} {f : Addr} {fd : FuncData} {N ps : List Str} {k : Nat} {sp : Sp} (F : Fun K x qual st f fd) (S : FnScope N (ps ++ [pv]) (defScope st))
    (hb : ∀ (kV doc pm : Value) (an : Option Addr) (cdv ct : Value) (us rest : List Value), us.length = ps.length → bindArgs (PySem.W.fnOf x qual (defArgs st) (defBody st) (defScope st) .none kV doc pm an cdv ct) ⟨us ++ rest, []⟩ = (newTuple rest >>= fun t => pure (ps.zip us ++ [(pv, t)])))
    (hbody : ∀ (cdv : Value) (A : Around) (outer : List Env) (s : Shared) (H : Hp) (vs : List V) (Q : VK) (E : XK), Room k (A.deeper (envOfC qual (defScope st) s.heap.objs.size f cdv)) → sp vs H Q E →
      ∃ t, PSs (cxOf CX0 P w K mg base N qual (defScope st) f cdv A outer s H E).nox (defBody st) t ∧ t { nx := fun _ H' => Q .non H', rt := Q } (start N vs) H) : FnR P w K mg base CX0 (k + 1) f (spStar ps.length sp) := by
  obtain ⟨oc, od, kV, doc, pm, an, cdv, ct, osl, rfl, lk, hcd⟩ := F.ex
  exact fn_star lk hcd S (fun _ _ _ _ _ _ _ _ _ _ _ z => z) (hb kV doc pm an cdv ct) fun A outer s H vs Q E hr h => by
    obtain ⟨t, ht, q⟩ := hbody cdv A outer s H vs Q E hr h
    exact ⟨t, PSs.nox ht, q⟩
end
end L3

/-! enumerate(t), t a tuple -/
namespace L3
open PySem PySem.Spec PyProof.Rows L2
open Sem (wp)
/-- the pairs (i, t[i]), each new -/
def Iet (K : PySem.W.Frag) (a : Addr) : It :=
  ⟨fun i H => ∃ (xs : List V) (x : V), SqT K H a xs ∧ xs[i]? = some x, fun i H v H' => ∃ T x, v = .ref T ∧ H T = none ∧ H' = upd H T (.tup [.int (i : Nat), x]) ∧ ∀ xs, SqT K H a xs → xs[i]? = some x, fun i H => ∃ xs : List V, SqT K H a xs ∧ xs.length = i⟩
theorem turn_enumT {P : Program} {w : World} {K : PySem.W.Frag} {elts : List Expr} {kk : Nat} {tpos : Pos} (a e it : Addr) (na : a ≠ it) (nae : a ≠ e) :
    Turn P w K (.Tuple elts kk tpos) (Iet K a) [e, it] e (fun i h => (∃ old, IsEnum h e it ((i : Nat) : Int) old) ∧ h.IsTupleIter it a i ∧ e ≠ it) where
  mem := List.mem_cons_self ..
  obj := by
    rintro i h ⟨⟨old, he⟩, ⟨o, ho, hc, hd⟩, _⟩ b hb
    rcases List.mem_cons.mp hb with z | z
    · rw [z]; exact ⟨_, he, fun v q => nomatch q⟩
    · have z := List.mem_singleton.mp z
      rw [z]; exact ⟨o, ho, fun v q => by rw [hd] at q; cases q⟩
  keep := by
    rintro i h h' ⟨⟨old, he⟩, hi, hne⟩ k
    exact ⟨⟨old, k e (by simp) _ he⟩, hi.at fun o q => k it (by simp) o q, hne⟩
  item := by
    intro X hP hw hK hc i pins s σ H E I hf st hg
    subst hP hw hK
    obtain ⟨⟨old, he⟩, hit, hne⟩ := st
    obtain ⟨xs, x, hq, hx⟩ := hg
    obtain ⟨its, rv, p, hz⟩ := I.tuple hq
    obtain ⟨u, hu, ru⟩ := rv.get hx
    have ht : s.heap.IsTuple a its.toArray := p
    have hel : e < s.heap.objs.size := Heap.lt_size he
    have hil : it < s.heap.objs.size := by obtain ⟨_, q, _⟩ := hit; exact Heap.lt_size q
    have lt : i < its.toArray.size := by
      obtain ⟨q, _⟩ := List.getElem?_eq_some_iff.mp hu
      simpa using q
    refine wpAny_pyNext_enum_itemD (Draws.tuple (A := X.A.in1) (show X.A.in1.handled = none from I.ok.hd hc) it a na its.toArray) he ⟨hit, ht⟩ lt hne (by simp [hne, nae.symm]) fun y h' tk hy ho hs' hT hsz hk => ?_
    have ey : y = u := by
      have h2 : its[i]? = some y := by simpa using hy
      rw [hu] at h2
      exact (Option.some.inj h2).symm
    subst ey
    refine ⟨_, rfl, wpAny_letOwnedTupleGo_enum (s := { s with heap := h', toks := tk + 1 }) ho fun h'' he' sb => ?_⟩
    have hT2 : h''.get? s.heap.objs.size = some { cls := .type "tuple", data := .seq #[.int i tk, y] } := (sb.2 _ (Nat.ne_of_gt hel)).trans hT
    have new : ObjOk X.prog X.w (upd H s.heap.objs.size (.tup [.int (i : Nat), x])) h'' s.heap.objs.size (.tup [.int (i : Nat), x]) :=
      ⟨by show 2 ≤ sizeLine; decide, [.int i tk, y], .cons ⟨_, rfl⟩ (.cons ru .nil), ⟨_, hT2, rfl, _, rfl⟩⟩
    have I1 : Inv X pins σ (upd H s.heap.objs.size (.tup [.int (i : Nat), x])) { s with heap := h'', toks := tk + 1 } :=
      I.turnedNew (ch := [e, it]) (fun b ob hb q => (sb.2 b (fun z => hb (by simp [z]))).trans (hk b ob (fun z => hb (by simp [z])) (fun z => hb (by simp [z])) q)) hf (Nat.le_refl _) new
    refine ⟨.ref s.heap.objs.size, _, I1, rfl, ⟨_, x, rfl, I.hok.fresh (Nat.le_refl _), rfl, fun ys hy => by rw [I.tuple_inj hy hq]; exact hx⟩, ⟨⟨y, ?_⟩, hs'.1.at fun o q => (sb.2 it (Ne.symm hne)).trans q, hne⟩, fun b hb => ?_⟩
    · have e1 : ((i + 1 : Nat) : Int) = (i : Int) + 1 := by omega
      rw [e1]; exact he'
    · have hb' : b < s.heap.objs.size := by
        rcases List.mem_cons.mp hb with z | z
        · rw [z]; exact hel
        · rw [List.mem_singleton.mp z]; exact hil
      rw [upd_ne (Nat.ne_of_lt hb')]
      exact (hf b hb).1
  done := by
    intro X hP hw hK hc i pins s σ H E I hf st hg
    subst hP hw hK
    obtain ⟨⟨old, he⟩, hit, hne⟩ := st
    obtain ⟨xs, hq, hx⟩ := hg
    obtain ⟨its, rv, p, hz⟩ := I.tuple hq
    have ht : s.heap.IsTuple a its.toArray := p
    obtain ⟨f0, f1, f2, f3, f4, f5⟩ := hf it (by simp)
    have hl := rv.length
    have ei : i = its.toArray.size := by simp; omega
    refine wpAny_pyNext_enum_endD (Draws.tuple (A := X.A.in1) (show X.A.in1.handled = none from I.ok.hd hc) it a na its.toArray) he ⟨ei ▸ hit, ht⟩ fun h' eb => ?_
    exact ⟨rfl, I.turned (t' := s.toks) (fun b o hb q => eb b o hb q) f0 f1 f3 f4 f5⟩
  self := fun A i s Q E st h => let ⟨⟨_, he⟩, _⟩ := st; wpAny_pyIter_enum he h
/-- what enumerate(v) makes: an iterator of v and the pair-maker above it -/
def twoNew (h : Heap) (o : Obj) : Heap := (h.push o).push { cls := .type "enumerate", data := .fields #[.none, .bool false, .ref h.objs.size, rawInt 0, .none, .none] }
theorem meets_enum1 {v : Value} {o : Obj} {G : Heap → Prop} (B : Begins v o G) : Meets (Builtin.«enumerate.__new__» ⟨[.type "enumerate", v], []⟩) (fun _ R s => G s.heap ∧ R (.ok (.ret (.ref (s.heap.push o).objs.size))) { s with heap := twoNew s.heap o }) :=
  .of_wp fun prog w A R s h => by
    obtain ⟨hp, g, d, tk, os⟩ := s
    obtain ⟨h1, h⟩ := h
    have hsub := sub_enumerate
    have q1 : ∀ {A' : Around} {E : Value → Shared → Prop} {Q : Value → Shared → Prop}, Q (.ref hp.objs.size) ⟨hp.push o, g, d, tk, os⟩ → wpAny (model prog w) A' (pyIter v) Q E ⟨hp, g, d, tk, os⟩ := fun q => B.iter prog w _ _ ⟨hp, g, d, tk, os⟩ _ h1 q
    wp_walk using q1
    refine wpAny_stack_any fun st => wpAny_pure ?_
    split
    · rename_i c _ _ _ _ _
      cases (c == Value.type "enumerate") <;> (wp_walk using q1; exact ⟨_, rfl, h⟩)
    · wp_walk using q1
      exact ⟨_, rfl, h⟩
theorem call_enum1 {prog : Program} {w : World} {A : Around} {E : Value → Shared → Prop} {s : Shared} {v : Value} {o : Obj} {G : Heap → Prop} {Q : Value → Shared → Prop} (B : Begins v o G) (h1 : G s.heap)
    (h : ∀ h', IsEnum h' (s.heap.objs.size + 1) s.heap.objs.size 0 .none → h'.get? s.heap.objs.size = some o → (∀ b q, s.heap.get? b = some q → h'.get? b = some q) → Q (.ref (s.heap.objs.size + 1)) { s with heap := h' }) :
    wpAny (model prog w) A (call (.type "enumerate") [v]) Q E s := by
  have hz : (s.heap.push o).objs.size = s.heap.objs.size + 1 := Heap.size_push ..
  refine callType_new F.called_enumerate (by decide) (F.typeCall_enumerate_1 _) (F.newCall_enumerate_1 _) (fun obj => F.args_object_init_2 obj _) F.entry_enumerate_new (meets_enum1 B) ⟨h1, ?_⟩
  show _ ∧ _
  rw [hz]
  have he : IsEnum (twoNew s.heap o) (s.heap.objs.size + 1) s.heap.objs.size 0 .none := by
    rw [← hz]
    exact Heap.get?_push_size _ rfl
  exact ⟨⟨_, he, rfl⟩, h _ he (Heap.get?_push_of_some _ (Heap.get?_push_size _ B.free)) fun b q x => Heap.get?_push_of_some _ (Heap.get?_push_of_some _ x)⟩
def iEnumT (K : PySem.W.Frag) (ta : TA) : TI := fun σ H R => ta σ H fun vs H1 => ∃ a xs, vs = [.ref a] ∧ SqT K H1 a xs ∧ R (Iet K a) H1
theorem pi_enumT {X : Cx} {e : Expr} {ta : TA} {p pos tpos : Pos} {elts : List Expr} {kk : Nat} (hg : Gl X "enumerate") (hm : X.mg "enumerate" = none) (ha : PA X [e] ta) (hs : starEach [e] X.env = [(false, eval e X.env)] := by rfl) :
    PI X (.Tuple elts kk tpos) (.Call (.Name "enumerate" p) [e] [] pos) (iEnumT X.K ta) := by
  refine ⟨fun pins s σ H R I h => ?_⟩
  refine Call_ (ld_blt I hg hm boot_enumerate (PyProof.Rows.callWith_type1 (thn (ha.run pos pins s σ H _ I h) fun us s1 ⟨vs, H1, I1, r1, q1⟩ => ?_) hs rfl))
  obtain ⟨a, xs, rfl, hq, q⟩ := q1
  obtain ⟨u, rfl, ru⟩ := vals1 r1
  cases ru
  obtain ⟨its, rv, p', hz⟩ := I1.tuple hq
  have ht : s1.heap.IsTuple a its.toArray := p'
  have al : a < s1.heap.objs.size := by
    obtain ⟨_, z, _⟩ := ht
    exact Heap.lt_size z
  refine call_enum1 (begins_tuple a its.toArray) ht fun h' he hit hk => wpAny_pyIter_enum he ?_
  have I2 : Inv X pins σ H1 { s1 with heap := h' } := I1.kept (t' := s1.toks) hk
  refine ⟨s1.heap.objs.size + 1, [s1.heap.objs.size + 1, s1.heap.objs.size], _, _, H1, rfl, I2, turn_enumT a (s1.heap.objs.size + 1) s1.heap.objs.size (Nat.ne_of_lt al) (Nat.ne_of_lt (Nat.lt_succ_of_lt al)), ⟨⟨.none, he⟩, ⟨_, hit, rfl, rfl⟩, Nat.succ_ne_self _⟩, fun b hb => ?_, q⟩
  have hle : s1.heap.objs.size ≤ b := by
    rcases List.mem_cons.mp hb with z | z
    · rw [z]; exact Nat.le_add_right _ _
    · rw [List.mem_singleton.mp z]; exact Nat.le_refl _
  exact I1.fpOk hle (I1.hok.fresh hle)
end L3

/-! f(*t), f a local name that holds a def; the walk of enumerate(t) -/
namespace L3
open PySem PySem.Spec PyProof.Rows L2 StX
/-- the def at f keeps the promise sp -/
structure Does (P : Program) (w : World) (K : PySem.W.Frag) (mg : Str → Option Value) (base : Heap) (k : Nat) (f : Addr) (sp : Sp) : Prop where
  fn : FnR P w K mg base CX0 k f sp
  kp : PySem.W.keepIn K (.ref f) = true
def tCallLS (P : Program) (w : World) (K : PySem.W.Frag) (mg : Str → Option Value) (base : Heap) (k i : Nat) (te : TE) : TE := fun σ H Q => ∃ f sp, σ[i]? = some (some (.ref f)) ∧ Does P w K mg base k f sp ∧ te σ H fun y H1 => ∃ a xs, y = V.ref a ∧ (SqT K H1 a xs ∨ SqL K H1 a xs) ∧ sp xs H1 Q E0
theorem pe_callLS {X : Cx} {k i : Nat} {x : Str} {p pos sp_ : Pos} {e : Expr} {te : TE} (hr : Room k X.A) (hN : X.N[i]? = some x) (hv : Vis X.env.scope x) (he : PE X e te)
    (hdb : (x == ("__debug__" : Str)) = false := by decide) (hcd : (x == ("__classdict__" : Str)) = false := by decide) (hst : starEach [.Starred e sp_] X.env = [(true, eval e X.env)] := by rfl) :
    PE X (.Call (.Name x p) [.Starred e sp_] [] pos) (tCallLS X.prog X.w X.K X.mg X.base k i te) := by
  refine ⟨fun pins s σ H Q I h => ?_⟩
  obtain ⟨f, sp, hs, D, ht⟩ := h
  refine wpAny_Call_Name_kw (thn ((pe_var (pos := p) hN hv hdb hcd).run pins s σ H (fun v H1 => v = .ref f ∧ H1 = H) I ⟨.ref f, hs, rfl, rfl⟩) fun u s1 ⟨v, H1, I1, r1, q1⟩ => ?_)
  obtain ⟨rfl, rfl⟩ := q1
  cases r1
  refine PySem.W.callWith_S (h₀ := X.base) I.ok.mod.kin D.kp (thn (he.run pins s1 σ _ _ I1 ht) fun v s2 ⟨y, H2, I2, ry, a, xs, ey, hxs, q⟩ => ?_) hst
  subst ey
  obtain rfl : v = Value.ref a := ry
  exact star_any I2 hxs fun us s3 I3 rv => ⟨I3.kIn, wpAny_call (run_fnR D.fn hr pass0 I3 rv q)⟩
theorem walk_enumT {K : PySem.W.Frag} {a : Addr} {xs : List V} : Walk (Iet K a) xs.length (fun H => SqT K H a xs) (YPair (fun i => some (.int (i : Nat))) (fun i => xs[i]?)) := by
  refine ⟨fun i _ hi q => ⟨xs, xs[i], q, by simp [hi]⟩, fun _ q => ⟨xs, q, rfl⟩, fun i H v H' _ q y => ?_⟩
  obtain ⟨T, x, h1, h2, h3, h4⟩ := y
  exact ⟨T, .int (i : Nat), x, h1, h2, h3, rfl, h4 xs q⟩
end L3

/-! a tuple of anything beside the empty one -/
namespace L3
open PySem PySem.Spec PyProof.Rows L2
open PySem.SeqAt
def rNeNil : R2 := fun x y H Q => ∃ (a b : Addr) (xs : List V), x = .ref a ∧ y = .ref b ∧ H a = some (.tup xs) ∧ H b = some (.tup []) ∧ Q (.bl (!xs.isEmpty)) H
theorem op_neNil {X : Cx} (hu : X.A.units + 64 < cLine) : OpR X (compareOp .NotEq) rNeNil := by
  intro pins s σ H x y v u Q I rx ry h
  obtain ⟨a, b, xs, rfl, rfl, ha, hb, q⟩ := h
  obtain rfl : v = Value.ref a := rx
  obtain rfl : u = Value.ref b := ry
  obtain ⟨its, rv, ⟨o, ho, hc, n, hd⟩, _⟩ := I.tuple (SqT.of ha)
  obtain ⟨its2, rv2, ⟨o2, ho2, hc2, n2, hd2⟩, _⟩ := I.tuple (SqT.of hb)
  cases rv2
  have hl := rv.length
  refine RcNeAt.tuples (e := fun _ => true) ⟨o, ho, hc, n, hd⟩ ⟨o2, ho2, hc2, n2, hd2⟩ (by omega) (fun j h1 h2 => absurd h2 (by simp)) _ _ _ _ ?_
  refine ⟨.bl (!xs.isEmpty), H, I, ?_, q⟩
  cases rv with
  | nil => rfl
  | cons _ _ =>
    show Value.bool _ = Value.bool _
    simp
end L3

/-! slices of tuples, put together; list(t) -/
namespace L3
open PySem L2
theorem catA_ok {K : PySem.W.Frag} {H : Hp} {Q : VK} {a b : Addr} {xs ys : List V} (ha : H a = some (.tup xs)) (hb : H b = some (.tup ys)) (hz : xs.length + ys.length ≤ 900000) (k : ∀ H' q, Same H H' → H' q = some (.tup (xs ++ ys)) → Q (.ref q) H') : rCatA K (.ref a) (.ref b) H Q := by
  refine ⟨a, b, xs, ys, rfl, rfl, SqT.of ha, SqT.of hb, Nat.le_of_lt (szl (by omega)), fun e => ?_, fun _ e => ?_, fun _ _ p hp => k _ p (same_new hp) upd_same⟩
  · subst e
    exact k H b (Same.refl H) hb
  · subst e
    exact k H a (Same.refl H) (by rw [List.append_nil]; exact ha)
theorem slA_ok {K : PySem.W.Frag} {H : Hp} {Q : VK} {a : Addr} {xs : List V} {lo hi : Option Int} (ha : H a = some (.tup xs)) (k : ∀ H' q, Same H H' → H' q = some (.tup (cutV xs lo hi)) → Q (.ref q) H') : rSlA K (.ref a) lo hi H Q := by
  refine ⟨a, xs, rfl, SqT.of ha, fun e => k H a (Same.refl H) ?_, fun _ p hp => k _ p (same_new hp) upd_same⟩
  have : cutV xs lo hi = xs := by
    unfold cutV
    rw [e.1, e.2, List.drop_zero, Nat.sub_zero, List.take_length]
  rw [this]
  exact ha
theorem cut_front (l : List V) (x : V) (r : List V) : cutV (l ++ x :: r) none (some (l.length : Int)) = l := by
  unfold cutV
  rw [HT.sIx_none, HT.sIx_nat, List.length_append, List.length_cons, Nat.min_eq_left (by omega), List.drop_zero, Nat.sub_zero, List.take_left']
  rfl
theorem cut_back (l : List V) (x : V) (r : List V) : cutV (l ++ x :: r) (some ((l.length : Int) + 1)) none = r := by
  unfold cutV
  rw [show (l.length : Int) + 1 = ((l.length + 1 : Nat) : Int) by omega, HT.sIx_none, HT.sIx_nat, List.length_append, List.length_cons, Nat.min_eq_left (by omega)]
  have e : (l ++ x :: r).drop (l.length + 1) = r := by
    rw [← List.drop_drop, List.drop_left]
    rfl
  rw [e, List.take_of_length_le (by omega)]
theorem daAll_split {t : Addr} {H : Hp} : ∀ {ds : List PyData} {vs : List V} (i : Nat), i < vs.length → DaAll t H vs ds → ∃ l x r dl dx dr, vs = l ++ x :: r ∧ ds = dl ++ dx :: dr ∧ l.length = i ∧ DaAll t H l dl ∧ Da t H x dx ∧ DaAll t H r dr
  | [], _, i, hi, h => by cases h; cases hi
  | d :: ds, _, 0, hi, h => by
    cases h with
    | @cons v vs _ _ h1 h2 => exact ⟨[], v, vs, [], d, ds, rfl, rfl, rfl, .nil, h1, h2⟩
  | d :: ds, _, i + 1, hi, h => by
    cases h with
    | @cons v vs _ _ h1 h2 =>
      obtain ⟨l, x, r, dl, dx, dr, e1, e2, e3, g1, g2, g3⟩ := daAll_split i (by simpa using hi) h2
      exact ⟨v :: l, x, r, d :: dl, dx, dr, by rw [e1]; rfl, by rw [e2]; rfl, by rw [List.length_cons, e3], .cons h1 g1, g2, g3⟩
theorem depthAll_app : ∀ (a b : List PyData), PyData.depthAll (a ++ b) = max (PyData.depthAll a) (PyData.depthAll b)
  | [], b => by simp [PyData.depthAll]
  | d :: a, b => by simp only [List.cons_append, PyData.depthAll, depthAll_app a b]; omega
theorem call_listN {X : Cx} : CallR X (.type "list") (fun xs H Q => ∃ p ys, xs = [.ref p] ∧ SqT X.K H p ys ∧ ∀ l, H l = none → l ≠ sysModules → Q (.ref l) (upd H l (.lst ys))) := by
  intro pins s σ H xs us Q I r ⟨p, ys, e, hq, q⟩
  subst e
  obtain ⟨u, rfl, rx⟩ := vals1 r
  cases rx
  obtain ⟨its, rv, pl, hz⟩ := I.tuple hq
  have hn := rv.length
  obtain ⟨o, ho, hc, n, hd⟩ := pl
  refine call_list_seq p (.inr rfl) ho hc hd (fun h' c' kp e => ?_) (by simp only [List.size_toArray] <;> omega)
  exact ⟨.ref _, _, I.laid (t' := s.toks) kp (Nat.le_refl _) (show ObjOk X.prog X.w _ h' _ (.lst ys) from ⟨hz, its, c', rv, e⟩), rfl, q _ (I.hok.fresh (Nat.le_refl _)) (Nat.ne_of_gt I.big)⟩
end L3

namespace L3
open PySem L2 StX
theorem cut_last (ws : List Str) (last : Str) : cutV (ws.map V.str ++ [.str last]) none (some (-1)) = ws.map V.str := by
  have h := cut_front (ws.map V.str) (.str last) []
  have e : HT.sIx (ws.map V.str ++ [V.str last]).length (ws.map V.str ++ [V.str last]).length (some (-1)) = HT.sIx (ws.map V.str ++ [V.str last]).length (ws.map V.str ++ [V.str last]).length (some ((ws.map V.str).length : Int)) := by
    rw [HT.sIx_nat]
    simp [HT.sIx]
    try omega
  unfold cutV at h ⊢
  rw [e]
  exact h
theorem not_whole (ws : List Str) (last : Str) : ¬ (HT.sIx (ws.map V.str ++ [V.str last]).length 0 none = 0 ∧ HT.sIx (ws.map V.str ++ [V.str last]).length (ws.map V.str ++ [V.str last]).length (some (-1)) = (ws.map V.str ++ [V.str last]).length) := by
  rintro ⟨_, h⟩
  revert h
  simp [HT.sIx]
  try omega
section
variable {P : Program} {w : World} {K : PySem.W.Frag} {mg : Str → Option Value} {base : Heap} {kA aA : Addr} {es es2 : Array DictEntry} {nb nb2 : Nat}
abbrev s_Primitives_done : Stmt := inS (topS 13) 2
abbrev N_Primitives_done : List Str := ["name", "values", "words", "index", "value", "action", "contents"]
theorem sc_Primitives_done : FnScope N_Primitives_done ["name", "values"] (defScope s_Primitives_done) := ⟨rfl, rfl, rfl, by decide +kernel, rfl, by decide +kernel, by decide +kernel⟩
/-- what done is asked: the kinds of the name, right values, the action's own promise -/
def spDone (P : Program) (w : World) (K : PySem.W.Frag) (mg : Str → Option Value) (base : Heap) (kA aA : Addr) : Sp := fun vs H Q _ => ∃ (x last : Str) (p wa f : Addr) (ws : List Str) (ps : List Addr) (cs : List V) (sp : Sp),
  vs = [.str x, .ref p] ∧ x ∈ nmL ∧ H p = some (.tup (ps.map V.ref)) ∧ KDct K w kA x (.ref wa) ∧ (∀ H', SqT K H' wa (ws.map V.str ++ [.str last])) ∧ ps.length = ws.length ∧ cs.length = ws.length ∧ ws.length ≤ 1000 ∧
  (∀ (i : Nat) (a : Addr) (wd : Str) (v : V), ps[i]? = some a → ws[i]? = some wd → cs[i]? = some v → Pl H a wd v) ∧ KDct K w aA x (.ref f) ∧ Does P w K mg base 3 f sp ∧ ∀ H', Same H H' → sp cs H' Q E0
theorem ok_done {f : Addr} {fd : FuncData} (F : Fun K "done" "Primitives.done" s_Primitives_done f fd) (B : Bl mg) (M : Mk K w mg kA es nb aA es2 nb2) (D_check_primitive : Kn P w K mg base 1 "check_primitive" ["name"] spCheck)
    (D_is_plain : Kn P w K mg base 3 "is_plain" ["value", "word"] spPlain) : FnR P w K mg base CX0 4 f (spStar 1 (spDone P w K mg base kA aA)) := by
  refine fn_starK (ps := ["name"]) F sc_Primitives_done (fun _ _ _ _ _ _ us rest hl => match us, rest, hl with | [_], [], _ => rfl | [_], _ :: _, _ => rfl) (fun cdv A outer s H vs Q E hr h => ?_)
  obtain ⟨x, last, p, wa, f, ws, ps, cs, sp, rfl, hx, hp, hk, hw, l1, l2, l3, hpl, ha, hD, k⟩ := h
  have hr_check_primitive : Room 1 _ := hr.mono (by decide)
  have hr_is_plain : Room 3 _ := hr
  have hr_act : Room 3 _ := hr
  refine ⟨_, (pss_cons (ps_expr (pe_kn D_check_primitive hr_check_primitive (pa_cons (pv 0) pa_nil)))
  (pss_cons (ps_set (i := 2) sc_Primitives_done.nd rfl (Or.inl rfl) (pe_slice sl_tupA (pe_ix ix_kdict (pe_gc (by rfl) M.KINDS) (pv 0) (fun _ _ => rfl)) po_none (po_some (pe_un un_neg pe_int))))
  (pss_cons (ps_for PassesOwn.never rfl (pi_enumT (by rfl) M.enum (pa_cons (pv 1) pa_nil)) (pg_tup (by rfl) (pgs_cons (pg_name (i := 3) sc_Primitives_done.nd rfl (Or.inl rfl)) (pgs_cons (pg_name (i := 4) sc_Primitives_done.nd rfl (Or.inl rfl)) pgs_nil)))
  (pss_one (ps_if (PW.pt (pw_or (pt_cmpR op_ge (pv 3) (pe_callB call_len (by rfl) B.len PySem.boot_len (pa_cons (pv 2) pa_nil)) (nomark _)) (pw_or1 (pt_not (pt_val (pe_kn D_is_plain hr_is_plain (pa_cons (pv 4) (pa_cons (pe_ix ix_tup (pv 2) (pv 3) (fun _ _ => rfl)) pa_nil))))))))
  (pss_one ps_never)
  pss_nil)))
  (pss_cons (ps_if (pt_cmpR op_lt (pe_callB call_len (by rfl) B.len PySem.boot_len (pa_cons (pv 1) pa_nil)) (pe_callB call_len (by rfl) B.len PySem.boot_len (pa_cons (pv 2) pa_nil)) (nomark _))
  (pss_one ps_never)
  pss_nil)
  (pss_cons (ps_set (i := 5) sc_Primitives_done.nd rfl (Or.inl rfl) (pe_ix ix_kdict (pe_gc (by rfl) M.ACTIONS) (pv 0) (fun _ _ => rfl)))
  (pss_cons (ps_setLc (i := 6) (own := [("value", 4)]) rfl sc_Primitives_done.nd rfl rfl (sw_true rfl rfl rfl (by decide +kernel)) (pi_tup (pv 1)) (blkOk_by (N := N_Primitives_done) (sc := (defScope s_Primitives_done)) (own := [("value", 4)]) (by decide +kernel)) (fun _ _ _ _ _ => (pg_name (i := 4) sc_Primitives_done.nd rfl (Or.inl rfl))) (fun _ _ _ _ _ => pts_nil) (fun _ _ _ _ _ => (pe_ix (show IxR _ (rIxT K) from ix_tup) (pv 4) pe_int (fun _ _ => rfl))))
  (pss_one (ps_ret (pe_callLS (i := 5) hr_act (by rfl) (by first | exact Or.inl rfl | exact Or.inr (Or.inl rfl)) (pv 6)))))))))), ?_⟩
  refine ⟨_, rfl, x, rfl, hx, ?_⟩
  refine ⟨_, rfl, kA, x, _, rfl, rfl, hk, ?_⟩
  refine ⟨_, rfl, _, rfl, wa, _, rfl, hw H, fun e => absurd e (not_whole ws last), fun _ q hq => ?_⟩
  rw [cut_last]
  have s1 : Same H (upd H q (.tup (ws.map V.str))) := same_new hq
  generalize hH1 : upd H q (.tup (ws.map V.str)) = H1 at s1 ⊢
  have gq : H1 q = some (.tup (ws.map V.str)) := by rw [← hH1, upd_same]
  refine ⟨_, rfl, p, _, rfl, SqT.of (s1 _ _ hp), for_it walk_enumT (fun i σ H' => Same H1 H' ∧ ∃ v3 v4, σ = [some (.str x), some (.ref p), some (.ref q), v3, v4, none, none]) ⟨Same.refl _, _, _, rfl⟩ (fun i σ H' _ h => SqT.of (h.1 _ _ (s1 _ _ hp))) ?_ ?_⟩
  · rintro i v σ H2 H3 hi ⟨s2, v3, v4, rfl⟩ ⟨T, y, z, rfl, hT, rfl, ey, ez⟩
    rw [List.length_map] at hi
    have ey : y = .int (i : Int) := (Option.some.inj ey).symm
    subst ey
    obtain ⟨a, ea, rfl⟩ : ∃ a, ps[i]? = some a ∧ z = V.ref a := by
      replace ez : (ps.map V.ref)[i]? = some z := ez
      rw [List.getElem?_map] at ez
      cases e : ps[i]? with
      | none => rw [e] at ez; cases ez
      | some a => rw [e] at ez; exact ⟨a, rfl, (Option.some.inj ez).symm⟩
    have hiw : i < ws.length := by omega
    have ew : ws[i]? = some ws[i] := List.getElem?_eq_getElem hiw
    have ec : cs[i]? = some (cs[i]'(by omega)) := List.getElem?_eq_getElem (by omega)
    have pl := hpl i a _ _ ea ew ec
    have s3 : Same H1 (upd H2 T (.tup [.int (i : Int), .ref a])) := s2.trans (same_new hT)
    have gq3 := s3 _ _ gq
    refine ⟨T, _, rfl, SqT.of upd_same, rfl, _, _, rfl, _, _, rfl, rfl, ?_⟩
    refine ⟨_, rfl, _, rfl, .ref q, ws.length, rfl, .inr ⟨_, SqT.of gq3, by rw [List.length_map]⟩, _, _, rfl, rfl, _, rfl, ?_⟩
    refine iF (decide_eq_false (by omega)) ?_
    refine ⟨_, rfl, _, rfl, _, rfl, q, _, i, _, rfl, rfl, SqT.of gq3, (at_of rfl (by rw [List.getElem?_map, ew]; rfl)), a, ws[i], _, rfl, ⟨s3 _ _ (s1 _ _ pl.1), pl.2⟩, fun H' s' => ?_⟩
    refine ⟨_, rfl, ?_⟩
    refine iF rfl ?_
    exact ⟨s3.trans s', _, _, rfl⟩
  · rintro σ H2 ⟨s2, v3, v4, rfl⟩
    have gp := s2 _ _ (s1 _ _ hp)
    have gq2 := s2 _ _ gq
    refine ⟨_, rfl, .ref p, ps.length, rfl, .inr ⟨_, SqT.of gp, by rw [List.length_map]⟩, _, rfl, .ref q, ws.length, rfl, .inr ⟨_, SqT.of gq2, by rw [List.length_map]⟩, _, _, rfl, rfl, _, rfl, ?_⟩
    refine iF (decide_eq_false (by omega)) ?_
    refine ⟨_, rfl, aA, x, _, rfl, rfl, ha, ?_⟩
    refine ⟨_, rfl, p, rfl, ⟨_, SqT.of gp⟩, fun D hD2 => lc_it walk_tup (fun i H' => Same H2 H' ∧ H' D = some (.lst (cs.take i))) ⟨same_new hD2, upd_same⟩ (fun i H' _ h => SqT.of (h.1 _ _ gp)) ?_ ?_⟩
    · rintro i y H3 H4 hi ⟨s3, g3⟩ ⟨rfl, ey⟩
      rw [List.length_map] at hi
      obtain ⟨a, ea, rfl⟩ : ∃ a, ps[i]? = some a ∧ y = V.ref a := by
        rw [List.getElem?_map] at ey
        cases e : ps[i]? with
        | none => rw [e] at ey; cases ey
        | some a => rw [e] at ey; exact ⟨a, rfl, (Option.some.inj ey).symm⟩
      have hiw : i < ws.length := by omega
      have ew : ws[i]? = some ws[i] := List.getElem?_eq_getElem hiw
      have ec : cs[i]? = some (cs[i]'(by omega)) := List.getElem?_eq_getElem (by omega)
      have pl := hpl i a _ _ ea ew ec
      refine ⟨rfl, ?_⟩
      refine ⟨_, rfl, a, _, 1, _, rfl, rfl, SqT.of (s3 _ _ (s2 _ _ (s1 _ _ pl.1))), rfl, _, g3, szl (by simp; omega), fun b o e => ?_, ?_⟩
      · rw [upd_ne (ne_of_none e hD2)]
        exact s3 _ _ e
      · rw [upd_same, List.take_add_one, ec]
        rfl
    · rintro H3 ⟨s3, g3⟩
      rw [List.take_of_length_le (by simp; omega)] at g3
      exact ⟨f, sp, rfl, hD, _, rfl, D, cs, rfl, .inr (SqL.of g3), k H3 (s1.trans (s2.trans s3))⟩
end
end L3

/-! a static method of a class of the module, called through the class -/
namespace L3
open PySem PySem.Spec PyProof.Rows L2
/-- m of the class at C is a static method around the def at f -/
structure SmK (K : PySem.W.Frag) (C : Addr) (m : Str) (f : Addr) : Prop where
  get : PySem.W.specialIn K (.ref C) "__getattribute__" = some (some (.builtin "type.__getattribute__"))
  rd : ∃ mc, PySem.W.readsIn K C mc = true ∧ ∃ p, PySem.W.findCls K (.ref C) mc m = some (.get (.builtin "staticmethod.__get__") (.ref p) .none (.ref C)) ∧ ∃ rest, PySem.W.recIn K p "staticmethod" = some (.ref f :: rest)
  hand : PySem.W.handedIn (.ref f) = true
  kp : PySem.W.keepIn K (.ref f) = true
section
variable {X : Cx} {x m : Str} {k : Nat} {sp : Sp} {C f : Addr} {e : Expr} {es : List Expr} {t : TA} {p apos pos : Pos} {pl : Sem Bool}
theorem pe_sm (hm : X.mg x = some (.ref C)) (S : SmK X.K C m f) (F : FnR X.prog X.w X.K X.mg X.base CX0 k f sp) (hr : Room k X.A) (ha : PA X (e :: es) t) (hg : Gl X x := by rfl) (hdb : (x == ("__debug__" : Str)) = false := by decide)
    (hst : starEach (e :: es) X.env = (false, eval e X.env) :: starEach es X.env := by rfl) (hpl : (backTo pos (starEach es X.env)).any (·.1) = false := by rfl)
    (ht : eval (.Call (.Attribute (.Name x p) m apos) (e :: es) [] pos) X.env = (do
      let ov ← eval (.Name x p) X.env
      standAt apos.atName
      let (f, first) ← holding [ov] (getMethod ov m pl)
      callWith pos f first (backTo pos (starEach (e :: es) X.env)) (backToKw pos (keywordEach [] X.env))) := by rfl) :
    PE X (.Call (.Attribute (.Name x p) m apos) (e :: es) [] pos) (tCallR sp t) := by
  obtain ⟨mc, rd, q, fc, rest, rc⟩ := S.rd
  refine ⟨fun pins s σ H Q I h => ?_⟩
  refine PySem.W.methodCall_KW (pl := pl) (ld_glob I hg hm ?_ hdb) ht
  refine PySem.W.method_cls I.kIn S.get ?_
  refine PySem.W.cls_bind I.kIn rd fc (wpAny_call (PySem.W.sm_get I.kIn rc (PySem.W.handed_on S.hand ?_)))
  have I' := I.tok (s.toks + 1)
  refine PySem.W.callWith_K (first := []) (h₀ := X.base) I.ok.mod.kin S.kp (thn (ha.run pos pins _ σ H _ I' h) fun us s2 ⟨vs, H2, I2, r, q2⟩ => ⟨I2.kIn, ?_⟩) hst hpl
  exact wpAny_call (run_fnR F hr pass0 I2 r q2)
end
end L3

namespace L3
open PySem L2 StX
/-- the kinds of a name stand in KINDS -/
def KW (K : PySem.W.Frag) (w : World) (kA : Addr) (x : Str) (ws : List Str) (last : Str) : Prop := ∃ wa, KDct K w kA x (.ref wa) ∧ ∀ H', SqT K H' wa (ws.map V.str ++ [.str last])
/-- its action stands in ACTIONS and keeps its promise -/
def AW (P : Program) (w : World) (K : PySem.W.Frag) (mg : Str → Option Value) (base : Heap) (aA : Addr) (x : Str) (sp : Sp) : Prop := ∃ f, KDct K w aA x (.ref f) ∧ Does P w K mg base 3 f sp
section
variable {P : Program} {w : World} {K : PySem.W.Frag} {mg : Str → Option Value} {base : Heap} {kA aA : Addr}
theorem done_two {x k1 k2 last : Str} {sp : Sp} {H : Hp} {Q : VK} {a b : Addr} {u v : V} (kw : KW K w kA x [k1, k2] last) (aw : AW P w K mg base aA x sp) (hx : x ∈ nmL) (pa : Pl H a k1 u) (pb : Pl H b k2 v)
    (h : ∀ H', Same H H' → sp [u, v] H' Q E0) : spStar 1 (spDone P w K mg base kA aA) [.str x, .ref a, .ref b] H Q E0 := by
  obtain ⟨wa, h1, h2⟩ := kw
  obtain ⟨f, h3, h4⟩ := aw
  refine ⟨[.str x], [.ref a, .ref b], rfl, rfl, slz rfl, fun p hp => ?_⟩
  have s1 : Same H (upd H p (.tup [.ref a, .ref b])) := same_new hp
  refine ⟨x, last, p, wa, f, [k1, k2], [a, b], [u, v], sp, rfl, hx, upd_same, h1, h2, rfl, rfl, Nat.le_of_ble_eq_true rfl, ?_, h3, h4, fun H' s' => h H' (s1.trans s')⟩
  intro i a' wd v' e1 e2 e3
  match i, e1, e2, e3 with
  | 0, e1, e2, e3 => cases e1; cases e2; cases e3; exact ⟨s1 _ _ pa.1, pa.2⟩
  | 1, e1, e2, e3 => cases e1; cases e2; cases e3; exact ⟨s1 _ _ pb.1, pb.2⟩
  | _ + 2, e1, _, _ => cases e1
theorem done_one {x k1 last : Str} {sp : Sp} {H : Hp} {Q : VK} {a : Addr} {u : V} (kw : KW K w kA x [k1] last) (aw : AW P w K mg base aA x sp) (hx : x ∈ nmL) (pa : Pl H a k1 u)
    (h : ∀ H', Same H H' → sp [u] H' Q E0) : spStar 1 (spDone P w K mg base kA aA) [.str x, .ref a] H Q E0 := by
  obtain ⟨wa, h1, h2⟩ := kw
  obtain ⟨f, h3, h4⟩ := aw
  refine ⟨[.str x], [.ref a], rfl, rfl, slz rfl, fun p hp => ?_⟩
  have s1 : Same H (upd H p (.tup [.ref a])) := same_new hp
  refine ⟨x, last, p, wa, f, [k1], [a], [u], sp, rfl, hx, upd_same, h1, h2, rfl, rfl, Nat.le_of_ble_eq_true rfl, ?_, h3, h4, fun H' s' => h H' (s1.trans s')⟩
  intro i a' wd v' e1 e2 e3
  match i, e1, e2, e3 with
  | 0, e1, e2, e3 => cases e1; cases e2; cases e3; exact ⟨s1 _ _ pa.1, pa.2⟩
  | _ + 1, e1, _, _ => cases e1
/-- what stands at the answer r -/
def Ans (H : Hp) (r : Addr) (v : V) : Prop := H r = some (.tup [.str "whole", v]) ∨ ∃ (b : Bool) (e : Addr), v = .bl b ∧ H r = some (.tup [.str "made", .str (if b then "yes" else "no"), .ref e])
abbrev s__law_done : Stmt := topS 31
abbrev N__law_done : List Str := ["_law_which", "_law_one", "_law_other", "_law_found"]
theorem sc__law_done : FnScope N__law_done ["_law_which", "_law_one", "_law_other"] (defScope s__law_done) := ⟨rfl, rfl, rfl, by decide +kernel, rfl, by decide +kernel, by decide +kernel⟩
def spLDone (P : Program) (w : World) (K : PySem.W.Frag) (mg : Str → Option Value) (base : Heap) (kA aA : Addr) : Sp := fun vs H Q _ => ∃ (x : Str) (a b : Addr) (v : V), vs = [.str x, .ref a, .ref b] ∧
  (∀ Q' : VK, (∀ H' r, Same H H' → Ans H' r v → Q' (.ref r) H') → spStar 1 (spDone P w K mg base kA aA) [.str x, .ref a, .ref b] H Q' E0) ∧ ∀ H', Same H H' → Q v H'
theorem ok_ldone {f d C : Addr} {fd : FuncData} (F : Fun K "_law_done" "_law_done" s__law_done f fd) (hC : mg "Primitives" = some (.ref C)) (SM : SmK K C "done" d) (D_done : FnR P w K mg base CX0 4 d (spStar 1 (spDone P w K mg base kA aA))) : FnOk P w K mg base CX0 5 f fd ["_law_which", "_law_one", "_law_other"] (spLDone P w K mg base kA aA) := by
  refine F.ok sc__law_done (fun vs H Q E h => ?_) (fun cdv A outer s H vs Q E hr h => ?_)
  · obtain ⟨x, a, b, v, rfl, _⟩ := h
    rfl
  · obtain ⟨x, a, b, v, rfl, hd, k⟩ := h
    have hr_done : Room 4 _ := hr
    refine ⟨_, (pss_cons (ps_set (i := 3) sc__law_done.nd rfl (Or.inl rfl) (pe_sm hC SM D_done hr_done (pa_cons (pv 0) (pa_cons (pv 1) (pa_cons (pv 2) pa_nil)))))
  (pss_one (ps_ret (pe_ifExp (pt_cmpR op_eq (pe_ix ix_tup (pv 3) pe_int (fun _ _ => rfl)) pe_str (nomark _)) (pe_cmpR op_eq (pe_ix ix_tup (pv 3) pe_int (fun _ _ => rfl)) pe_str (nomark _)) (pe_ix ix_tup (pv 3) pe_int (fun _ _ => rfl)))))), ?_⟩
    refine ⟨_, rfl, _, rfl, _, rfl, hd _ fun H' r s1 an => ?_⟩
    rcases an with g | ⟨c, e, rfl, g⟩
    · refine ⟨_, rfl, r, _, 0, _, rfl, rfl, SqT.of g, rfl, ?_⟩
      refine ⟨rfl, _, rfl, ?_⟩
      refine iF (by decide) ?_
      exact ⟨_, rfl, r, _, 1, _, rfl, rfl, SqT.of g, rfl, k _ s1⟩
    · refine ⟨_, rfl, r, _, 0, _, rfl, rfl, SqT.of g, rfl, ?_⟩
      refine ⟨rfl, _, rfl, ?_⟩
      refine iT (by decide) ?_
      refine ⟨_, rfl, r, _, 1, _, rfl, rfl, SqT.of g, rfl, ?_⟩
      refine ⟨rfl, ?_⟩
      have k2 := k _ s1
      cases c with
      | true => exact k2
      | false => exact k2
end
end L3

namespace L3
open PySem L2 StX
/-- the ten names: their kinds and actions -/
structure Ac (P : Program) (w : World) (K : PySem.W.Frag) (mg : Str → Option Value) (base : Heap) (kA aA : Addr) : Prop where
  kPlus : KW K w kA "plus" ["whole", "whole"] "whole"
  aPlus : AW P w K mg base aA "plus" spAdd
  kMinus : KW K w kA "minus" ["whole", "whole"] "whole"
  aMinus : AW P w K mg base aA "minus" spLess
  kTimes : KW K w kA "times" ["whole", "whole"] "whole"
  aTimes : AW P w K mg base aA "times" spMul
  kEqual : KW K w kA "equal" ["whole", "whole"] "truth"
  aEqual : AW P w K mg base aA "equal" spEqual
  kUpto : KW K w kA "upto" ["whole", "whole"] "truth"
  aUpto : AW P w K mg base aA "upto" spRow
  kJoin : KW K w kA "join" ["text", "text"] "text"
  aJoin : AW P w K mg base aA "join" spPut
  kSize : KW K w kA "size" ["text"] "whole"
  aSize : AW P w K mg base aA "size" spLen
  kEqtext : KW K w kA "eqtext" ["text", "text"] "truth"
  aEqtext : AW P w K mg base aA "eqtext" spEqual
  kUptotext : KW K w kA "uptotext" ["text", "text"] "truth"
  aUptotext : AW P w K mg base aA "uptotext" spRow
  kSpell : KW K w kA "spell" ["whole"] "text"
  aSpell : AW P w K mg base aA "spell" spSpell
section
variable {P : Program} {w : World} {K : PySem.W.Frag} {mg : Str → Option Value} {base : Heap} {kA aA : Addr} {H : Hp} {Q : VK} {a b : Addr}
theorem Pl.wh {i : Int} (g : H a = some (.tup [.str "whole", .int i])) (h1 : -(10 ^ 30) ≤ i) (h2 : i ≤ 10 ^ 30) : Pl H a "whole" (.int i) := ⟨g, .inl ⟨rfl, i, rfl, h1, h2⟩⟩
theorem Pl.tx {x : Str} (g : H a = some (.tup [.str "text", .str x])) (h : isTextD (.str x) = true) : Pl H a "text" (.str x) := ⟨g, .inr ⟨rfl, x, rfl, h⟩⟩
theorem small100 {i : Int} (h1 : -(10 ^ 30) ≤ i) (h2 : i ≤ 10 ^ 30) : i.natAbs < 2 ^ 100 := by
  have e : (2:Nat) ^ 100 = 1267650600228229401496703205376 := by decide
  have e2 : (10 : Int) ^ 30 = 1000000000000000000000000000000 := by decide
  rw [e2] at h1 h2
  rw [e]
  omega
theorem ld_plus (A : Ac P w K mg base kA aA) {i j : Int} (pa : Pl H a "whole" (.int i)) (pb : Pl H b "whole" (.int j)) (k : ∀ H', Same H H' → Q (.int (clp (i + j))) H') : spLDone P w K mg base kA aA [.str "plus", .ref a, .ref b] H Q E0 :=
  ⟨_, a, b, _, rfl, fun Q' h => done_two A.kPlus A.aPlus (by decide) pa pb fun H' s' => ⟨i, j, rfl, fun r hr => h _ r (s'.trans (same_new hr)) (.inl upd_same)⟩, k⟩
theorem ld_minus (A : Ac P w K mg base kA aA) {i j : Int} (pa : Pl H a "whole" (.int i)) (pb : Pl H b "whole" (.int j)) (k : ∀ H', Same H H' → Q (.int (clp (i - j))) H') : spLDone P w K mg base kA aA [.str "minus", .ref a, .ref b] H Q E0 :=
  ⟨_, a, b, _, rfl, fun Q' h => done_two A.kMinus A.aMinus (by decide) pa pb fun H' s' => ⟨i, j, rfl, fun r hr => h _ r (s'.trans (same_new hr)) (.inl upd_same)⟩, k⟩
theorem wb {H : Hp} {a : Addr} {i : Int} (p : Pl H a "whole" (.int i)) : -(10 ^ 30) ≤ i ∧ i ≤ 10 ^ 30 := by
  rcases p.2 with ⟨_, j, e, h1, h2⟩ | ⟨e, _⟩
  · cases e; exact ⟨h1, h2⟩
  · exact absurd e (by decide)
theorem ld_times (A : Ac P w K mg base kA aA) {i j : Int} (pa : Pl H a "whole" (.int i)) (pb : Pl H b "whole" (.int j)) (k : ∀ H', Same H H' → Q (.int (clp (i * j))) H') : spLDone P w K mg base kA aA [.str "times", .ref a, .ref b] H Q E0 :=
  ⟨_, a, b, _, rfl, fun Q' h => done_two A.kTimes A.aTimes (by decide) pa pb fun H' s' => ⟨i, j, rfl, (small100 (wb pa).1 (wb pa).2), (small100 (wb pb).1 (wb pb).2), fun r hr => h _ r (s'.trans (same_new hr)) (.inl upd_same)⟩, k⟩
theorem ld_equal (A : Ac P w K mg base kA aA) {i j : Int} (pa : Pl H a "whole" (.int i)) (pb : Pl H b "whole" (.int j)) (k : ∀ H', Same H H' → Q (.bl (decide (i = j))) H') : spLDone P w K mg base kA aA [.str "equal", .ref a, .ref b] H Q E0 :=
  ⟨_, a, b, _, rfl, fun Q' h => done_two A.kEqual A.aEqual (by decide) pa pb fun H' s' => ⟨_, _, _, rfl, .inl ⟨i, j, rfl, rfl, rfl⟩, fun e r he hr => h _ r (s'.trans ((same_new he).trans (same_new hr))) (.inr ⟨_, e, rfl, upd_same⟩)⟩, k⟩
theorem ld_upto (A : Ac P w K mg base kA aA) {i j : Int} (pa : Pl H a "whole" (.int i)) (pb : Pl H b "whole" (.int j)) (k : ∀ H', Same H H' → Q (.bl (decide (i ≤ j))) H') : spLDone P w K mg base kA aA [.str "upto", .ref a, .ref b] H Q E0 :=
  ⟨_, a, b, _, rfl, fun Q' h => done_two A.kUpto A.aUpto (by decide) pa pb fun H' s' => ⟨_, _, _, rfl, .inl ⟨i, j, rfl, rfl, rfl⟩, fun e r he hr => h _ r (s'.trans ((same_new he).trans (same_new hr))) (.inr ⟨_, e, rfl, upd_same⟩)⟩, k⟩
theorem ld_eqtext (A : Ac P w K mg base kA aA) {i j : Str} (pa : Pl H a "text" (.str i)) (pb : Pl H b "text" (.str j)) (k : ∀ H', Same H H' → Q (.bl (decide (i = j))) H') : spLDone P w K mg base kA aA [.str "eqtext", .ref a, .ref b] H Q E0 :=
  ⟨_, a, b, _, rfl, fun Q' h => done_two A.kEqtext A.aEqtext (by decide) pa pb fun H' s' => ⟨_, _, _, rfl, .inr ⟨i, j, rfl, rfl, rfl⟩, fun e r he hr => h _ r (s'.trans ((same_new he).trans (same_new hr))) (.inr ⟨_, e, rfl, upd_same⟩)⟩, k⟩
theorem ld_uptotext (A : Ac P w K mg base kA aA) {i j : Str} (pa : Pl H a "text" (.str i)) (pb : Pl H b "text" (.str j)) (k : ∀ H', Same H H' → Q (.bl (leS i j)) H') : spLDone P w K mg base kA aA [.str "uptotext", .ref a, .ref b] H Q E0 :=
  ⟨_, a, b, _, rfl, fun Q' h => done_two A.kUptotext A.aUptotext (by decide) pa pb fun H' s' => ⟨_, _, _, rfl, .inr ⟨i, j, rfl, rfl, rfl⟩, fun e r he hr => h _ r (s'.trans ((same_new he).trans (same_new hr))) (.inr ⟨_, e, rfl, upd_same⟩)⟩, k⟩
theorem len_tx {H : Hp} {a : Addr} {x : Str} (p : Pl H a "text" (.str x)) : x.length ≤ 200 := by
  rcases p.2 with ⟨e, _⟩ | ⟨_, y, e, h⟩
  · exact absurd e (by decide)
  · cases e
    have h2 : (decide (x.length ≤ 200) && x.cps.all sgnT) = true := h
    exact of_decide_eq_true (Bool.and_eq_true_iff.mp h2).1
/-- Primitives.done("join", ..), ("size", ..), ("spell", ..) -/
theorem pd_join (A : Ac P w K mg base kA aA) {x y : Str} (pa : Pl H a "text" (.str x)) (pb : Pl H b "text" (.str y)) (k : ∀ H' r, Same H H' → H' r = some (.tup [.str "text", .str (cutS (x ++ y) none (some 200))]) → Q (.ref r) H') : spStar 1 (spDone P w K mg base kA aA) [.str "join", .ref a, .ref b] H Q E0 :=
  done_two A.kJoin A.aJoin (by decide) pa pb fun H' s' => ⟨x, y, rfl, Nat.le_trans (len_tx pa) (by decide), Nat.le_trans (len_tx pb) (by decide), fun r hr => k _ r (s'.trans (same_new hr)) upd_same⟩
theorem pd_size (A : Ac P w K mg base kA aA) {x : Str} (pa : Pl H a "text" (.str x)) (k : ∀ H' r, Same H H' → H' r = some (.tup [.str "whole", .int x.length]) → Q (.ref r) H') : spStar 1 (spDone P w K mg base kA aA) [.str "size", .ref a] H Q E0 :=
  done_one A.kSize A.aSize (by decide) pa fun H' s' => ⟨x, rfl, Nat.le_trans (len_tx pa) (by decide), fun r hr => k _ r (s'.trans (same_new hr)) upd_same⟩
theorem pd_spell (A : Ac P w K mg base kA aA) {i : Int} (pa : Pl H a "whole" (.int i)) (k : ∀ H' r, Same H H' → H' r = some (.tup [.str "text", .str (toString i)]) → Q (.ref r) H') : spStar 1 (spDone P w K mg base kA aA) [.str "spell", .ref a] H Q E0 :=
  done_one A.kSpell A.aSpell (by decide) pa fun H' s' => ⟨i, rfl, Nat.lt_of_lt_of_le (PySem.Flt.log2_lt_of (by decide) (small100 (wb pa).1 (wb pa).2)) (by decide), fun r hr => k _ r (s'.trans (same_new hr)) upd_same⟩
abbrev s__law_whole : Stmt := topS 32
abbrev N__law_whole : List Str := ["_law_number"]
theorem sc__law_whole : FnScope N__law_whole ["_law_number"] (defScope s__law_whole) := ⟨rfl, rfl, rfl, by decide +kernel, rfl, by decide +kernel, by decide +kernel⟩
def spLWhole : Sp := fun vs H Q _ => ∃ i : Int, vs = [.int i] ∧ ∀ a, H a = none → Q (.ref a) (upd H a (.tup [.str "whole", .int i]))
theorem ok_lwhole {f : Addr} {fd : FuncData} (F : Fun K "_law_whole" "_law_whole" s__law_whole f fd) : FnOk P w K mg base CX0 1 f fd ["_law_number"] spLWhole := by
  refine F.ok sc__law_whole (fun vs H Q E h => ?_) (fun cdv A outer s H vs Q E hr h => ?_)
  · obtain ⟨i, rfl, _⟩ := h
    rfl
  · obtain ⟨i, rfl, k⟩ := h
    exact ⟨_, (pss_one (ps_ret (pe_tup (pa_cons pe_str (pa_cons (pv 0) pa_nil))))), _, rfl, slz rfl, k⟩
end
end L3

namespace L3
open PySem L2 StX
def Bd (i : Int) : Prop := -(10 ^ 30) ≤ i ∧ i ≤ 10 ^ 30
theorem clp_bd (n : Int) : Bd (clp n) := by
  unfold Bd clp
  generalize hb : (10 ^ 30 : Int) = b
  have : 0 ≤ b := by rw [← hb]; decide
  omega
section
variable {P : Program} {w : World} {K : PySem.W.Frag} {mg : Str → Option Value} {base : Heap}
abbrev s__law_numbers : Stmt := topS 33
abbrev N__law_numbers : List Str := ["_law_tape", "_law_found", "_law_k", "_law_near"]
theorem sc__law_numbers : FnScope N__law_numbers ["_law_tape"] (defScope s__law_numbers) := ⟨rfl, rfl, rfl, by decide +kernel, rfl, by decide +kernel, by decide +kernel⟩
def spNums (K : PySem.W.Frag) : Sp := fun vs H Q _ => ∃ (t c : Addr) (b : Nat), vs = [.ref t] ∧ Tape K H t c (b + 12) ∧ ∀ (H' : Hp) (r : Addr) (ns : List Int), Ext t H H' → Tape K H' t c b → H' r = some (.lst (ns.map V.int)) → ns.length = 3 → (∀ i ∈ ns, Bd i) → Q (.ref r) H'
theorem ok_nums {f : Addr} {fd : FuncData} (F : Fun K "_law_numbers" "_law_numbers" s__law_numbers f fd) (B : Bl mg) (B9 : Bl9 mg) (M : Mn mg) (D__law_draw : Kn P w K mg base 1 "_law_draw" ["_law_tape", "_law_many"] (spDraw K)) (D__law_pick : Kn P w K mg base 2 "_law_pick" ["_law_tape", "_law_items"] (spPick K)) : FnOk P w K mg base CX0 3 f fd ["_law_tape"] (spNums K) := by
  refine F.ok sc__law_numbers (fun vs H Q E h => ?_) (fun cdv A outer s H vs Q E hr h => ?_)
  · obtain ⟨t, c, b, rfl, _⟩ := h
    rfl
  · obtain ⟨t, c, b, rfl, T0, k⟩ := h
    have hr__law_draw : Room 1 _ := hr.mono (by decide)
    have hr__law_pick : Room 2 _ := hr
    have hu64 := hr.units
    refine ⟨_, (pss_cons (ps_set (i := 1) sc__law_numbers.nd rfl (Or.inl rfl) (pe_lst pa_nil))
  (pss_cons (ps_for PassesOwn.never rfl (pi_range1 (by rfl) B.range (pa_cons pe_int pa_nil)) (pg_name (i := 2) sc__law_numbers.nd rfl (Or.inl rfl))
  (pss_cons (ps_set (i := 3) sc__law_numbers.nd rfl (Or.inl rfl) (pe_kn D__law_pick hr__law_pick (pa_cons (pv 0) (pa_cons (pe_op op_cat (pe_lst (pa_cons pe_int (pa_cons pe_int (pa_cons (pe_op op_pow pe_int pe_int) (pa_cons (pe_un un_neg (pe_op op_pow pe_int pe_int)) (pa_cons (pe_kn D__law_draw hr__law_draw (pa_cons (pv 0) (pa_cons (pe_op op_pow pe_int pe_int) pa_nil))) (pa_cons (pe_op op_sub (pe_kn D__law_draw hr__law_draw (pa_cons (pv 0) (pa_cons pe_int pa_nil))) pe_int) pa_nil))))))) (pv 1)) pa_nil))))
  (pss_one (ps_expr (pe_bm PySem.F.plainAttrs_list PySem.F.slot_list_append PySem.F.type_list_append mt_append (pv 1) (pa_cons (pe_callB (call_max2 rfl) (by rfl) B9.max PyProof.Rows.boot_max (pa_cons (pe_un un_neg (pe_op op_pow pe_int pe_int)) (pa_cons (pe_callB (call_min2 rfl) (by rfl) M.min PyProof.Rows.boot_min (pa_cons (pe_op op_pow pe_int pe_int) (pa_cons (pe_op op_sub (pe_op op_add (pv 3) (pe_kn D__law_draw hr__law_draw (pa_cons (pv 0) (pa_cons pe_int pa_nil)))) pe_int) pa_nil))) pa_nil))) pa_nil))))))
  (pss_one (ps_ret (pv 1))))), ?_⟩
    refine ⟨slz rfl, fun r hr0 => ?_⟩
    have nr : r ≠ t := T0.ne hr0
    refine ⟨_, rfl, by decide, by decide, for_it walk_range (fun m σ H' => Ext t H H' ∧ Tape K H' t c (b + 4 * (3 - m)) ∧ (∃ ns : List Int, H' r = some (.lst (ns.map V.int)) ∧ ns.length = m ∧ ∀ i ∈ ns, Bd i) ∧ ∃ v2 v3, σ = [some (.ref t), some (.ref r), v2, v3]) ⟨Ext.new hr0, T0.new hr0, ⟨[], upd_same, rfl, fun _ z => nomatch z⟩, _, _, rfl⟩ (fun _ _ _ _ _ => trivial) ?_ ?_⟩
    · rintro m v σ H0 H1 hm ⟨e1, t1, ⟨ns, g1, g2, g3⟩, v2, v3, rfl⟩ ⟨rfl, rfl⟩
      have hm3 : m < 3 := hm
      have t1' : Tape K H1 t c (b + 4 * (3 - (m + 1)) + 3 + 1) := t1.less (by omega)
      refine ⟨_, rfl, _, _, rfl, rfl, ⟨by decide, by decide, by decide⟩, _, _, rfl, rfl, ⟨by decide, by decide, by decide⟩, _, rfl, _, rfl, _, _, rfl, rfl, ⟨by decide, by decide, by decide⟩, t, c, _, _, rfl, by decide +kernel, by decide +kernel, t1', fun H2 r1 e2 t2 _ _ => ?_⟩
      refine ⟨_, rfl, t, c, 9, _, rfl, by decide, by decide, t2, fun H3 r2 e3 t3 _ _ => ⟨_, _, rfl, rfl, slz rfl, fun q hq => ?_⟩⟩
      have g3r : H3 r = some (.lst (ns.map V.int)) := (e2.trans e3) _ _ nr g1
      refine ⟨_, rfl, q, r, _, ns.map V.int, rfl, rfl, upd_same, by rw [upd_ne (ne_of_none g3r hq)]; exact g3r, slz (Nat.ble_eq.mpr (by simp; omega)), fun p hp => ?_⟩
      refine ⟨t, c, p, _, _, rfl, SqL.of upd_same, by simp, by simp; omega, (t3.new hq).new hp, fun H4 v e4 t4 hv => ?_⟩
      have E4 := (e2.trans e3).trans (((Ext.new hq).trans (Ext.new hp)).trans e4)
      obtain ⟨i, rfl⟩ : ∃ i, v = .int i := by
        rcases List.mem_append.mp hv with h | h
        · obtain ⟨i, _, rfl⟩ := List.mem_map.mp (show v ∈ ([0, 0, _, _, _, _] : List Int).map V.int from h)
          exact ⟨i, rfl⟩
        · obtain ⟨i, _, rfl⟩ := List.mem_map.mp h
          exact ⟨i, rfl⟩
      have g4r : H4 r = some (.lst (ns.map V.int)) := E4 _ _ nr g1
      refine ⟨_, rfl, .inl ⟨rfl, _, SqL.of g4r⟩, _, _, rfl, rfl, ⟨by decide, by decide, by decide⟩, _, rfl, _, _, rfl, rfl, ⟨by decide, by decide, by decide⟩, _, rfl, _, rfl, t, c, 3, _, rfl, by decide, by decide, t4, fun H5 r3 e5 t5 _ _ => ?_⟩
      refine ⟨_, _, rfl, rfl, _, _, rfl, rfl, _, _, rfl, _, _, rfl, ?_⟩
      have E5 := E4.trans e5
      have g5r : H5 r = some (.lst (ns.map V.int)) := E5 _ _ nr g1
      refine ⟨r, _, _, rfl, rfl, g5r, szl (by simp; omega), ?_⟩
      refine ⟨(e1.trans E5).upd hr0, Tape.put T0 (e1.trans E5) (t5.less (by omega)) hr0, ⟨ns ++ [clp (i + r3 - 1)], ?_, by rw [List.length_append, g2]; rfl, fun j hj => ?_⟩, _, _, rfl⟩
      · rw [upd_same, List.map_append]
        have e : (if (if i + r3 - 1 < 10 ^ 30 then i + r3 - 1 else (10 ^ 30 : Int)) > -(10 ^ 30) then (if i + r3 - 1 < 10 ^ 30 then i + r3 - 1 else (10 ^ 30 : Int)) else -(10 ^ 30)) = clp (i + r3 - 1) := by
          unfold clp
          generalize (10 ^ 30 : Int) = b
          omega
        rw [← e]
        rfl
      · rcases List.mem_append.mp hj with z | z
        · exact g3 j z
        · rw [List.mem_singleton.mp z]
          exact clp_bd _
    · rintro σ H1 ⟨e1, t1, ⟨ns, g1, g2, g3⟩, v2, v3, rfl⟩
      exact ⟨_, rfl, k H1 r ns e1 (t1.less (by omega)) g1 g2 g3⟩
end
end L3

/-! literals with an operator in them; a text times a number -/
namespace L3
open PySem PySem.Spec PyProof.Rows L2
/-- a text so often -/
def repS (x : Str) (n : Nat) : Str := ⟨(List.replicate n x.cps).foldl (· ++ ·) #[]⟩
theorem repS_len (x : Str) (n : Nat) : (repS x n).length = x.length * n := by
  have h : ∀ (k : Nat) (acc : Array Nat), ((List.replicate k x.cps).foldl (· ++ ·) acc).size = acc.size + x.length * k := by
    intro k
    induction k with
    | zero => intro acc; simp
    | succ k ih =>
      intro acc
      rw [List.replicate_succ, List.foldl_cons, ih, Array.size_append, Nat.mul_succ]
      show acc.size + x.length + _ = _
      omega
  have := h n #[]
  show ((List.replicate n x.cps).foldl (· ++ ·) #[]).size = _
  rw [this]
  simp
section
variable {X : Cx}
/-- a text that is not empty times a number above 1 -/
def rRepS : R2 := fun x y H Q => ∃ (a : Str) (k : Int), x = .str a ∧ y = .int k ∧ 2 ≤ k ∧ k ≤ 100000 ∧ 1 ≤ a.length ∧ a.length * k.toNat ≤ sizeLine ∧ Q (.str (repS a k.toNat)) H
theorem op_repS : OpR X (binaryOp .Mult) rRepS := by
  intro pins s σ H x y v u Q I rx ry h
  obtain ⟨a, k, rfl, rfl, k2, k3, l1, lz, q⟩ := h
  obtain ⟨t, rfl⟩ := (show ∃ t, v = Value.str a t from rx)
  obtain ⟨t', rfl⟩ := (show ∃ t, u = Value.int k t from ry)
  have n1 : (k == 1 || a.length == 0) = false := by
    rw [Bool.or_eq_false_iff]
    refine ⟨?_, ?_⟩
    · rw [beq_eq_false_iff_ne]
      omega
    · rw [beq_eq_false_iff_ne]
      omega
  refine PySem.P.mul_str ?_ (fun _ _ => ?_) (fun _ _ => ?_) ?_
  · rw [decide_eq_false (by omega), decide_eq_false (by omega)]
    rfl
  · have e : ((a.length * k.toNat : Nat) : Int) = (a.length : Int) * k := by
      rw [Int.natCast_mul, Int.toNat_of_nonneg (by omega)]
    have hz : ((a.length * k.toNat : Nat) : Int) ≤ (sizeLine : Int) := by omega
    rw [sizeLine_eq] at hz
    have : (a.length : Int) ≤ (2 ^ 63 - 1) / k := by
      rw [Int.le_ediv_iff_mul_le (by omega)]
      omega
    omega
  · exact decide_eq_false (by omega)
  · rw [if_neg (by omega), n1, if_neg Bool.false_ne_true]
    refine ⟨?_, ⟨.str (repS a k.toNat), H, I.tok _, ⟨_, rfl⟩, q⟩⟩
    show (repS a k.toNat).length ≤ sizeLine
    rw [repS_len]
    exact lz
end
section
variable {X : Cx} {e e2 : Expr} {pos : Pos} {t : Addr} {i j : Int}
theorem da_int {H : Hp} {v : V} (h : Da t H v (.int i)) : v = .int i := by cases h; rfl
theorem pl_negE (h : PE X e (tLit t (.int i))) : PE X (.UnaryOp .USub e pos) (tLit t (.int (-i))) :=
  (pe_un un_neg h).weak fun σ H Q ⟨ho, q⟩ => ⟨ho, fun H1 v s1 d1 => ⟨i, da_int d1, q H1 _ s1 (.int _)⟩⟩
theorem pl_addI (h : PE X e (tLit t (.int i))) (h2 : PE X e2 (tLit t (.int j))) : PE X (.BinOp e .Add e2 pos) (tLit t (.int (i + j))) :=
  (pe_op op_add h h2).weak fun σ H Q ⟨⟨o, ho⟩, q⟩ => ⟨⟨o, ho⟩, fun H1 v s1 d1 => ⟨⟨o, s1 _ _ ho⟩, fun H2 v2 s2 d2 => ⟨i, j, da_int d1, da_int d2, q H2 _ (s1.trans s2) (.int _)⟩⟩⟩
theorem pl_subI (h : PE X e (tLit t (.int i))) (h2 : PE X e2 (tLit t (.int j))) : PE X (.BinOp e .Sub e2 pos) (tLit t (.int (i - j))) :=
  (pe_op op_sub h h2).weak fun σ H Q ⟨⟨o, ho⟩, q⟩ => ⟨⟨o, ho⟩, fun H1 v s1 d1 => ⟨⟨o, s1 _ _ ho⟩, fun H2 v2 s2 d2 => ⟨i, j, da_int d1, da_int d2, q H2 _ (s1.trans s2) (.int _)⟩⟩⟩
theorem pl_rep {x : Str} {k : Int} (h : PE X e (tC (.str x))) (h2 : PE X e2 (tC (.int k))) (c : 2 ≤ k ∧ k ≤ 100000 ∧ 1 ≤ x.length ∧ x.length * k.toNat ≤ 100000 := by decide) : PE X (.BinOp e .Mult e2 pos) (tLit t (.str (repS x k.toNat))) :=
  (pe_op op_repS h h2).weak fun σ H Q ⟨_, q⟩ => ⟨x, k, rfl, rfl, c.1, c.2.1, c.2.2.1, Nat.le_trans c.2.2.2 (by decide), q H _ (Same.refl H) (.str _)⟩
end
/-- a new list, which is not the table of modules -/
def tLstN (t : TA) : TE := fun σ H Q => t σ H fun xs H1 => xs.length ≤ sizeLine ∧ ∀ p, H1 p = none → p ≠ sysModules → Q (.ref p) (upd H1 p (.lst xs))
theorem pe_lstN {X : Cx} {es : List Expr} {t : TA} {pos : Pos} (h : PA X es t) : PE X (.List es pos) (tLstN t) := by
  refine ⟨fun pins s σ H Q I hq => ?_⟩
  refine wpAny_List_spliced (thn (h.run pos pins s σ H (fun vs H1 => vs.length ≤ sizeLine ∧ ∀ p, H1 p = none → p ≠ sysModules → Q (.ref p) (upd H1 p (.lst vs))) I hq) fun us s1 ⟨xs, H1, I1, r, lz, kk⟩ => ⟨by rw [← r.length]; exact lz, ?_⟩)
  have hf : H1 s1.heap.objs.size = none := I1.hok.fresh (Nat.le_refl _)
  refine ⟨.ref s1.heap.objs.size, upd H1 s1.heap.objs.size (.lst xs), I1.laid (t' := s1.toks) (fun b u e => Heap.get?_push_of_some _ e) (Nat.le_refl _) ?_, rfl, kk _ hf (Nat.ne_of_gt I1.big)⟩
  exact ⟨lz, us, 0, r, Heap.get?_push_size _ rfl⟩
end L3

/-! any text times a number from 1 on -/
namespace L3
open PySem PySem.Spec PyProof.Rows L2
def repT (a : Str) (k : Int) : Str := if k = 1 ∨ a.length = 0 then a else repS a k.toNat
def rRepT : R2 := fun x y H Q => ∃ (a : Str) (k : Int), x = .str a ∧ y = .int k ∧ 1 ≤ k ∧ k ≤ 100000 ∧ a.length * k.toNat ≤ sizeLine ∧ Q (.str (repT a k)) H
theorem op_repT {X : Cx} : OpR X (binaryOp .Mult) rRepT := by
  intro pins s σ H x y v u Q I rx ry h
  obtain ⟨a, k, rfl, rfl, k1, k3, lz, q⟩ := h
  by_cases c : k = 1 ∨ a.length = 0
  · unfold repT at q
    rw [if_pos c] at q
    obtain ⟨t, rfl⟩ := (show ∃ t, v = Value.str a t from rx)
    obtain ⟨t', rfl⟩ := (show ∃ t, u = Value.int k t from ry)
    have n1 : (k == 1 || a.length == 0) = true := by
      rw [Bool.or_eq_true, beq_iff_eq, beq_iff_eq]
      exact c
    refine PySem.P.mul_str ?_ (fun _ _ => ?_) (fun _ _ => ?_) ?_
    · rw [decide_eq_false (by omega), decide_eq_false (by omega)]
      rfl
    · have e : ((a.length * k.toNat : Nat) : Int) = (a.length : Int) * k := by
        rw [Int.natCast_mul, Int.toNat_of_nonneg (by omega)]
      have hz : ((a.length * k.toNat : Nat) : Int) ≤ (sizeLine : Int) := by omega
      rw [sizeLine_eq] at hz
      have : (a.length : Int) ≤ (2 ^ 63 - 1) / k := by
        rw [Int.le_ediv_iff_mul_le (by omega)]
        omega
      omega
    · exact decide_eq_false (by omega)
    · rw [if_neg (by omega), n1, if_pos rfl]
      exact ⟨.str a, H, I, ⟨_, rfl⟩, q⟩
  · unfold repT at q
    rw [if_neg c] at q
    have c1 : ¬ k = 1 := fun z => c (.inl z)
    have c2 : ¬ a.length = 0 := fun z => c (.inr z)
    exact op_repS pins s σ H (.str a) (.int k) v u Q I rx ry ⟨a, k, rfl, rfl, by omega, k3, by omega, lz, q⟩
/-- the signs of a text -/
def sgs (p : Nat → Bool) (x : Str) : Bool := x.cps.toList.all p
theorem sgs_rep {p : Nat → Bool} {x : Str} (h : sgs p x = true) (n : Nat) : sgs p (repS x n) = true := by
  have key : ∀ (k : Nat) (acc : Array Nat), acc.toList.all p = true → ((List.replicate k x.cps).foldl (· ++ ·) acc).toList.all p = true := by
    intro k
    induction k with
    | zero => intro acc ha; exact ha
    | succ k ih =>
      intro acc ha
      rw [List.replicate_succ, List.foldl_cons]
      refine ih _ ?_
      rw [Array.toList_append, List.all_append, ha]
      exact h
  exact key n #[] rfl
theorem sgs_repT {p : Nat → Bool} {x : Str} (h : sgs p x = true) (k : Int) : sgs p (repT x k) = true := by
  unfold repT
  split
  · exact h
  · exact sgs_rep h _
theorem sgs_app {p : Nat → Bool} {x y : Str} (h1 : sgs p x = true) (h2 : sgs p y = true) : sgs p (x ++ y) = true := by
  show ((x.cps ++ y.cps).toList.all p) = true
  rw [Array.toList_append, List.all_append]
  exact Bool.and_eq_true_iff.mpr ⟨h1, h2⟩
theorem sgs_cut {p : Nat → Bool} {x : Str} (h : sgs p x = true) (lo hi : Option Int) : sgs p (cutS x lo hi) = true := by
  unfold sgs cutS
  show List.all (List.toArray _).toList p = true
  rw [List.toList_toArray, List.all_eq_true]
  intro c hc
  exact List.all_eq_true.mp h c (List.mem_of_mem_drop (List.mem_of_mem_take hc))
theorem cut200 (x : Str) : (cutS x none (some 200)).length ≤ 200 := by
  show (List.toArray _).size ≤ 200
  rw [List.size_toArray, List.length_take, HT.sIx_none, show (200 : Int) = ((200 : Nat) : Int) from rfl, HT.sIx_nat]
  omega
theorem repT_len (x : Str) (k : Int) (h : 1 ≤ k) : (repT x k).length ≤ x.length * k.toNat := by
  unfold repT
  split
  · exact Nat.le_mul_of_pos_right _ (by omega)
  · exact Nat.le_of_eq (repS_len _ _)
end L3

/-! numbers spelled and read back; how plain texts are shown; texts in their order -/
namespace L3
open PySem L2 TL PyProof.Rows
theorem tl_neg (n : Nat) : (Str.ofString (toString (Int.negSucc n))).cps.toList = 45 :: numL (n + 1) := by
  rw [signs_ofString]
  show ("-" ++ Nat.repr (n + 1)).toList.map Char.toNat = _
  rw [String.toList_append, List.map_append, Nat.toList_repr]
  rfl
theorem spell_reads {i : Int} (h1 : -(10 ^ 30) ≤ i) (h2 : i ≤ 10 ^ 30) : intText? (Str.ofString (toString i)) = some i ∧ (Str.ofString (toString i)).length ≤ 200 := by
  have e30 : (10 : Int) ^ 30 = 1000000000000000000000000000000 := by decide
  have e31 : (10 : Nat) ^ 31 = 10000000000000000000000000000000 := by decide
  rw [e30] at h1 h2
  cases i with
  | ofNat n =>
    rw [Int.ofNat_eq_natCast] at h2
    have hl : (numL n).length ≤ 31 := numL_len (by decide) (by rw [e31]; omega)
    refine ⟨int_num (Nat.le_trans hl (by decide)), ?_⟩
    have z : (Str.ofString (toString (Int.ofNat n))).length ≤ 31 := by
      rw [len_tl, show tl (Str.ofString (toString (Int.ofNat n))) = numL n from tl_num n]
      exact hl
    exact Nat.le_trans z (by decide)
  | negSucc n =>
    have hl : (numL (n + 1)).length ≤ 31 := numL_len (by decide) (by rw [e31]; omega)
    have z : (Str.ofString (toString (Int.negSucc n))).length ≤ 32 := by
      rw [len_tl, show tl (Str.ofString (toString (Int.negSucc n))) = 45 :: numL (n + 1) from tl_neg n, List.length_cons]
      omega
    have e := PySem.intText_neg (tl_neg n) (numL_digits _) (numL_ne _) (Nat.le_trans z (by decide))
    rw [numL_val] at e
    exact ⟨e, Nat.le_trans z (by decide)⟩
theorem spell_signs (i : Int) : ∀ c ∈ (Str.ofString (toString i)).cps.toList, c = 45 ∨ (48 ≤ c ∧ c ≤ 57) := by
  intro c hc
  cases i with
  | ofNat n =>
    rw [show (Str.ofString (toString (Int.ofNat n))).cps.toList = numL n from tl_num n] at hc
    exact .inr (numL_digits n c hc)
  | negSucc n =>
    rw [tl_neg n] at hc
    rcases List.mem_cons.mp hc with h | h
    · exact .inl h
    · exact .inr (numL_digits _ c h)
theorem spell_inj {i j : Int} (h1 : -(10 ^ 30) ≤ i) (h2 : i ≤ 10 ^ 30) (h3 : -(10 ^ 30) ≤ j) (h4 : j ≤ 10 ^ 30) : Str.ofString (toString i) = Str.ofString (toString j) ↔ i = j :=
  ⟨fun e => by
    have a := (spell_reads h1 h2).1
    rw [e, (spell_reads h3 h4).1] at a
    exact (Option.some.inj a).symm, fun e => by rw [e]⟩
/-! plain signs -/
def plnS (c : Nat) : Bool := c == 97 || c == 98 || c == 66 || c == 126 || c == 32 || c == 90
theorem plnS_char {c : Nat} (h : plnS c = true) : Builtin.Str.reprChar 39 c = [c] ∧ c ≠ 39 := by
  unfold plnS at h
  simp only [Bool.or_eq_true, beq_iff_eq] at h
  rcases h with ((((rfl | rfl) | rfl) | rfl) | rfl) | rfl <;> exact ⟨by decide +kernel, by decide⟩
theorem fold_pln : ∀ (l : List Nat) (acc : Array Nat), l.all plnS = true → (l.foldl (fun out c => out ++ (Builtin.Str.reprChar 39 c).toArray) acc).toList = acc.toList ++ l
  | [], acc, _ => by simp
  | c :: l, acc, h => by
    simp only [List.all_cons, Bool.and_eq_true] at h
    rw [List.foldl_cons, fold_pln l _ h.2, (plnS_char h.1).1]
    simp
theorem repr_pln {x : Str} (h : x.cps.toList.all plnS = true) : (reprText x).cps.toList = 39 :: x.cps.toList ++ [39] := by
  have hq : reprQuote x = 39 := by
    unfold reprQuote
    have : x.cps.contains 39 = false := by
      rw [Bool.eq_false_iff]
      intro z
      have z2 : 39 ∈ x.cps := by simpa using z
      have := List.all_eq_true.mp h 39 (by simpa using z2)
      exact (plnS_char this).2 rfl
    rw [this]
    rfl
  unfold reprText
  rw [hq]
  show (Array.push _ 39).toList = _
  rw [Array.toList_push, ← Array.foldl_toList, fold_pln _ _ h]
  rfl
theorem Str.eq_of {x y : Str} (h : x.cps.toList = y.cps.toList) : x = y := by
  cases x; cases y
  exact congrArg Str.mk (Array.toList_inj.mp h)
theorem shown_pln {x : Str} (h : x.cps.toList.all plnS = true) : (PyData.tuple [.str "text", .str x]).shown = ("(" : Str) ++ (reprText "text" ++ ", " ++ reprText x) ++ (")" : Str) := by
  simp only [PyData.shown, PyData.shownAll]
  rfl
theorem shown_inj {x y : Str} (hx : x.cps.toList.all plnS = true) (hy : y.cps.toList.all plnS = true) : (PyData.tuple [.str "text", .str x]).shown = (PyData.tuple [.str "text", .str y]).shown ↔ x = y := by
  refine ⟨fun e => ?_, fun e => by rw [e]⟩
  rw [shown_pln hx, shown_pln hy] at e
  have e2 := congrArg (fun s : Str => s.cps.toList) e
  have ap : ∀ a b : Str, (a ++ b).cps.toList = a.cps.toList ++ b.cps.toList := fun a b => Array.toList_append
  simp only [ap, repr_pln hx, repr_pln hy] at e2
  simp only [List.append_assoc, List.append_cancel_left_eq, List.cons_append, List.cons.injEq, true_and] at e2
  exact Str.eq_of (List.append_cancel_right e2)
theorem shown_len {x : Str} (hx : x.cps.toList.all plnS = true) (hl : x.length ≤ 200) : (PyData.tuple [.str "text", .str x]).shown.length ≤ 300 := by
  rw [shown_pln hx, Str.length_append, Str.length_append, Str.length_append, Str.length_append]
  have : (reprText x).length = x.length + 2 := by
    show (reprText x).cps.size = x.cps.size + 2
    have := congrArg List.length (repr_pln hx)
    simp only [Array.length_toList, List.length_append, List.length_cons, List.length_nil] at this
    omega
  rw [this]
  have a1 : ("(" : Str).length = 1 := by decide +kernel
  have a2 : (", " : Str).length = 2 := by decide +kernel
  have a3 : (")" : Str).length = 1 := by decide +kernel
  have a4 : (reprText "text").length = 6 := by decide +kernel
  omega
/-! cuts -/
theorem cut_list (x : Str) : (cutS x none (some 200)).cps.toList = x.cps.toList.take 200 := by
  show (List.toArray _).toList = _
  rw [List.toList_toArray, HT.sIx_none, show (200 : Int) = ((200 : Nat) : Int) from rfl, HT.sIx_nat, List.drop_zero, Nat.sub_zero]
  show List.take (min 200 x.cps.size) _ = _
  rw [← Array.length_toList, List.take_eq_take_iff]
  omega
theorem cut_cut (x y z : Str) : cutS (cutS (x ++ y) none (some 200) ++ z) none (some 200) = cutS (x ++ cutS (y ++ z) none (some 200)) none (some 200) := by
  refine Str.eq_of ?_
  have ap : ∀ a b : Str, (a ++ b).cps.toList = a.cps.toList ++ b.cps.toList := fun a b => Array.toList_append
  rw [cut_list, cut_list, ap, ap, cut_list, cut_list, ap, ap]
  generalize x.cps.toList = a
  generalize y.cps.toList = b
  generalize z.cps.toList = c
  have k1 : ∀ (u v : List Nat), (u.take 200 ++ v).take 200 = (u ++ v).take 200 := fun u v => by
    rw [List.take_append, List.take_append, List.take_take, Nat.min_self, List.length_take]
    congr 2
    omega
  have k2 : ∀ (u v : List Nat), (u ++ v.take 200).take 200 = (u ++ v).take 200 := fun u v => by
    rw [List.take_append, List.take_append, List.take_take]
    congr 2
    omega
  rw [k1, k2, List.append_assoc]
theorem cut_self {x : Str} (h : x.length ≤ 200) : cutS x none (some 200) = x := by
  refine Str.eq_of ?_
  rw [cut_list, List.take_of_length_le]
  rw [Array.length_toList]
  exact h
theorem cut_lenE (x : Str) : (cutS x none (some 200)).length = min 200 x.length := by
  have := congrArg List.length (cut_list x)
  rw [Array.length_toList, List.length_take, Array.length_toList] at this
  exact this
end L3

/-! texts in their order -/
namespace L3
open PySem L2
theorem leS_of {x y : Str} : leS x y = true ↔ x.cps.toList ≤ y.cps.toList := by
  unfold leS
  rw [Bool.not_eq_true', decide_eq_false_iff_not]
  rfl
theorem leS_total (x y : Str) : leS x y = true ∨ leS y x = true := by
  rw [leS_of, leS_of]
  exact List.le_total _ _
theorem leS_trans {x y z : Str} (h1 : leS x y = true) (h2 : leS y z = true) : leS x z = true := by
  rw [leS_of] at *
  exact List.le_trans h1 h2
theorem leS_anti {x y : Str} (h1 : leS x y = true) (h2 : leS y x = true) : x = y := by
  rw [leS_of] at *
  exact Str.eq_of (List.le_antisymm h1 h2)
theorem leS_refl (x : Str) : leS x x = true := by
  rw [leS_of]
  exact List.le_refl _
theorem leS_like (x y : Str) : decide (x = y) = (leS x y && leS y x) := by
  by_cases e : x = y
  · rw [decide_eq_true e, e, leS_refl]
    rfl
  · rw [decide_eq_false e]
    cases h1 : leS x y with
    | false => rfl
    | true =>
      cases h2 : leS y x with
      | false => rfl
      | true => exact absurd (leS_anti h1 h2) e
theorem leS_cut {x y : Str} (h : x.length ≤ 200) : leS x (cutS (x ++ y) none (some 200)) = true := by
  rw [leS_of, cut_list]
  have ap : (x ++ y).cps.toList = x.cps.toList ++ y.cps.toList := Array.toList_append
  rw [ap, List.take_append, List.take_of_length_le (by rw [Array.length_toList]; exact h)]
  exact List.le_append_left
end L3

namespace L3
open PySem L2 StX
/-- a right text, of plain signs -/
def Tx (x : Str) : Prop := isTextD (.str x) = true ∧ sgs plnS x = true
theorem pln_sgnT {c : Nat} (h : plnS c = true) : sgnT c = true := by
  unfold plnS at h
  simp only [Bool.or_eq_true, beq_iff_eq] at h
  rcases h with ((((rfl | rfl) | rfl) | rfl) | rfl) | rfl <;> decide
theorem Tx.of {x : Str} (h1 : x.length ≤ 200) (h2 : sgs plnS x = true) : Tx x := by
  refine ⟨?_, h2⟩
  show (decide (x.length ≤ 200) && x.cps.all sgnT) = true
  rw [decide_eq_true h1, Bool.true_and, ← Array.all_toList, List.all_eq_true]
  exact fun c hc => pln_sgnT (List.all_eq_true.mp h2 c hc)
theorem Tx.len {x : Str} (h : Tx x) : x.length ≤ 200 := of_decide_eq_true (Bool.and_eq_true_iff.mp (show (decide (x.length ≤ 200) && x.cps.all sgnT) = true from h.1)).1
theorem Tx.sg {x : Str} (h : Tx x) : sgs plnS x = true := h.2
theorem Tx.cut {x y : Str} (h1 : Tx x) (h2 : Tx y) : Tx (cutS (x ++ y) none (some 200)) := Tx.of (cut200 _) (sgs_cut (sgs_app h1.sg h2.sg) _ _)
section
variable {P : Program} {w : World} {K : PySem.W.Frag} {mg : Str → Option Value} {base : Heap}
abbrev s__law_strings : Stmt := topS 34
abbrev N__law_strings : List Str := ["_law_tape", "_law_found", "_law_k", "_law_some"]
theorem sc__law_strings : FnScope N__law_strings ["_law_tape"] (defScope s__law_strings) := ⟨rfl, rfl, rfl, by decide +kernel, rfl, by decide +kernel, by decide +kernel⟩
def spStrs (K : PySem.W.Frag) : Sp := fun vs H Q _ => ∃ (t c : Addr) (b : Nat), vs = [.ref t] ∧ Tape K H t c (b + 9) ∧ ∀ (H' : Hp) (r : Addr) (ns : List Str), Ext t H H' → Tape K H' t c b → H' r = some (.lst (ns.map V.str)) → ns.length = 3 → (∀ i ∈ ns, Tx i) → Q (.ref r) H'
theorem ok_strs {f : Addr} {fd : FuncData} (F : Fun K "_law_strings" "_law_strings" s__law_strings f fd) (B : Bl mg) (D__law_pick : Kn P w K mg base 2 "_law_pick" ["_law_tape", "_law_items"] (spPick K)) : FnOk P w K mg base CX0 3 f fd ["_law_tape"] (spStrs K) := by
  refine F.ok sc__law_strings (fun vs H Q E h => ?_) (fun cdv A outer s H vs Q E hr h => ?_)
  · obtain ⟨t, c, b, rfl, _⟩ := h
    rfl
  · obtain ⟨t, c, b, rfl, T0, k⟩ := h
    have hr__law_pick : Room 2 _ := hr
    have hu64 := hr.units
    refine ⟨_, (pss_cons (ps_set (i := 1) sc__law_strings.nd rfl (Or.inl rfl) (pe_lst pa_nil))
  (pss_cons (ps_for PassesOwn.never rfl (pi_range1 (by rfl) B.range (pa_cons pe_int pa_nil)) (pg_name (i := 2) sc__law_strings.nd rfl (Or.inl rfl))
  (pss_cons (ps_set (i := 3) sc__law_strings.nd rfl (Or.inl rfl) (pe_op op_add_str (pe_kn D__law_pick hr__law_pick (pa_cons (pv 0) (pa_cons (pe_op op_cat (pe_lst (pa_cons pe_str (pa_cons pe_str (pa_cons pe_str (pa_cons pe_str (pa_cons pe_str (pa_cons pe_str pa_nil))))))) (pv 1)) pa_nil))) (pe_kn D__law_pick hr__law_pick (pa_cons (pv 0) (pa_cons (pe_lst (pa_cons pe_str (pa_cons pe_str (pa_cons pe_str (pa_cons pe_str pa_nil))))) pa_nil)))))
  (pss_one (ps_expr (pe_bm PySem.F.plainAttrs_list PySem.F.slot_list_append PySem.F.type_list_append mt_append (pv 1) (pa_cons (pe_slice sl_str (pe_op op_repT (pv 3) (pe_kn D__law_pick hr__law_pick (pa_cons (pv 0) (pa_cons (pe_lst (pa_cons pe_int (pa_cons pe_int (pa_cons pe_int (pa_cons pe_int (pa_cons pe_int pa_nil)))))) pa_nil)))) po_none (po_some pe_int)) pa_nil))))))
  (pss_one (ps_ret (pv 1))))), ?_⟩
    refine ⟨slz rfl, fun r hr0 => ?_⟩
    have nr : r ≠ t := T0.ne hr0
    refine ⟨_, rfl, by decide, by decide, for_it walk_range (fun m σ H' => Ext t H H' ∧ Tape K H' t c (b + 3 * (3 - m)) ∧ (∃ ns : List Str, H' r = some (.lst (ns.map V.str)) ∧ ns.length = m ∧ ∀ i ∈ ns, Tx i) ∧ ∃ v2 v3, σ = [some (.ref t), some (.ref r), v2, v3]) ⟨Ext.new hr0, T0.new hr0, ⟨[], upd_same, rfl, fun _ z => nomatch z⟩, _, _, rfl⟩ (fun _ _ _ _ _ => trivial) ?_ ?_⟩
    · rintro m v σ H0 H1 hm ⟨e1, t1, ⟨ns, g1, g2, g3⟩, v2, v3, rfl⟩ ⟨rfl, rfl⟩
      have hm3 : m < 3 := hm
      have t1' : Tape K H1 t c (b + 3 * (3 - (m + 1)) + 2 + 1) := t1.less (by omega)
      refine ⟨_, rfl, slz rfl, fun q hq => ?_⟩
      refine ⟨_, rfl, q, r, _, ns.map V.str, rfl, rfl, upd_same, by rw [upd_ne (ne_of_none g1 hq)]; exact g1, slz (Nat.ble_eq.mpr (by simp; omega)), fun p hp => ?_⟩
      refine ⟨t, c, p, _, _, rfl, SqL.of upd_same, by simp, by simp; omega, (t1'.new hq).new hp, fun H2 v e2 t2 hv => ?_⟩
      have E2 := ((Ext.new hq).trans (Ext.new hp)).trans e2
      obtain ⟨x, hx, rfl⟩ : ∃ x, Tx x ∧ v = .str x := by
        rcases List.mem_append.mp hv with h | h
        · obtain ⟨x, mx, rfl⟩ := List.mem_map.mp (show v ∈ (["", "a", "ab", "B", "~", " "] : List Str).map V.str from h)
          exact ⟨x, (show ∀ x ∈ (["", "a", "ab", "B", "~", " "] : List Str), isTextD (.str x) = true ∧ sgs plnS x = true by decide +kernel) x mx, rfl⟩
        · obtain ⟨x, mx, rfl⟩ := List.mem_map.mp h
          exact ⟨x, g3 x mx, rfl⟩
      refine ⟨_, rfl, slz rfl, fun q2 hq2 => ?_⟩
      refine ⟨t, c, q2, _, _, rfl, SqL.of upd_same, by decide, by decide, t2.new hq2, fun H3 v e3 t3 hv => ?_⟩
      obtain ⟨y, hy, rfl⟩ : ∃ x, (Tx x ∧ x.length ≤ 1) ∧ v = .str x := by
        obtain ⟨x, mx, rfl⟩ := List.mem_map.mp (show v ∈ (["", "", "a", "Z"] : List Str).map V.str from hv)
        exact ⟨x, (show ∀ x ∈ (["", "", "a", "Z"] : List Str), (isTextD (.str x) = true ∧ sgs plnS x = true) ∧ x.length ≤ 1 by decide +kernel) x mx, rfl⟩
      have E3 := E2.trans ((Ext.new hq2).trans e3)
      have g3r : H3 r = some (.lst (ns.map V.str)) := E3 _ _ nr g1
      have lx := hx.len
      refine ⟨_, _, rfl, rfl, by rw [sizeLine_eq]; have := hy.2; omega, ?_⟩
      refine ⟨_, rfl, .inl ⟨rfl, _, SqL.of g3r⟩, ?_⟩
      refine ⟨_, rfl, _, rfl, slz rfl, fun q3 hq3 => ?_⟩
      refine ⟨t, c, q3, _, _, rfl, SqL.of upd_same, by decide, by decide, t3.new hq3, fun H4 v e4 t4 hv => ?_⟩
      obtain ⟨n, hn, rfl⟩ : ∃ n : Int, (1 ≤ n ∧ n ≤ 199) ∧ v = .int n := by
        obtain ⟨x, mx, rfl⟩ := List.mem_map.mp (show v ∈ ([1, 1, 1, 40, 199] : List Int).map V.int from hv)
        exact ⟨x, (show ∀ x ∈ ([1, 1, 1, 40, 199] : List Int), 1 ≤ x ∧ x ≤ 199 by decide +kernel) x mx, rfl⟩
      have E4 := E3.trans ((Ext.new hq3).trans e4)
      have lxy : (x ++ y).length ≤ 201 := by
        rw [Str.length_append]
        have := hy.2
        omega
      have lr : (x ++ y).length * n.toNat ≤ 201 * 199 := Nat.mul_le_mul lxy (by omega)
      refine ⟨x ++ y, n, rfl, rfl, hn.1, by omega, by rw [sizeLine_eq]; omega, ?_⟩
      refine ⟨_, rfl, _, rfl, by rw [sizeLine_eq]; exact Nat.le_trans (Nat.le_trans (repT_len _ _ hn.1) lr) (by decide), ?_⟩
      have g4r : H4 r = some (.lst (ns.map V.str)) := E4 _ _ nr g1
      refine ⟨r, _, _, rfl, rfl, g4r, szl (by simp; omega), ?_⟩
      refine ⟨(e1.trans E4).upd hr0, Tape.put T0 (e1.trans E4) (t4.less (by omega)) hr0, ⟨ns ++ [cutS (repT (x ++ y) n) none (some 200)], ?_, by rw [List.length_append, g2]; rfl, fun j hj => ?_⟩, _, _, rfl⟩
      · rw [upd_same, List.map_append]
        rfl
      · rcases List.mem_append.mp hj with z | z
        · exact g3 j z
        · rw [List.mem_singleton.mp z]
          exact Tx.of (cut200 _) (sgs_cut (sgs_repT (sgs_app hx.sg hy.1.sg) n) _ _)
    · rintro σ H1 ⟨e1, t1, ⟨ns, g1, g2, g3⟩, v2, v3, rfl⟩
      exact ⟨_, rfl, k H1 r ns e1 (t1.less (by omega)) g1 g2 g3⟩
end
end L3

namespace L3
open PySem L2 StX
theorem Pl.same {H H' : Hp} {a : Addr} {wd : Str} {v : V} (p : Pl H a wd v) (s : Same H H') : Pl H' a wd v := ⟨s _ _ p.1, p.2⟩
theorem neF {x y : V} (h : x = y) : (!decide (x = y)) = false := by rw [decide_eq_true h]; rfl
/-- an if that is not taken -/
theorem if_skip {c : TT} {ts : TS} {D : Ends} {σ : L2.St} {H : Hp} (G : Hp → Prop) (hc : ∀ R : Bool → Hp → Prop, (∀ H', G H' → R false H') → c σ H R) (hn : ∀ H', G H' → D.nx σ H') : tIfS c ts tNext D σ H := hc _ fun H' g => iF rfl (hn H' g)
theorem seq_skip {c : TT} {ts rest : TS} {D : Ends} {σ : L2.St} {H : Hp} (G : Hp → Prop) (hc : ∀ R : Bool → Hp → Prop, (∀ H', G H' → R false H') → c σ H R) (hn : ∀ H', G H' → rest D σ H') : tSeq (tIfS c ts tNext) rest D σ H := if_skip G hc hn
theorem nx_skip {c : TT} {ts rest : TS} {D0 D : Ends} {σ : L2.St} {H : Hp} (G : Hp → Prop) (e : D0.nx = tSeq (tIfS c ts tNext) rest D) (hc : ∀ R : Bool → Hp → Prop, (∀ H', G H' → R false H') → c σ H R) (hn : ∀ H', G H' → rest D σ H') : tNext D0 σ H := by
  show D0.nx σ H
  rw [e]
  exact if_skip G hc hn
/-- an if whose branch falls through -/
theorem seq_case {c : TT} {ts rest : TS} {D : Ends} {σ : L2.St} {H : Hp} (C : Prop) (hc : ∀ R : Bool → Hp → Prop, (∀ H', Same H H' → R false H') → (C → ∀ H', Same H H' → R true H') → c σ H R) (ht : C → ∀ H', Same H H' → (∀ H'', Same H' H'' → rest D σ H'') → ts { D with nx := rest D } σ H') (hn : ∀ H', Same H H' → rest D σ H') : tSeq (tIfS c ts tNext) rest D σ H :=
  hc _ (fun H' g => iF rfl (hn H' g)) (fun q H' g => iT rfl (ht q H' g fun H'' g2 => hn H'' (g.trans g2)))
theorem clp_back {a b : Int} (ha : Bd a) (h1 : -(10 ^ (30 : Int).toNat) < clp (a + b)) (h2 : clp (a + b) < 10 ^ (30 : Int).toNat) : clp (clp (a + b) - b) = a := by
  obtain ⟨b1, b2⟩ := ha
  revert h1 h2 b1 b2
  unfold clp
  show -(10 ^ 30) < _ → _ < (10 ^ 30 : Int) → _
  generalize (10 ^ 30 : Int) = m
  intro h1 h2 b1 b2
  omega
theorem clp_three {a b c : Int} (h1 : -(10 ^ 30) < clp (a + b)) (h2 : clp (a + b) < 10 ^ 30) : clp (clp (a + b) + c) = clp (a + (b + c)) := by
  revert h1 h2
  unfold clp
  generalize (10 ^ 30 : Int) = m
  intro h1 h2
  omega
theorem like_of (a b : Int) : decide (a = b) = (decide (a ≤ b) && decide (b ≤ a)) := by
  by_cases h1 : a ≤ b
  · by_cases h2 : b ≤ a
    · rw [decide_eq_true h1, decide_eq_true h2, decide_eq_true (by omega)]
      rfl
    · rw [decide_eq_false h2, decide_eq_false (by omega), Bool.and_false]
  · rw [decide_eq_false h1, decide_eq_false (by omega)]
    rfl
theorem either_of (a b : Int) : (decide (a ≤ b) || decide (b ≤ a)) = true := by
  by_cases h1 : a ≤ b
  · rw [decide_eq_true h1]
    rfl
  · rw [decide_eq_true (show b ≤ a by omega), Bool.or_true]
theorem clp_in {a : Int} (h : Bd a) : clp a = a := by
  obtain ⟨h1, h2⟩ := h
  revert h1 h2
  unfold clp
  generalize (10 ^ 30 : Int) = m
  intro h1 h2
  omega
theorem clp_row {a b c : Int} (h : a ≤ b) : clp (a + c) ≤ clp (b + c) := by
  unfold clp
  generalize (10 ^ 30 : Int) = m
  omega
theorem text_num {a : Int} (h : Bd a) : isTextD (.str (toString a)) = true := by
  show (decide ((Str.ofString (toString a)).length ≤ 200) && (Str.ofString (toString a)).cps.all sgnT) = true
  rw [decide_eq_true (spell_reads h.1 h.2).2, Bool.true_and, ← Array.all_toList, List.all_eq_true]
  intro c hc
  unfold sgnT
  rcases spell_signs a c hc with e | e
  · subst e
    decide
  · rw [decide_eq_true (show 32 ≤ c by omega), decide_eq_true (show c ≤ 126 by omega), decide_eq_false (show ¬ c = 37 by omega)]
    rfl
section
variable {P : Program} {w : World} {K : PySem.W.Frag} {mg : Str → Option Value} {base : Heap} {kA aA d C : Addr}
abbrev s__law_wholes_right : Stmt := topS 35
abbrev N__law_wholes_right : List Str := ["_law_a", "_law_b", "_law_c", "_law_one", "_law_other", "_law_third", "_law_bound", "_law_total", "_law_product", "_law_is_upto", "_law_is_back", "_law_is_like", "_law_spelt"]
theorem sc__law_wholes_right : FnScope N__law_wholes_right ["_law_a", "_law_b", "_law_c"] (defScope s__law_wholes_right) := ⟨rfl, rfl, rfl, by decide +kernel, rfl, by decide +kernel, by decide +kernel⟩
def spWholes : Sp := fun vs H Q _ => ∃ a b c : Int, vs = [.int a, .int b, .int c] ∧ Bd a ∧ Bd b ∧ Bd c ∧ ∀ H', Same H H' → Q (.bl true) H'
theorem ok_wholes {f : Addr} {fd : FuncData} (F : Fun K "_law_wholes_right" "_law_wholes_right" s__law_wholes_right f fd) (B : Bl mg) (hC : mg "Primitives" = some (.ref C)) (SM : SmK K C "done" d) (D_done : FnR P w K mg base CX0 4 d (spStar 1 (spDone P w K mg base kA aA))) (A : Ac P w K mg base kA aA)
    (D__law_whole : Kn P w K mg base 1 "_law_whole" ["_law_number"] spLWhole) (D__law_done : Kn P w K mg base 5 "_law_done" ["_law_which", "_law_one", "_law_other"] (spLDone P w K mg base kA aA)) : FnOk P w K mg base CX0 6 f fd ["_law_a", "_law_b", "_law_c"] spWholes := by
  refine F.ok sc__law_wholes_right (fun vs H Q E h => ?_) (fun cdv Ar outer s H vs Q E hr h => ?_)
  · obtain ⟨a, b, c, rfl, _⟩ := h
    rfl
  · obtain ⟨a, b, c, rfl, ha, hb, hc, k⟩ := h
    have hr__law_whole : Room 1 _ := hr.mono (by decide)
    have hr__law_done : Room 5 _ := hr
    have hr_done : Room 4 _ := hr.mono (by decide)
    refine ⟨_, (pss_cons (ps_asg (pe_tup (pa_cons (pe_kn D__law_whole hr__law_whole (pa_cons (pv 0) pa_nil)) (pa_cons (pe_kn D__law_whole hr__law_whole (pa_cons (pv 1) pa_nil)) (pa_cons (pe_kn D__law_whole hr__law_whole (pa_cons (pv 2) pa_nil)) (pa_cons (pe_op op_pow pe_int pe_int) pa_nil))))) (pg_tup (by rfl) (pgs_cons (pg_name (i := 3) sc__law_wholes_right.nd rfl (Or.inl rfl)) (pgs_cons (pg_name (i := 4) sc__law_wholes_right.nd rfl (Or.inl rfl)) (pgs_cons (pg_name (i := 5) sc__law_wholes_right.nd rfl (Or.inl rfl)) (pgs_cons (pg_name (i := 6) sc__law_wholes_right.nd rfl (Or.inl rfl)) pgs_nil))))))
  (pss_cons (ps_par (i := 7) (j := 8) (by rfl) sc__law_wholes_right.nd rfl rfl (by decide) rfl rfl (pa_cons (pe_kn D__law_done hr__law_done (pa_cons pe_str (pa_cons (pv 3) (pa_cons (pv 4) pa_nil)))) (pa_cons (pe_kn D__law_done hr__law_done (pa_cons pe_str (pa_cons (pv 3) (pa_cons (pv 4) pa_nil)))) pa_nil)) (by rfl))
  (pss_cons (ps_if (PW.pt (pw_or (pt_cmpR op_ne (pv 7) (pe_kn D__law_done hr__law_done (pa_cons pe_str (pa_cons (pv 4) (pa_cons (pv 3) pa_nil)))) (nomark _)) (pw_or (pt_cmpR op_ne (pv 8) (pe_kn D__law_done hr__law_done (pa_cons pe_str (pa_cons (pv 4) (pa_cons (pv 3) pa_nil)))) (nomark _)) (pw_or1 (pt_not (pt_chain op_le op_le (pe_un un_neg (pv 6)) (pv 7) (pv 6)))))))
  (pss_one (ps_ret pe_bl))
  pss_nil)
  (pss_cons (ps_if (PW.pt (pw_and (pt_chain op_lt op_lt (pe_un un_neg (pv 6)) (pv 7) (pv 6)) (pw_and1 (pt_cmpR op_ne (pe_kn D__law_done hr__law_done (pa_cons pe_str (pa_cons (pe_kn D__law_whole hr__law_whole (pa_cons (pv 7) pa_nil)) (pa_cons (pv 4) pa_nil)))) (pv 0) (nomark _)))))
  (pss_one (ps_ret pe_bl))
  pss_nil)
  (pss_cons (ps_if (PW.pt (pw_and (pt_chain op_lt op_lt (pe_un un_neg (pv 6)) (pv 7) (pv 6)) (pw_and (pt_chain op_lt op_lt (pe_un un_neg (pv 6)) (pe_op op_add (pv 1) (pv 2)) (pv 6)) (pw_and1 (pt_chain op_le op_le (pe_un un_neg (pv 6)) (pe_op op_add (pe_op op_add (pv 0) (pv 1)) (pv 2)) (pv 6))))))
  (pss_one (ps_if (pt_cmpR op_ne (pe_kn D__law_done hr__law_done (pa_cons pe_str (pa_cons (pe_kn D__law_whole hr__law_whole (pa_cons (pv 7) pa_nil)) (pa_cons (pv 5) pa_nil)))) (pe_kn D__law_done hr__law_done (pa_cons pe_str (pa_cons (pv 3) (pa_cons (pe_kn D__law_whole hr__law_whole (pa_cons (pe_op op_add (pv 1) (pv 2)) pa_nil)) pa_nil)))) (nomark _))
  (pss_one (ps_ret pe_bl))
  pss_nil))
  pss_nil)
  (pss_cons (ps_par3 (i := 9) (j := 10) (l := 11) (by rfl) sc__law_wholes_right.nd rfl rfl rfl (by decide) (by decide) (by decide) rfl rfl rfl (pa_cons (pe_kn D__law_done hr__law_done (pa_cons pe_str (pa_cons (pv 3) (pa_cons (pv 4) pa_nil)))) (pa_cons (pe_kn D__law_done hr__law_done (pa_cons pe_str (pa_cons (pv 4) (pa_cons (pv 3) pa_nil)))) (pa_cons (pe_kn D__law_done hr__law_done (pa_cons pe_str (pa_cons (pv 3) (pa_cons (pv 4) pa_nil)))) pa_nil))) (by rfl))
  (pss_cons (ps_if (PW.pt (pw_or (pt_cmpR op_ne (pv 11) (pe_and (pv 9) (pe_one (pv 10))) (nomark _)) (pw_or (pt_not (PW.pt (pw_or (pt_val (pv 9)) (pw_or1 (pt_val (pv 10)))))) (pw_or1 (pt_not (pt_val (pe_kn D__law_done hr__law_done (pa_cons pe_str (pa_cons (pv 3) (pa_cons (pv 3) pa_nil))))))))))
  (pss_one (ps_ret pe_bl))
  pss_nil)
  (pss_cons (ps_if (PW.pt (pw_and (pt_val (pv 9)) (pw_and (pt_val (pe_kn D__law_done hr__law_done (pa_cons pe_str (pa_cons (pv 4) (pa_cons (pv 5) pa_nil))))) (pw_and1 (pt_not (pt_val (pe_kn D__law_done hr__law_done (pa_cons pe_str (pa_cons (pv 3) (pa_cons (pv 5) pa_nil))))))))))
  (pss_one (ps_ret pe_bl))
  pss_nil)
  (pss_cons (ps_if (PW.pt (pw_and (pt_val (pv 9)) (pw_and1 (pt_not (pt_val (pe_kn D__law_done hr__law_done (pa_cons pe_str (pa_cons (pe_kn D__law_whole hr__law_whole (pa_cons (pv 7) pa_nil)) (pa_cons (pe_kn D__law_whole hr__law_whole (pa_cons (pe_kn D__law_done hr__law_done (pa_cons pe_str (pa_cons (pv 4) (pa_cons (pv 4) pa_nil)))) pa_nil)) pa_nil)))))))))
  (pss_one (ps_ret pe_bl))
  pss_nil)
  (pss_cons (ps_if (PW.pt (pw_or (pt_cmpR op_ne (pe_kn D__law_done hr__law_done (pa_cons pe_str (pa_cons (pv 3) (pa_cons (pv 3) pa_nil)))) pe_int (nomark _)) (pw_or (pt_cmpR op_ne (pe_kn D__law_done hr__law_done (pa_cons pe_str (pa_cons (pv 3) (pa_cons (pe_kn D__law_whole hr__law_whole (pa_cons pe_int pa_nil)) pa_nil)))) (pv 0) (nomark _)) (pw_or1 (pt_cmpR op_ne (pe_kn D__law_done hr__law_done (pa_cons pe_str (pa_cons (pv 3) (pa_cons (pe_kn D__law_whole hr__law_whole (pa_cons pe_int pa_nil)) pa_nil)))) (pv 0) (nomark _))))))
  (pss_one (ps_ret pe_bl))
  pss_nil)
  (pss_cons (ps_set (i := 12) sc__law_wholes_right.nd rfl (Or.inl rfl) (pe_lst (pa_cons (pe_sm hC SM D_done hr_done (pa_cons pe_str (pa_cons (pv 3) pa_nil))) (pa_cons (pe_sm hC SM D_done hr_done (pa_cons pe_str (pa_cons (pv 4) pa_nil))) pa_nil))))
  (pss_one (ps_ret (pe_and (pe_cmpR op_eq (pe_kn D__law_done hr__law_done (pa_cons pe_str (pa_cons (pe_ix ix_list (pv 12) pe_int (fun _ _ => rfl)) (pa_cons (pe_ix ix_list (pv 12) pe_int (fun _ _ => rfl)) pa_nil)))) (pv 11) (nomark _)) (pe_one (pe_cmpR op_eq (pe_callTy call_int_str (by rfl) B.int (by decide +kernel) (pa_cons (pe_ix ix_tup (pe_ix ix_list (pv 12) pe_int (fun _ _ => rfl)) pe_int (fun _ _ => rfl)) pa_nil)) (pv 0) (nomark _))))))))))))))))), ?_⟩
    refine ⟨_, rfl, _, rfl, fun p1 h1 => ⟨_, rfl, _, rfl, fun p2 h2 => ⟨_, rfl, _, rfl, fun p3 h3 => ⟨_, _, rfl, rfl, ⟨by decide, by decide, by decide⟩, slz rfl, fun q hq => ?_⟩⟩⟩⟩
    have s2 := same_new (o := .tup [.str "whole", .int b]) h2
    have s3 := same_new (o := .tup [.str "whole", .int c]) h3
    have s4 := same_new (o := .tup [.ref p1, .ref p2, .ref p3, .int (10 ^ (30 : Int).toNat)]) hq
    have P1 := (Pl.wh (a := p1) (H := upd H p1 (.tup [.str "whole", .int a])) upd_same ha.1 ha.2).same (s2.trans (s3.trans s4))
    have P2 := (Pl.wh (a := p2) (i := b) upd_same hb.1 hb.2).same (s3.trans s4)
    have P3 := (Pl.wh (a := p3) (i := c) upd_same hc.1 hc.2).same s4
    have S0 := (same_new (o := .tup [.str "whole", .int a]) h1).trans (s2.trans (s3.trans s4))
    refine ⟨q, _, rfl, SqT.of upd_same, rfl, _, _, rfl, _, _, rfl, _, _, rfl, _, _, rfl, rfl, ?_⟩
    generalize upd (upd (upd (upd H p1 (.tup [.str "whole", .int a])) p2 (.tup [.str "whole", .int b])) p3 (.tup [.str "whole", .int c])) q (.tup [.ref p1, .ref p2, .ref p3, .int (10 ^ (30 : Int).toNat)]) = H0 at P1 P2 P3 S0 ⊢
    refine ⟨_, rfl, _, rfl, ld_plus A P1 P2 fun H1 s1 => ⟨_, rfl, _, rfl, ld_times A (P1.same s1) (P2.same s1) fun H2 s2 => ?_⟩⟩
    have S2 := s1.trans s2
    replace P1 := P1.same S2
    replace P2 := P2.same S2
    replace P3 := P3.same S2
    replace S0 := S0.trans S2
    clear S2 s1 s2
    have ct := clp_bd (a + b)
    refine ⟨_, _, rfl, ?_⟩
    refine ⟨_, rfl, _, rfl, _, rfl, ld_plus A P2 P1 fun H3 s1 => ⟨rfl, _, rfl, ?_⟩⟩
    refine iF (neF (by rw [Int.add_comm])) ?_
    refine ⟨_, rfl, _, rfl, _, rfl, ld_times A (P2.same s1) (P1.same s1) fun H4 s2 => ⟨rfl, _, rfl, ?_⟩⟩
    refine iF (neF (by rw [Int.mul_comm])) ?_
    have S2 := s1.trans s2
    replace P1 := P1.same S2
    replace P2 := P2.same S2
    replace P3 := P3.same S2
    replace S0 := S0.trans S2
    clear S2 s1 s2
    refine ⟨_, rfl, _, rfl, _, rfl, _, _, rfl, rfl, _, rfl, ?_⟩
    refine iT (decide_eq_true ct.1) ?_
    refine ⟨_, rfl, _, _, rfl, rfl, _, rfl, ?_⟩
    refine iF (by rw [decide_eq_true (show clp (a + b) ≤ 10 ^ (30 : Int).toNat from ct.2)]; rfl) ?_
    unfold tNext
    dsimp only
    refine seq_skip (Same H4) (fun R hR => ?_) (fun H5 s5 => ?_)
    · refine ⟨_, rfl, _, rfl, _, rfl, _, _, rfl, rfl, _, rfl, ?_⟩
      by_cases q1 : -(10 ^ (30 : Int).toNat) < clp (a + b)
      · refine iT (decide_eq_true q1) ?_
        refine ⟨_, rfl, _, _, rfl, rfl, _, rfl, ?_⟩
        by_cases q2 : clp (a + b) < 10 ^ (30 : Int).toNat
        · refine iT (decide_eq_true q2) ?_
          refine ⟨_, rfl, _, rfl, fun p hp => ⟨_, rfl, ld_minus A (Pl.wh upd_same ct.1 ct.2) (P2.same (same_new hp)) fun H5 s5 => ⟨_, rfl, rfl, _, rfl, ?_⟩⟩⟩
          rw [neF (congrArg V.int (clp_back ha q1 q2))]
          exact hR _ ((same_new hp).trans s5)
        · exact iF (decide_eq_false q2) (hR _ (Same.refl _))
      · exact iF (decide_eq_false q1) ⟨_, rfl, iF rfl (hR _ (Same.refl _))⟩
    replace P1 := P1.same s5
    replace P2 := P2.same s5
    replace P3 := P3.same s5
    replace S0 := S0.trans s5
    clear s5
    refine seq_case ((-(10 ^ 30) < clp (a + b) ∧ clp (a + b) < 10 ^ 30) ∧ (-(10 ^ 30) < b + c ∧ b + c < 10 ^ 30) ∧ -(10 ^ 30) ≤ a + b + c ∧ a + b + c ≤ 10 ^ 30) (fun R hR hT => ?_) (fun hC H6 s6 hn => ?_) (fun H6 s6 => ?_)
    · refine ⟨_, rfl, _, rfl, _, rfl, _, _, rfl, rfl, _, rfl, ?_⟩
      by_cases q1 : -(10 ^ (30 : Int).toNat) < clp (a + b)
      · refine iT (decide_eq_true q1) ?_
        refine ⟨_, rfl, _, _, rfl, rfl, _, rfl, ?_⟩
        by_cases q2 : clp (a + b) < 10 ^ (30 : Int).toNat
        · refine iT (decide_eq_true q2) ?_
          refine ⟨_, rfl, _, rfl, _, rfl, _, rfl, _, _, rfl, rfl, _, _, rfl, rfl, _, rfl, ?_⟩
          by_cases q3 : -(10 ^ (30 : Int).toNat) < b + c
          · refine iT (decide_eq_true q3) ?_
            refine ⟨_, rfl, _, _, rfl, rfl, _, rfl, ?_⟩
            by_cases q4 : b + c < 10 ^ (30 : Int).toNat
            · refine iT (decide_eq_true q4) ?_
              refine ⟨_, rfl, _, rfl, _, rfl, _, rfl, _, _, rfl, rfl, _, rfl, _, _, rfl, rfl, _, _, rfl, rfl, _, rfl, ?_⟩
              by_cases q5 : -(10 ^ (30 : Int).toNat) ≤ a + b + c
              · refine iT (decide_eq_true q5) ?_
                refine ⟨_, rfl, _, _, rfl, rfl, _, rfl, ?_⟩
                by_cases q6 : a + b + c ≤ 10 ^ (30 : Int).toNat
                · rw [decide_eq_true q6]
                  exact hT ⟨⟨q1, q2⟩, ⟨q3, q4⟩, q5, q6⟩ _ (Same.refl _)
                · rw [decide_eq_false q6]
                  exact hR _ (Same.refl _)
              · exact iF (decide_eq_false q5) ⟨_, rfl, hR _ (Same.refl _)⟩
            · exact iF (decide_eq_false q4) (hR _ (Same.refl _))
          · exact iF (decide_eq_false q3) ⟨_, rfl, iF rfl (hR _ (Same.refl _))⟩
        · exact iF (decide_eq_false q2) (hR _ (Same.refl _))
      · exact iF (decide_eq_false q1) ⟨_, rfl, iF rfl (hR _ (Same.refl _))⟩
    · refine if_skip (Same H6) (fun R hR => ?_) (fun H' s' => hn H' s')
      have P3' := P3.same s6
      have P1' := P1.same s6
      obtain ⟨⟨c1, c2⟩, ⟨c3, c4⟩, c5, c6⟩ := hC
      refine ⟨_, rfl, _, rfl, fun p hp => ⟨_, rfl, ld_plus A (Pl.wh upd_same ct.1 ct.2) (P3'.same (same_new hp)) fun H7 s7 => ?_⟩⟩
      have s67 := (same_new hp).trans s7
      refine ⟨_, rfl, _, rfl, _, rfl, _, _, rfl, rfl, _, rfl, fun p2 hp2 => ?_⟩
      refine ld_plus A (P1'.same (s67.trans (same_new hp2))) (Pl.wh upd_same (Int.le_of_lt c3) (Int.le_of_lt c4)) fun H8 s8 => ⟨rfl, ?_⟩
      rw [neF (congrArg V.int (clp_three c1 c2))]
      exact ⟨_, rfl, hR _ (s67.trans ((same_new hp2).trans s8))⟩
    have S6 := S0.trans s6
    replace P1 := P1.same s6
    replace P2 := P2.same s6
    replace P3 := P3.same s6
    clear S0
    refine ⟨_, rfl, _, rfl, ld_upto A P1 P2 fun H7 s7 => ⟨_, rfl, _, rfl, ld_upto A (P2.same s7) (P1.same s7) fun H8 s8 => ⟨_, rfl, _, rfl, ld_equal A (P1.same (s7.trans s8)) (P2.same (s7.trans s8)) fun H9 s9 => ?_⟩⟩⟩
    have S9 := s7.trans (s8.trans s9)
    replace P1 := P1.same S9
    replace P2 := P2.same S9
    replace P3 := P3.same S9
    replace S6 := S6.trans S9
    clear S9 s7 s8 s9
    refine ⟨_, _, _, rfl, ?_⟩
    dsimp only
    refine seq_skip (Same H9) (fun R hR => ?_) (fun H10 s10 => ?_)
    · refine ⟨_, rfl, _, rfl, ?_⟩
      have e1 := like_of a b
      have e2 := either_of a b
      generalize decide (a ≤ b) = x at e1 e2 ⊢
      generalize decide (b ≤ a) = y at e1 e2 ⊢
      generalize decide (a = b) = z at e1 e2 ⊢
      subst e1
      have last : ∀ H', Same H9 H' → (tB (tCall (spLDone P w K mg base kA aA) [] E0 (tCons (tC (V.str (Str.ofString "upto"))) (tCons (tC (.ref p1)) (tCons (tC (.ref p1)) tNil))))) [] H' fun k H'' => R (!k) H'' := fun H' s' =>
        ld_upto A (P1.same s') (P1.same s') fun H'' s'' => ⟨_, rfl, by rw [decide_eq_true (Int.le_refl a)]; exact hR _ (s'.trans s'')⟩
      cases x <;> cases y <;> cases e2
      · refine ⟨_, rfl, iF rfl ?_⟩
        refine ⟨rfl, _, rfl, iF (by decide) ?_⟩
        refine ⟨_, rfl, _, rfl, iF rfl ⟨_, rfl, _, rfl, iF rfl ?_⟩⟩
        exact ⟨_, rfl, _, rfl, last _ (Same.refl _)⟩
      · refine ⟨_, rfl, iT rfl ?_⟩
        refine ⟨_, rfl, rfl, _, rfl, iF (by decide) ?_⟩
        refine ⟨_, rfl, _, rfl, iT rfl (iF rfl ?_)⟩
        exact ⟨_, rfl, _, rfl, last _ (Same.refl _)⟩
      · refine ⟨_, rfl, iT rfl ?_⟩
        refine ⟨_, rfl, rfl, _, rfl, iF (by decide) ?_⟩
        refine ⟨_, rfl, _, rfl, iT rfl (iF rfl ?_)⟩
        exact ⟨_, rfl, _, rfl, last _ (Same.refl _)⟩
    replace P1 := P1.same s10
    replace P2 := P2.same s10
    replace P3 := P3.same s10
    replace S6 := S6.trans s10
    clear s10
    refine seq_skip (Same H10) (fun R hR => ?_) (fun H11 s11 => ?_)
    · refine ⟨_, rfl, ?_⟩
      by_cases q1 : a ≤ b
      · refine ⟨_, rfl, iT (decide_eq_true q1) ?_⟩
        refine ⟨_, rfl, _, rfl, ld_upto A P2 P3 fun H11 s11 => ⟨_, rfl, ?_⟩⟩
        by_cases q2 : b ≤ c
        · refine iT (decide_eq_true q2) ?_
          refine ⟨_, rfl, _, rfl, ld_upto A (P1.same s11) (P3.same s11) fun H12 s12 => ⟨_, rfl, ?_⟩⟩
          rw [decide_eq_true (Int.le_trans q1 q2)]
          exact hR _ (s11.trans s12)
        · exact iF (decide_eq_false q2) (hR _ s11)
      · exact ⟨_, rfl, iF (decide_eq_false q1) (hR _ (Same.refl _))⟩
    replace P1 := P1.same s11
    replace P2 := P2.same s11
    replace P3 := P3.same s11
    replace S6 := S6.trans s11
    clear s11
    refine seq_skip (Same H11) (fun R hR => ?_) (fun H12 s12 => ?_)
    · refine ⟨_, rfl, ?_⟩
      by_cases q1 : a ≤ b
      · refine ⟨_, rfl, iT (decide_eq_true q1) ?_⟩
        refine ⟨_, rfl, _, rfl, fun t1 ht1 => ?_⟩
        have u1 := same_new (o := .tup [.str "whole", .int (clp (a + b))]) ht1
        refine ⟨_, rfl, _, rfl, ld_plus A (P2.same u1) (P2.same u1) fun H12 s12 => ⟨_, rfl, fun t2 ht2 => ?_⟩⟩
        have u2 := s12.trans (same_new (o := .tup [.str "whole", .int (clp (b + b))]) ht2)
        have cb := clp_bd (b + b)
        refine ld_upto A (Pl.wh (u2 _ _ upd_same) ct.1 ct.2) (Pl.wh upd_same cb.1 cb.2) fun H13 s13 => ⟨_, rfl, ?_⟩
        rw [decide_eq_true (clp_row q1)]
        exact hR _ (u1.trans (u2.trans s13))
      · exact ⟨_, rfl, iF (decide_eq_false q1) (hR _ (Same.refl _))⟩
    replace P1 := P1.same s12
    replace P2 := P2.same s12
    replace P3 := P3.same s12
    replace S6 := S6.trans s12
    clear s12
    refine seq_skip (Same H12) (fun R hR => ?_) (fun H13 s13 => ?_)
    · refine ⟨_, rfl, _, rfl, ld_minus A P1 P1 fun H13 s13 => ⟨rfl, _, rfl, ?_⟩⟩
      refine iF (neF (by rw [Int.sub_self]; rfl)) ?_
      refine ⟨_, rfl, _, rfl, fun t1 ht1 => ?_⟩
      have sa := s13.trans (same_new (o := .tup [.str "whole", .int 1]) ht1)
      refine ld_times A (P1.same sa) (Pl.wh upd_same (by decide) (by decide)) fun H14 s14 => ⟨_, rfl, rfl, _, rfl, ?_⟩
      refine iF (neF (by rw [Int.mul_one, clp_in ha])) ?_
      refine ⟨_, rfl, _, rfl, fun t2 ht2 => ?_⟩
      have sb := (sa.trans s14).trans (same_new (o := .tup [.str "whole", .int 0]) ht2)
      refine ld_plus A (P1.same sb) (Pl.wh upd_same (by decide) (by decide)) fun H15 s15 => ⟨_, rfl, rfl, _, rfl, ?_⟩
      rw [neF (by rw [Int.add_zero, clp_in ha])]
      exact hR _ (sb.trans s15)
    replace P1 := P1.same s13
    replace P2 := P2.same s13
    replace S6 := S6.trans s13
    clear s13
    refine ⟨_, rfl, pd_spell A P1 fun H14 r1 s14 g1 => ⟨_, rfl, pd_spell A (P2.same s14) fun H15 r2 s15 g2 => ⟨slz rfl, fun l hl => ?_⟩⟩⟩
    have S15 := S6.trans (s14.trans s15)
    have X1 := (spell_reads ha.1 ha.2)
    have G1 := s15 _ _ g1
    have n1 := same_new (o := .lst [.ref r1, .ref r2]) hl
    have Q1 : Pl (upd H15 l (.lst [.ref r1, .ref r2])) r1 "text" (.str (toString a)) := Pl.tx (n1 _ _ G1) (text_num ha)
    have Q2 : Pl (upd H15 l (.lst [.ref r1, .ref r2])) r2 "text" (.str (toString b)) := Pl.tx (n1 _ _ g2) (text_num hb)
    refine ⟨_, rfl, l, _, 0, _, rfl, rfl, SqL.of upd_same, rfl, _, rfl, l, _, 1, _, rfl, rfl, SqL.of upd_same, rfl, ld_eqtext A Q1 Q2 fun H16 s16 => ⟨_, rfl, rfl, ?_⟩⟩
    have ee : decide (V.bl (decide (Str.ofString (toString a) = Str.ofString (toString b))) = V.bl (decide (a = b))) = true := by
      have : decide (Str.ofString (toString a) = Str.ofString (toString b)) = decide (a = b) := decide_eq_decide.mpr (spell_inj ha.1 ha.2 hb.1 hb.2)
      exact decide_eq_true (congrArg V.bl this)
    refine ⟨_, rfl, iT ee ?_⟩
    refine ⟨_, rfl, l, _, 0, _, rfl, rfl, SqL.of (s16 _ _ upd_same), rfl, r1, _, 1, _, rfl, rfl, SqT.of (s16 _ _ (n1 _ _ G1)), rfl, _, _, rfl, X1.1, Nat.le_trans X1.2 (by decide), _, rfl, rfl, ?_⟩
    have fin := k H16 (S15.trans (n1.trans s16))
    rw [decide_eq_true (rfl : V.int a = V.int a)]
    exact fin
end
end L3

/-! defs that are called where nothing is being shown: they may ask repr -/
namespace L3
open PySem PySem.Spec PyProof.Rows L2
def FnG (P : Program) (w : World) (K : PySem.W.Frag) (mg : Str → Option Value) (base : Heap) (k : Nat) (f : Addr) (sp : Sp) : Prop :=
  ∀ (A : Around) (outer : List Env) (s : Shared) (H : Hp) (us : List Value) (vs : List V) (Q : VK), Room k A → A.guards = some [] → Env0 P w K mg base A outer s H → Vals vs us → sp vs H Q E0 →
    codeAny (model P w) A (.call (.ref f) ⟨us, []⟩) (CR CX0 outer P w H s Q E0) s
structure KnG (P : Program) (w : World) (K : PySem.W.Frag) (mg : Str → Option Value) (base : Heap) (k : Nat) (x : Str) (sp : Sp) : Prop where
  ex : ∃ (f : Addr), FnG P w K mg base k f sp ∧ mg x = some (.ref f) ∧ PySem.W.keepIn K (.ref f) = true
section
variable {X : Cx} {x : Str} {k : Nat} {sp : Sp} {e : Expr} {es : List Expr} {t : TA} {p pos : Pos}
def tCallG (sp : Sp) (t : TA) : TE := fun σ H Q => t σ H fun vs H1 => sp vs H1 Q E0
theorem pe_kg (D : KnG X.prog X.w X.K X.mg X.base k x sp) (hr : Room k X.A) (h0 : X.A.guards = some []) (ha : PA X (e :: es) t) (hg : Gl X x := by rfl) (hdb : (x == ("__debug__" : Str)) = false := by decide)
    (he : starEach (e :: es) X.env = (false, eval e X.env) :: starEach es X.env := by rfl) (hpl : (backTo pos (starEach es X.env)).any (·.1) = false := by rfl) :
    PE X (.Call (.Name x p) (e :: es) [] pos) (tCallG sp t) := by
  obtain ⟨f, F, hm, hk⟩ := D.ex
  refine ⟨fun pins s σ H Q I h => ?_⟩
  refine wpAny_Call_Name_kw (ld_glob I hg hm ?_ hdb)
  refine PySem.W.callWith_K (h₀ := X.base) I.ok.mod.kin hk (thn (ha.run pos pins s σ H _ I h) fun us s1 ⟨vs, H1, I1, r, q⟩ => ⟨I1.kIn, ?_⟩) he hpl
  refine wpAny_call (codeAny_mono (F X.A X.stack s1 H1 us vs Q hr h0 I1.env0 r q) fun r' s' hq => ?_)
  cases r' with
  | error e => exact pass0 pins σ H1 s1 e s' I1 hq
  | ok fl =>
    cases fl with
    | ret u => exact I1.after hq
    | next => exact hq.elim
    | brk => exact hq.elim
    | cont => exact hq.elim
end
section
variable {P : Program} {w : World} {K : PySem.W.Frag} {mg : Str → Option Value} {base : Heap}
theorem fnG_of {qual : Str} {st : Stmt} {f : Addr} {fd : FuncData} {N ps : List Str} {k : Nat} {sp : Sp} (F : Fun K qual qual st f fd) (S : FnScope N ps (defScope st)) (len : ∀ vs H Q E, sp vs H Q E → vs.length = ps.length) (hb : Binds K fd ps [])
    (hbody : ∀ (cdv : Value) (A : Around) (outer : List Env) (s : Shared) (H : Hp) (vs : List V) (Q : VK), Room k (A.deeper (envOfC qual (defScope st) s.heap.objs.size f cdv)) → A.guards = some [] → sp vs H Q E0 →
      ∃ t, PSs (cxOf CX0 P w K mg base N qual (defScope st) f cdv A outer s H E0).nox (defBody st) t ∧ t { nx := fun _ H' => Q .non H', rt := Q } (start N vs) H) : FnG P w K mg base (k + 1) f sp := by
  obtain ⟨oc, od, kV, doc, pm, an, cdv, ct, osl, rfl, lk, hcd⟩ := F.ex
  intro A outer s H us vs Q hr h0 e0 rv hsp
  have inK : K.In s.heap := e0.mod.kin.keeps fun b o z => (e0.bs b o z).1
  have noL : s.heap.NoLimit := e0.mod.nolimit.keeps fun b o z => (e0.bs b o z).1
  have hl := len _ _ _ _ hsp
  have kinds : ∀ y ∈ (ps.zip us : List (Str × Value)), (defScope st).names.lookup y.1 = some .local ∨ ((defScope st).names.lookup y.1 = some .cell ∧ ((cellsFrom (s.heap.objs.size + 1) (defScope st).names []).lookup y.1).isSome = true) := by
    rintro ⟨n, z⟩ hy
    rcases S.par n (List.of_mem_zip hy).1 with q | q
    · exact Or.inl q
    · exact Or.inr ⟨q, PySem.W.cellsFrom_some _ _ _ (Or.inl q)⟩
  have bd : BindsTo s (PySem.W.fnOf qual qual (defArgs st) (defBody st) (defScope st) .none kV doc pm an cdv ct) ⟨us, []⟩ (ps.zip (us ++ [])) := hb s us inK (by rw [List.append_nil, ← rv.length]; exact hl)
  rw [List.append_nil] at bd
  refine codeAny_call_function hr.depth (inK _ _ lk) rfl S.co S.gen rfl (PySem.W.codeRec_of inK hcd) (bd _ _ _ _ ?_)
  refine wpAny_newFunctionEnv_cells S.kind kinds fun env he s1 xx => ?_
  subst he
  refine ⟨noL.keeps xx.toInCall.keep, codeAny_func ?_⟩
  obtain ⟨t, ht, hq⟩ := hbody cdv A outer s H vs Q (hr.deeper _) h0 hsp
  have J : Inv (cxOf CX0 P w K mg base N qual (defScope st) f cdv A outer s H E0) [] (start N vs) H s1 := inv_start S hr.hd e0 hl rv xx
  refine wpAny_mono ((PSs.nox ht).run [] s1 (start N vs) H _ J hq) (fun fl s' hs => ?_) (fun e s' hs => hs)
  cases fl with
  | next =>
    obtain ⟨σ', H', J', q⟩ := hs
    exact ⟨V.non, H', J'.os, J'.bare, J'.base, J'.hok, rfl, q⟩
  | ret z =>
    obtain ⟨v', σ', H', J', rz, q⟩ := hs
    exact ⟨v', H', J'.os, J'.bare, J'.base, J'.hok, rz, q⟩
  | brk =>
    obtain ⟨_, _, _, q⟩ := hs
    exact q.elim
  | cont =>
    obtain ⟨_, _, _, q⟩ := hs
    exact q.elim
theorem grd_deep {A : Around} {env : Env} (h : A.guards = some []) : (A.deeper env).guards = some [] := h
end
end L3

namespace L3
open PySem L2 StX
/-- how a right text is shown -/
abbrev shT (x : Str) : Str := (PyData.tuple [.str "text", .str x]).shown
theorem rep_tx {H : Hp} {Q : VK} {p : Addr} {x : Str} (g : H p = some (.tup [.str "text", .str x])) (t : Tx x) (k : Q (.str (shT x)) H) : rReprA 0 [.ref p] H Q :=
  ⟨p, .tuple [.str "text", .str x], rfl, Da.tup (t := 0) g (.cons (.str _) (.cons (.str x) .nil)), by simp [PyData.showable, PyData.showableAll], by simp [PyData.depth, PyData.depthAll], Nat.le_trans (shown_len t.sg t.len) (by decide), k⟩
theorem sh_like {x y : Str} (hx : Tx x) (hy : Tx y) : decide (V.str (shT x) = V.str (shT y)) = decide (x = y) :=
  decide_eq_decide.mpr ⟨fun e => (shown_inj hx.sg hy.sg).mp (V.str.inj e), fun e => by rw [e]⟩
section
variable {P : Program} {w : World} {K : PySem.W.Frag} {mg : Str → Option Value} {base : Heap} {kA aA d C : Addr}
abbrev s__law_texts_right : Stmt := topS 36
abbrev N__law_texts_right : List Str := ["_law_a", "_law_b", "_law_c", "_law_one", "_law_other", "_law_third", "_law_both", "_law_later", "_law_sizes", "_law_is_upto", "_law_is_back", "_law_is_like", "_law_some"]
theorem sc__law_texts_right : FnScope N__law_texts_right ["_law_a", "_law_b", "_law_c"] (defScope s__law_texts_right) := ⟨rfl, rfl, rfl, by decide +kernel, rfl, by decide +kernel, by decide +kernel⟩
def spTexts : Sp := fun vs H Q _ => ∃ a b c : Str, vs = [.str a, .str b, .str c] ∧ Tx a ∧ Tx b ∧ Tx c ∧ ∀ H', Same H H' → Q (.bl true) H'
theorem gok_texts {f : Addr} {fd : FuncData} (F : Fun K "_law_texts_right" "_law_texts_right" s__law_texts_right f fd) (hb : Binds K fd ["_law_a", "_law_b", "_law_c"] []) (B : Bl mg) (M : Mn mg) (hC : mg "Primitives" = some (.ref C)) (SM : SmK K C "done" d) (D_done : FnR P w K mg base CX0 4 d (spStar 1 (spDone P w K mg base kA aA))) (A : Ac P w K mg base kA aA)
    (D__law_done : Kn P w K mg base 5 "_law_done" ["_law_which", "_law_one", "_law_other"] (spLDone P w K mg base kA aA)) : FnG P w K mg base 6 f spTexts := by
  refine fnG_of F sc__law_texts_right (fun vs H Q E h => ?_) hb (fun cdv Ar outer s H vs Q hr hg h => ?_)
  · obtain ⟨a, b, c, rfl, _⟩ := h
    rfl
  · obtain ⟨a, b, c, rfl, ha, hb, hc, k⟩ := h
    have hr__law_done : Room 5 _ := hr
    have hr_done : Room 4 _ := hr.mono (by decide)
    have hu64 := hr.units
    have hgd := grd_deep (env := PyProof.Rows.envOfC "_law_texts_right" (defScope s__law_texts_right) s.heap.objs.size f cdv) hg
    refine ⟨_, (pss_cons (ps_par3 (i := 3) (j := 4) (l := 5) (by rfl) sc__law_texts_right.nd rfl rfl rfl (by decide) (by decide) (by decide) rfl rfl rfl (pa_cons (pe_tup (pa_cons pe_str (pa_cons (pv 0) pa_nil))) (pa_cons (pe_tup (pa_cons pe_str (pa_cons (pv 1) pa_nil))) (pa_cons (pe_tup (pa_cons pe_str (pa_cons (pv 2) pa_nil))) pa_nil))) (by rfl))
  (pss_cons (ps_par (i := 6) (j := 7) (by rfl) sc__law_texts_right.nd rfl rfl (by decide) rfl rfl (pa_cons (pe_sm hC SM D_done hr_done (pa_cons pe_str (pa_cons (pv 3) (pa_cons (pv 4) pa_nil)))) (pa_cons (pe_sm hC SM D_done hr_done (pa_cons pe_str (pa_cons (pv 4) (pa_cons (pv 5) pa_nil)))) pa_nil)) (by rfl))
  (pss_cons (ps_if (pt_cmpR op_ne (pe_callB (call_reprA 0 hgd hu64) (by rfl) B.repr (by decide +kernel) (pa_cons (pe_sm hC SM D_done hr_done (pa_cons pe_str (pa_cons (pv 6) (pa_cons (pv 5) pa_nil)))) pa_nil)) (pe_callB (call_reprA 0 hgd hu64) (by rfl) B.repr (by decide +kernel) (pa_cons (pe_sm hC SM D_done hr_done (pa_cons pe_str (pa_cons (pv 3) (pa_cons (pv 7) pa_nil)))) pa_nil)) (nomark _))
  (pss_one (ps_ret pe_bl))
  pss_nil)
  (pss_cons (ps_setLc (i := 8) (own := [("_law_some", 12)]) rfl sc__law_texts_right.nd rfl rfl (sw_true rfl rfl rfl (by decide +kernel)) (pi_tup (pe_tup (pa_cons (pv 3) (pa_cons (pv 4) (pa_cons (pv 6) pa_nil))))) (blkOk_by (N := N__law_texts_right) (sc := (defScope s__law_texts_right)) (own := [("_law_some", 12)]) (by decide +kernel)) (fun _ _ _ _ _ => (pg_name (i := 12) sc__law_texts_right.nd rfl (Or.inl rfl))) (fun _ _ _ _ _ => pts_nil) (fun _ _ _ _ _ => (pe_ix (show IxR _ (rIxT K) from ix_tup) (pe_sm hC SM D_done hr_done (pa_cons pe_str (pa_cons (pv 12) pa_nil))) pe_int (fun _ _ => rfl))))
  (pss_cons (ps_if (PW.pt (pw_or (pt_cmpR op_ne (pe_ix ix_list (pv 8) pe_int (fun _ _ => rfl)) (pe_callB (call_min2 rfl) (by rfl) M.min PyProof.Rows.boot_min (pa_cons pe_int (pa_cons (pe_op op_add (pe_ix ix_list (pv 8) pe_int (fun _ _ => rfl)) (pe_ix ix_list (pv 8) pe_int (fun _ _ => rfl))) pa_nil))) (nomark _)) (pw_or1 (pt_cmpR op_ne (pe_callB (call_reprA 0 hgd hu64) (by rfl) B.repr (by decide +kernel) (pa_cons (pe_sm hC SM D_done hr_done (pa_cons pe_str (pa_cons (pv 3) (pa_cons (pe_tup (pa_cons pe_str (pa_cons pe_str pa_nil))) pa_nil)))) pa_nil)) (pe_callB (call_reprA 0 hgd hu64) (by rfl) B.repr (by decide +kernel) (pa_cons (pv 3) pa_nil)) (nomark _)))))
  (pss_one (ps_ret pe_bl))
  pss_nil)
  (pss_cons (ps_par3 (i := 9) (j := 10) (l := 11) (by rfl) sc__law_texts_right.nd rfl rfl rfl (by decide) (by decide) (by decide) rfl rfl rfl (pa_cons (pe_kn D__law_done hr__law_done (pa_cons pe_str (pa_cons (pv 3) (pa_cons (pv 4) pa_nil)))) (pa_cons (pe_kn D__law_done hr__law_done (pa_cons pe_str (pa_cons (pv 4) (pa_cons (pv 3) pa_nil)))) (pa_cons (pe_kn D__law_done hr__law_done (pa_cons pe_str (pa_cons (pv 3) (pa_cons (pv 4) pa_nil)))) pa_nil))) (by rfl))
  (pss_cons (ps_if (PW.pt (pw_or (pt_cmpR op_ne (pv 11) (pe_and (pv 9) (pe_one (pv 10))) (nomark _)) (pw_or (pt_not (PW.pt (pw_or (pt_val (pv 9)) (pw_or1 (pt_val (pv 10)))))) (pw_or1 (pt_cmpR op_ne (pv 11) (pe_cmpR op_eq (pe_callB (call_reprA 0 hgd hu64) (by rfl) B.repr (by decide +kernel) (pa_cons (pv 3) pa_nil)) (pe_callB (call_reprA 0 hgd hu64) (by rfl) B.repr (by decide +kernel) (pa_cons (pv 4) pa_nil)) (nomark _)) (nomark _))))))
  (pss_one (ps_ret pe_bl))
  pss_nil)
  (pss_cons (ps_if (PW.pt (pw_and (pt_val (pv 9)) (pw_and (pt_val (pe_kn D__law_done hr__law_done (pa_cons pe_str (pa_cons (pv 4) (pa_cons (pv 5) pa_nil))))) (pw_and1 (pt_not (pt_val (pe_kn D__law_done hr__law_done (pa_cons pe_str (pa_cons (pv 3) (pa_cons (pv 5) pa_nil))))))))))
  (pss_one (ps_ret pe_bl))
  pss_nil)
  (pss_one (ps_ret (pe_and (pe_kn D__law_done hr__law_done (pa_cons pe_str (pa_cons (pv 3) (pa_cons (pv 6) pa_nil)))) (pe_one (pe_or (pv 11) (pe_one (pe_and (pe_not (pv 11)) (pe_one (pe_cmpR op_ne (pv 9) (pv 10) (nomark _)))))))))))))))))), ?_⟩
    refine ⟨_, rfl, slz rfl, fun p1 h1 => ⟨_, rfl, slz rfl, fun p2 h2 => ⟨_, rfl, slz rfl, fun p3 h3 => ?_⟩⟩⟩
    have s2 := same_new (o := .tup [.str "text", .str b]) h2
    have s3 := same_new (o := .tup [.str "text", .str c]) h3
    have P1 := (Pl.tx (a := p1) (H := upd H p1 (.tup [.str "text", .str a])) upd_same ha.1).same (s2.trans s3)
    have P2 := (Pl.tx (a := p2) (x := b) upd_same hb.1).same s3
    have P3 := (Pl.tx (a := p3) (x := c) (H := upd (upd (upd H p1 (.tup [.str "text", .str a])) p2 (.tup [.str "text", .str b])) p3 (.tup [.str "text", .str c])) upd_same hc.1)
    have S0 := (same_new (o := .tup [.str "text", .str a]) h1).trans (s2.trans s3)
    refine ⟨_, _, _, rfl, ?_⟩
    dsimp only
    generalize upd (upd (upd H p1 (.tup [.str "text", .str a])) p2 (.tup [.str "text", .str b])) p3 (.tup [.str "text", .str c]) = H0 at P1 P2 P3 S0 ⊢
    clear s2 s3 h1 h2 h3
    refine ⟨_, rfl, _, rfl, pd_join A P1 P2 fun H1 r4 s4 g4 => ⟨_, rfl, _, rfl, pd_join A (P2.same s4) (P3.same s4) fun H2 r5 s5 g5 => ?_⟩⟩
    have tab := ha.cut hb
    have tbc := hb.cut hc
    have S2 := s4.trans s5
    have P4 : Pl H2 r4 "text" (.str (cutS (a ++ b) none (some 200))) := Pl.tx (s5 _ _ g4) tab.1
    have P5 : Pl H2 r5 "text" (.str (cutS (b ++ c) none (some 200))) := Pl.tx g5 tbc.1
    replace P1 := P1.same S2
    replace P2 := P2.same S2
    replace P3 := P3.same S2
    replace S0 := S0.trans S2
    clear S2 s4 s5 g4 g5
    refine ⟨_, _, rfl, ?_⟩
    dsimp only
    refine seq_skip (Same H2) (fun R hR => ?_) (fun H3 s3 => ?_)
    · refine ⟨_, rfl, _, rfl, pd_join A P4 P3 fun H3 r6 s6 g6 => ?_⟩
      dsimp only [tNil]
      refine rep_tx g6 (tab.cut hc) ⟨_, rfl, _, rfl, pd_join A (P1.same s6) (P5.same s6) fun H4 r7 s7 g7 => ?_⟩
      dsimp only [tNil]
      refine rep_tx g7 (ha.cut tbc) ⟨rfl, _, rfl, ?_⟩
      rw [neF (by rw [cut_cut])]
      exact hR _ (s6.trans s7)
    replace P1 := P1.same s3
    replace P2 := P2.same s3
    replace P3 := P3.same s3
    replace P4 := P4.same s3
    replace S0 := S0.trans s3
    clear s3 P5
    refine ⟨_, rfl, _, rfl, _, rfl, slz rfl, fun q hq => ?_⟩
    have sq := same_new (o := .tup [.ref p1, .ref p2, .ref r4]) hq
    have gq : (upd H3 q (.tup [.ref p1, .ref p2, .ref r4])) q = some (.tup [.ref p1, .ref p2, .ref r4]) := upd_same
    have ab := tab.len
    generalize upd H3 q (.tup [.ref p1, .ref p2, .ref r4]) = Hq at sq gq ⊢
    refine ⟨q, rfl, ⟨_, SqT.of gq⟩, fun D hD => lc_it walk_tup (fun i H' => Same Hq H' ∧ H' D = some (.lst (([V.int a.length, .int b.length, .int (cutS (a ++ b) none (some 200)).length] : List V).take i))) ⟨same_new hD, upd_same⟩ (fun i H' _ h => SqT.of (h.1 _ _ gq)) ?_ ?_⟩
    · rintro i y H4 H5 hi ⟨s4, g4⟩ ⟨rfl, ey⟩
      refine ⟨rfl, ?_⟩
      obtain ⟨p, x, rfl, pp, ex⟩ : ∃ (p : Addr) (x : Str), y = .ref p ∧ Pl H5 p "text" (.str x) ∧ ([V.int a.length, .int b.length, .int (cutS (a ++ b) none (some 200)).length] : List V)[i]? = some (.int x.length) := by
        match i, ey, hi with
        | 0, ey, _ => exact ⟨p1, a, (Option.some.inj ey).symm, P1.same (sq.trans s4), rfl⟩
        | 1, ey, _ => exact ⟨p2, b, (Option.some.inj ey).symm, P2.same (sq.trans s4), rfl⟩
        | 2, ey, _ => exact ⟨r4, _, (Option.some.inj ey).symm, P4.same (sq.trans s4), rfl⟩
        | _ + 3, ey, _ => cases ey
      refine ⟨_, rfl, pd_size A pp fun H6 r s5 g5 => ?_⟩
      refine ⟨r, _, 1, _, rfl, rfl, SqT.of g5, rfl, _, s5 _ _ g4, szl (by simp; omega), fun b o e => ?_, ?_⟩
      · rw [upd_ne (ne_of_none e hD)]
        exact s5 _ _ (s4 _ _ e)
      · rw [upd_same, List.take_add_one, ex]
        rfl
    · rintro H4 ⟨s4, g4⟩
      replace g4 : H4 D = some (.lst [V.int a.length, .int b.length, .int (cutS (a ++ b) none (some 200)).length]) := g4
      have S4 := sq.trans s4
      replace P1 := P1.same S4
      replace P2 := P2.same S4
      replace P3 := P3.same S4
      replace P4 := P4.same S4
      replace S0 := S0.trans S4
      clear S4 sq s4 gq hD
      unfold gName
      dsimp only
      refine seq_skip (Same H4) (fun R hR => ?_) (fun H5 s5 => ?_)
      · refine ⟨_, rfl, D, _, 2, _, rfl, rfl, SqL.of g4, rfl, ?_⟩
        refine ⟨_, rfl, D, _, 0, _, rfl, rfl, SqL.of g4, rfl, _, rfl, D, _, 1, _, rfl, rfl, SqL.of g4, rfl, _, _, rfl, rfl, _, _, rfl, rfl, _, rfl, ?_⟩
        refine iF (neF (by rw [cut_lenE, Str.length_append]; congr 1; split <;> omega)) ?_
        refine ⟨_, rfl, slz rfl, fun e he => ?_⟩
        have se := same_new (o := .tup [.str "text", .str ""]) he
        refine pd_join A (P1.same se) (Pl.tx (x := "") upd_same (by decide +kernel)) fun H6 r6 s6 g6 => ?_
        dsimp only [tNil]
        have e0 : cutS (a ++ "") none (some 200) = a := by
          have : a ++ "" = a := Str.eq_of (by show (a.cps ++ #[]).toList = _; simp)
          rw [this, cut_self ha.len]
        rw [e0] at g6
        refine rep_tx g6 ha ⟨_, rfl, ?_⟩
        dsimp only [tNil]
        refine rep_tx ((se.trans s6) _ _ P1.1) ha ⟨rfl, _, rfl, ?_⟩
        rw [neF rfl]
        exact hR _ (se.trans s6)
      replace P1 := P1.same s5
      replace P2 := P2.same s5
      replace P3 := P3.same s5
      replace P4 := P4.same s5
      replace S0 := S0.trans s5
      clear s5 g4
      refine ⟨_, rfl, _, rfl, ld_uptotext A P1 P2 fun H7 s7 => ⟨_, rfl, _, rfl, ld_uptotext A (P2.same s7) (P1.same s7) fun H8 s8 => ⟨_, rfl, _, rfl, ld_eqtext A (P1.same (s7.trans s8)) (P2.same (s7.trans s8)) fun H9 s9 => ?_⟩⟩⟩
      have S9 := s7.trans (s8.trans s9)
      replace P1 := P1.same S9
      replace P2 := P2.same S9
      replace P3 := P3.same S9
      replace P4 := P4.same S9
      replace S0 := S0.trans S9
      clear S9 s7 s8 s9
      refine ⟨_, _, _, rfl, ?_⟩
      dsimp only
      refine seq_skip (Same H9) (fun R hR => ?_) (fun H10 s10 => ?_)
      · have e4 := sh_like ha hb
        have e1 := leS_like a b
        have e2 : (leS a b || leS b a) = true := by
          rcases leS_total a b with h | h
          · rw [h]
            rfl
          · rw [h, Bool.or_true]
        refine ⟨_, rfl, _, rfl, ?_⟩
        generalize leS a b = x at e1 e2 ⊢
        generalize leS b a = y at e1 e2 ⊢
        generalize decide (a = b) = z at e1 e4 ⊢
        subst e1
        cases x <;> cases y <;> cases e2
        · refine ⟨_, rfl, iF rfl ?_⟩
          refine ⟨rfl, _, rfl, iF (by decide) ?_⟩
          refine ⟨_, rfl, _, rfl, iF rfl ⟨_, rfl, _, rfl, iF rfl ⟨_, rfl, _, rfl, ?_⟩⟩⟩
          dsimp only [tNil]
          refine rep_tx P1.1 ha ⟨_, rfl, ?_⟩
          dsimp only [tNil]
          refine rep_tx P2.1 hb ⟨rfl, rfl, _, rfl, ?_⟩
          rw [neF (congrArg V.bl e4.symm)]
          exact hR _ (Same.refl _)
        · refine ⟨_, rfl, iT rfl ?_⟩
          refine ⟨_, rfl, rfl, _, rfl, iF (by decide) ?_⟩
          refine ⟨_, rfl, _, rfl, iT rfl (iF rfl ⟨_, rfl, _, rfl, ?_⟩)⟩
          dsimp only [tNil]
          refine rep_tx P1.1 ha ⟨_, rfl, ?_⟩
          dsimp only [tNil]
          refine rep_tx P2.1 hb ⟨rfl, rfl, _, rfl, ?_⟩
          rw [neF (congrArg V.bl e4.symm)]
          exact hR _ (Same.refl _)
        · refine ⟨_, rfl, iT rfl ?_⟩
          refine ⟨_, rfl, rfl, _, rfl, iF (by decide) ?_⟩
          refine ⟨_, rfl, _, rfl, iT rfl (iF rfl ⟨_, rfl, _, rfl, ?_⟩)⟩
          dsimp only [tNil]
          refine rep_tx P1.1 ha ⟨_, rfl, ?_⟩
          dsimp only [tNil]
          refine rep_tx P2.1 hb ⟨rfl, rfl, _, rfl, ?_⟩
          rw [neF (congrArg V.bl e4.symm)]
          exact hR _ (Same.refl _)
      replace P1 := P1.same s10
      replace P2 := P2.same s10
      replace P3 := P3.same s10
      replace P4 := P4.same s10
      replace S0 := S0.trans s10
      clear s10
      refine seq_skip (Same H10) (fun R hR => ?_) (fun H11 s11 => ?_)
      · refine ⟨_, rfl, _, rfl, ?_⟩
        cases q1 : leS a b with
        | false => exact iF rfl (hR _ (Same.refl _))
        | true =>
          refine iT rfl ?_
          refine ⟨_, rfl, _, rfl, ld_uptotext A P2 P3 fun H11 s11 => ⟨_, rfl, ?_⟩⟩
          cases q2 : leS b c with
          | false => exact iF rfl (hR _ s11)
          | true =>
            refine iT rfl ?_
            refine ⟨_, rfl, _, rfl, ld_uptotext A (P1.same s11) (P3.same s11) fun H12 s12 => ⟨_, rfl, ?_⟩⟩
            rw [leS_trans q1 q2]
            exact hR _ (s11.trans s12)
      refine ⟨_, rfl, _, rfl, ld_uptotext A (P1.same s11) (P4.same s11) fun H12 s12 => ⟨_, rfl, ?_⟩⟩
      refine iT (leS_cut ha.len) ?_
      have fin := k H12 (S0.trans (s11.trans s12))
      refine ⟨_, rfl, _, rfl, ?_⟩
      cases q : decide (a = b) with
      | true => exact iT rfl fin
      | false =>
        refine iF rfl ?_
        have e1 := leS_like a b
        rw [q] at e1
        have e2 := leS_total a b
        refine ⟨_, rfl, _, rfl, _, rfl, iT rfl ?_⟩
        generalize leS a b = x at e1 e2 ⊢
        generalize leS b a = y at e1 e2 ⊢
        cases x <;> cases y
        · rcases e2 with z | z <;> cases z
        · exact ⟨_, rfl, _, rfl, rfl, fin⟩
        · exact ⟨_, rfl, _, rfl, rfl, fin⟩
        · cases e1
end
end L3

namespace L3
open PySem L2 StX
theorem three_of {α : Type} {l : List α} (h : l.length = 3) : ∃ x y z, l = [x, y, z] := by
  match l, h with
  | [x, y, z], _ => exact ⟨x, y, z, rfl⟩
section
variable {P : Program} {w : World} {K : PySem.W.Frag} {mg : Str → Option Value} {base : Heap}
abbrev s_law : Stmt := topS 37
abbrev N_law : List Str := ["_law_script", "_law_tape", "_law_turn", "_law_a", "_law_b", "_law_c"]
theorem sc_law : FnScope N_law ["_law_script"] (defScope s_law) := ⟨rfl, rfl, rfl, by decide +kernel, rfl, by decide +kernel, by decide +kernel⟩
def spLaw (K : PySem.W.Frag) : List V → Hp → VK → Prop := fun vs H Q => ∃ (a : Addr) (ns : List Int), vs = [.ref a] ∧ SqL K H a (ns.map V.int) ∧ ∀ H', Q (.bl true) H'
theorem law_run {f : Addr} {fd : FuncData} (F : Fun K "law" "law" s_law f fd) (B : Bl mg) (D__law_begin : Kn P w K mg base 1 "_law_begin" ["_law_script"] (spBegin K))
    (D__law_numbers : Kn P w K mg base 3 "_law_numbers" ["_law_tape"] (spNums K)) (D__law_strings : Kn P w K mg base 3 "_law_strings" ["_law_tape"] (spStrs K))
    (D__law_wholes_right : Kn P w K mg base 6 "_law_wholes_right" ["_law_a", "_law_b", "_law_c"] spWholes) (D__law_texts_right : KnG P w K mg base 6 "_law_texts_right" spTexts) :
    LawRun P w K mg base f fd "_law_script" (spLaw K) := by
  refine lawRun_of F sc_law (k := 10) ⟨rfl, by decide, by decide⟩ (fun cdv s H v Q hr h => ?_)
  obtain ⟨a, ns, h, hS, k⟩ := h
  cases h
  have hgd : (callerA.deeper (PyProof.Rows.envOfC "law" (defScope s_law) s.heap.objs.size f cdv)).guards = some [] := rfl
  have hr__law_begin : Room 1 _ := hr.mono (by decide)
  have hr__law_numbers : Room 3 _ := hr.mono (by decide)
  have hr__law_strings : Room 3 _ := hr.mono (by decide)
  have hr__law_wholes_right : Room 6 _ := hr.mono (by decide)
  have hr__law_texts_right : Room 6 _ := hr.mono (by decide)
  have hu64 := hr.units
  refine ⟨_, (pss_cons (ps_set (i := 1) sc_law.nd rfl (Or.inl rfl) (pe_kn D__law_begin hr__law_begin (pa_cons (pv 0) pa_nil)))
  (pss_cons (ps_for PassesOwn.never rfl (pi_range1 (by rfl) B.range (pa_cons pe_int pa_nil)) (pg_name (i := 2) sc_law.nd rfl (Or.inl rfl))
  (pss_cons (ps_asg (pe_kn D__law_numbers hr__law_numbers (pa_cons (pv 1) pa_nil)) (pg_unl (by rfl) (pgs_cons (pg_name (i := 3) sc_law.nd rfl (Or.inl rfl)) (pgs_cons (pg_name (i := 4) sc_law.nd rfl (Or.inl rfl)) (pgs_cons (pg_name (i := 5) sc_law.nd rfl (Or.inl rfl)) pgs_nil)))))
  (pss_cons (ps_if (pt_not (pt_val (pe_kn D__law_wholes_right hr__law_wholes_right (pa_cons (pv 3) (pa_cons (pv 4) (pa_cons (pv 5) pa_nil))))))
  (pss_one (ps_ret pe_bl))
  pss_nil)
  (pss_cons (ps_asg (pe_kn D__law_strings hr__law_strings (pa_cons (pv 1) pa_nil)) (pg_unl (by rfl) (pgs_cons (pg_name (i := 3) sc_law.nd rfl (Or.inl rfl)) (pgs_cons (pg_name (i := 4) sc_law.nd rfl (Or.inl rfl)) (pgs_cons (pg_name (i := 5) sc_law.nd rfl (Or.inl rfl)) pgs_nil)))))
  (pss_one (ps_if (pt_not (pt_val (pe_kg D__law_texts_right hr__law_texts_right hgd (pa_cons (pv 3) (pa_cons (pv 4) (pa_cons (pv 5) pa_nil))))))
  (pss_one (ps_ret pe_bl))
  pss_nil))))))
  (pss_one (ps_ret pe_bl)))), ?_⟩
  refine ⟨_, rfl, a, ns, rfl, hS, fun H1 t c s1 nt T1 => ?_⟩
  refine ⟨20, rfl, by decide, by decide, ?_⟩
  refine for_range (lo := 0) (n := 20) (fun i σ H' => ∃ (v2 v3 v4 v5 : Option V), σ = [some (.ref a), some (.ref t), v2, v3, v4, v5] ∧ Tape K H' t c ((20 - i) * 100)) ⟨_, _, _, _, rfl, T1.less (by decide)⟩ (fun i σ H2 hi h => ?_) (fun σ H2 h => ?_)
  · obtain ⟨v2, v3, v4, v5, rfl, T2⟩ := h
    have cost : (20 - i) * 100 = (20 - (i + 1)) * 100 + 100 := by omega
    rw [cost] at T2
    generalize (20 - (i + 1)) * 100 = b at T2 ⊢
    refine ⟨_, rfl, t, c, b + 50, rfl, T2.less (by omega), fun H3 r ns e3 T3 gr ln hn => ?_⟩
    obtain ⟨x, y, z, rfl⟩ := three_of ln
    refine ⟨r, _, rfl, SqL.of gr, rfl, _, _, rfl, _, _, rfl, _, _, rfl, rfl, ?_⟩
    refine ⟨_, rfl, _, rfl, _, rfl, x, y, z, rfl, hn x (by simp), hn y (by simp), hn z (by simp), fun H4 s4 => ⟨_, rfl, iF rfl ?_⟩⟩
    refine ⟨_, rfl, t, c, b, rfl, (T3.same s4).less (by omega), fun H5 r5 ns5 e5 T5 gr5 ln5 hn5 => ?_⟩
    obtain ⟨x5, y5, z5, rfl⟩ := three_of ln5
    refine ⟨r5, _, rfl, SqL.of gr5, rfl, _, _, rfl, _, _, rfl, _, _, rfl, rfl, ?_⟩
    refine ⟨_, rfl, _, rfl, _, rfl, x5, y5, z5, rfl, hn5 x5 (by simp), hn5 y5 (by simp), hn5 z5 (by simp), fun H6 s6 => ⟨_, rfl, iF rfl ?_⟩⟩
    exact ⟨_, _, _, _, rfl, T5.same s6⟩
  · obtain ⟨v2, v3, v4, v5, rfl, T2⟩ := h
    exact k H2
end
end L3

namespace L3
open PySem L2
theorem does_of {P : Program} {w : World} {K : PySem.W.Frag} {mg : Str → Option Value} {base : Heap} {f : Addr} {fd : FuncData} {ps : List Str} {k : Nat} {sp : Sp} (F : FnOk P w K mg base CX0 k f fd ps sp) (hb : Binds K fd ps []) (hk : k ≤ 3) (kp : PySem.W.keepIn K (.ref f) = true) : Does P w K mg base 3 f sp := by
  refine ⟨?_, kp⟩
  have R := F.raw hb .nil
  intro A outer s H us vs Q E hr e0 r hs
  exact R A outer s H us vs Q E (hr.mono hk) e0 r (show sp (vs ++ []) H Q E by rw [List.append_nil]; exact hs)
theorem kw_of {K : PySem.W.Frag} {w : World} {kA wa : Addr} {x last : Str} {ws : List Str} {es : Array DictEntry} {nb : Nat} {od : Option Addr} {its : Array Value} {n : Nat} {sl : Array (Option Value)} (l : K.lookup kA = some ⟨.type "dict", none, .dict es nb, #[]⟩) (kl : PySem.W.KeysLit w.params es.toList)
    (e : PySem.W.nsIn K kA x = some (some (.ref wa))) (lw : K.lookup wa = some ⟨.type "tuple", od, .seq its n, sl⟩) (v : Vals (ws.map V.str ++ [.str last]) its.toList) (hl : ws.length ≤ 100) : KW K w kA x ws last := by
  refine ⟨wa, ⟨_, _, _, l, kl, e, rfl⟩, fun H' => .inr ⟨_, _, _, lw, rfl, rfl, ?_, v⟩⟩
  have e2 : its.size = its.toList.length := by simp
  rw [e2, ← v.length, List.length_append, List.length_map]
  exact Nat.le_trans (Nat.add_le_add_right hl 1) (by decide)
theorem all_mk {l : PySem.W.OpenLaw} {w : World} {K : PySem.W.Frag} {h : Heap} {mg : Str → Option Value} {fa kA aA C smP f1 f2 f3 f4 f5 f6 f7 f8 f9 f10 f11 f12 f13 f14 f15 f16 f17 f18 f19 f20 f21 f22 f23 f24 f25 f26 w0 w1 w2 w3 w4 w5 w6 w7 w8 w9 : Addr} (X : K.In h) (G : h.Ns mainGlobals mg) (hfa : mg "law" = some (.ref fa))
    {od1 an1 od2 an2 od3 an3 od4 an4 od5 an5 od6 an6 od7 an7 od8 an8 od9 an9 od10 an10 od11 an11 od12 an12 od13 an13 od14 an14 od15 an15 od16 an16 od17 an17 od18 an18 od19 an19 od20 an20 od21 an21 od22 an22 od23 an23 od24 an24 od25 an25 od26 an26 oe0 oe1 oe2 oe3 oe4 oe5 oe6 oe7 oe8 oe9 : Option Addr} {sl1 sl2 sl3 sl4 sl5 sl6 sl7 sl8 sl9 sl10 sl11 sl12 sl13 sl14 sl15 sl16 sl17 sl18 sl19 sl20 sl21 sl22 sl23 sl24 sl25 sl26 sm0 sm1 sm2 sm3 sm4 sm5 sm6 sm7 sm8 sm9 : Array (Option Value)} {uO uX oc1 kV1 dc1 pm1 cd1 ct1 oc2 kV2 dc2 pm2 cd2 ct2 oc3 kV3 dc3 pm3 cd3 ct3 oc4 kV4 dc4 pm4 cd4 ct4 oc5 kV5 dc5 pm5 cd5 ct5 oc6 kV6 dc6 pm6 cd6 ct6 oc7 kV7 dc7 pm7 cd7 ct7 oc8 kV8 dc8 pm8 cd8 ct8 oc9 kV9 dc9 pm9 cd9 ct9 oc10 kV10 dc10 pm10 cd10 ct10 oc11 kV11 dc11 pm11 cd11 ct11 oc12 kV12 dc12 pm12 cd12 ct12 oc13 kV13 dc13 pm13 cd13 ct13 oc14 kV14 dc14 pm14 cd14 ct14 oc15 kV15 dc15 pm15 cd15 ct15 oc16 kV16 dc16 pm16 cd16 ct16 oc17 kV17 dc17 pm17 cd17 ct17 oc18 kV18 dc18 pm18 cd18 ct18 oc19 kV19 dc19 pm19 cd19 ct19 oc20 kV20 dc20 pm20 cd20 ct20 oc21 kV21 dc21 pm21 cd21 ct21 oc22 kV22 dc22 pm22 cd22 ct22 oc23 kV23 dc23 pm23 cd23 ct23 oc24 kV24 dc24 pm24 cd24 ct24 oc25 kV25 dc25 pm25 cd25 ct25 oc26 kV26 dc26 pm26 cd26 ct26 : Value} {es es2  : Array DictEntry} {nb nb2 nn0 nn1 nn2 nn3 nn4 nn5 nn6 nn7 nn8 nn9 : Nat} {it0 it1 it2 it3 it4 it5 it6 it7 it8 it9 : Array Value} {smR : List Value}
    (a1 : PySem.W.nsIn K mainGlobals "is_integer" = some (some (.ref f1))) (l1 : K.lookup f1 = some ⟨oc1, od1, .func (PySem.W.fnOf "is_integer" "is_integer" (defArgs s_is_integer) (defBody s_is_integer) (defScope s_is_integer) .none kV1 dc1 pm1 an1 cd1 ct1), sl1⟩) (c1 : PySem.W.codeIn K cd1 "is_integer" = true) (k1 : PySem.W.keepIn K (.ref f1) = true)
    (a2 : PySem.W.nsIn K mainGlobals "is_whole" = some (some (.ref f2))) (l2 : K.lookup f2 = some ⟨oc2, od2, .func (PySem.W.fnOf "is_whole" "is_whole" (defArgs s_is_whole) (defBody s_is_whole) (defScope s_is_whole) .none kV2 dc2 pm2 an2 cd2 ct2), sl2⟩) (c2 : PySem.W.codeIn K cd2 "is_whole" = true) (k2 : PySem.W.keepIn K (.ref f2) = true)
    (a3 : PySem.W.nsIn K mainGlobals "is_text" = some (some (.ref f3))) (l3 : K.lookup f3 = some ⟨oc3, od3, .func (PySem.W.fnOf "is_text" "is_text" (defArgs s_is_text) (defBody s_is_text) (defScope s_is_text) .none kV3 dc3 pm3 an3 cd3 ct3), sl3⟩) (c3 : PySem.W.codeIn K cd3 "is_text" = true) (k3 : PySem.W.keepIn K (.ref f3) = true)
    (a4 : PySem.W.nsIn K mainGlobals "check_primitive" = some (some (.ref f4))) (l4 : K.lookup f4 = some ⟨oc4, od4, .func (PySem.W.fnOf "check_primitive" "check_primitive" (defArgs s_check_primitive) (defBody s_check_primitive) (defScope s_check_primitive) .none kV4 dc4 pm4 an4 cd4 ct4), sl4⟩) (c4 : PySem.W.codeIn K cd4 "check_primitive" = true) (k4 : PySem.W.keepIn K (.ref f4) = true)
    (a5 : PySem.W.nsIn K mainGlobals "is_plain" = some (some (.ref f5))) (l5 : K.lookup f5 = some ⟨oc5, od5, .func (PySem.W.fnOf "is_plain" "is_plain" (defArgs s_is_plain) (defBody s_is_plain) (defScope s_is_plain) .none kV5 dc5 pm5 an5 cd5 ct5), sl5⟩) (c5 : PySem.W.codeIn K cd5 "is_plain" = true) (k5 : PySem.W.keepIn K (.ref f5) = true)
    (a6 : PySem.W.nsIn K mainGlobals "bounded" = some (some (.ref f6))) (l6 : K.lookup f6 = some ⟨oc6, od6, .func (PySem.W.fnOf "bounded" "bounded" (defArgs s_bounded) (defBody s_bounded) (defScope s_bounded) .none kV6 dc6 pm6 an6 cd6 ct6), sl6⟩) (c6 : PySem.W.codeIn K cd6 "bounded" = true) (k6 : PySem.W.keepIn K (.ref f6) = true)
    (a7 : PySem.W.nsIn K mainGlobals "truth" = some (some (.ref f7))) (l7 : K.lookup f7 = some ⟨oc7, od7, .func (PySem.W.fnOf "truth" "truth" (defArgs s_truth) (defBody s_truth) (defScope s_truth) .none kV7 dc7 pm7 an7 cd7 ct7), sl7⟩) (c7 : PySem.W.codeIn K cd7 "truth" = true) (k7 : PySem.W.keepIn K (.ref f7) = true)
    (a8 : PySem.W.nsIn K mainGlobals "added" = some (some (.ref f8))) (l8 : K.lookup f8 = some ⟨oc8, od8, .func (PySem.W.fnOf "added" "added" (defArgs s_added) (defBody s_added) (defScope s_added) .none kV8 dc8 pm8 an8 cd8 ct8), sl8⟩) (c8 : PySem.W.codeIn K cd8 "added" = true) (k8 : PySem.W.keepIn K (.ref f8) = true)
    (a9 : PySem.W.nsIn K mainGlobals "lessened" = some (some (.ref f9))) (l9 : K.lookup f9 = some ⟨oc9, od9, .func (PySem.W.fnOf "lessened" "lessened" (defArgs s_lessened) (defBody s_lessened) (defScope s_lessened) .none kV9 dc9 pm9 an9 cd9 ct9), sl9⟩) (c9 : PySem.W.codeIn K cd9 "lessened" = true) (k9 : PySem.W.keepIn K (.ref f9) = true)
    (a10 : PySem.W.nsIn K mainGlobals "multiplied" = some (some (.ref f10))) (l10 : K.lookup f10 = some ⟨oc10, od10, .func (PySem.W.fnOf "multiplied" "multiplied" (defArgs s_multiplied) (defBody s_multiplied) (defScope s_multiplied) .none kV10 dc10 pm10 an10 cd10 ct10), sl10⟩) (c10 : PySem.W.codeIn K cd10 "multiplied" = true) (k10 : PySem.W.keepIn K (.ref f10) = true)
    (a11 : PySem.W.nsIn K mainGlobals "are_equal" = some (some (.ref f11))) (l11 : K.lookup f11 = some ⟨oc11, od11, .func (PySem.W.fnOf "are_equal" "are_equal" (defArgs s_are_equal) (defBody s_are_equal) (defScope s_are_equal) .none kV11 dc11 pm11 an11 cd11 ct11), sl11⟩) (c11 : PySem.W.codeIn K cd11 "are_equal" = true) (k11 : PySem.W.keepIn K (.ref f11) = true)
    (a12 : PySem.W.nsIn K mainGlobals "are_in_row" = some (some (.ref f12))) (l12 : K.lookup f12 = some ⟨oc12, od12, .func (PySem.W.fnOf "are_in_row" "are_in_row" (defArgs s_are_in_row) (defBody s_are_in_row) (defScope s_are_in_row) .none kV12 dc12 pm12 an12 cd12 ct12), sl12⟩) (c12 : PySem.W.codeIn K cd12 "are_in_row" = true) (k12 : PySem.W.keepIn K (.ref f12) = true)
    (a13 : PySem.W.nsIn K mainGlobals "put_together" = some (some (.ref f13))) (l13 : K.lookup f13 = some ⟨oc13, od13, .func (PySem.W.fnOf "put_together" "put_together" (defArgs s_put_together) (defBody s_put_together) (defScope s_put_together) .none kV13 dc13 pm13 an13 cd13 ct13), sl13⟩) (c13 : PySem.W.codeIn K cd13 "put_together" = true) (k13 : PySem.W.keepIn K (.ref f13) = true)
    (a14 : PySem.W.nsIn K mainGlobals "length_of" = some (some (.ref f14))) (l14 : K.lookup f14 = some ⟨oc14, od14, .func (PySem.W.fnOf "length_of" "length_of" (defArgs s_length_of) (defBody s_length_of) (defScope s_length_of) .none kV14 dc14 pm14 an14 cd14 ct14), sl14⟩) (c14 : PySem.W.codeIn K cd14 "length_of" = true) (k14 : PySem.W.keepIn K (.ref f14) = true)
    (a15 : PySem.W.nsIn K mainGlobals "spelled" = some (some (.ref f15))) (l15 : K.lookup f15 = some ⟨oc15, od15, .func (PySem.W.fnOf "spelled" "spelled" (defArgs s_spelled) (defBody s_spelled) (defScope s_spelled) .none kV15 dc15 pm15 an15 cd15 ct15), sl15⟩) (c15 : PySem.W.codeIn K cd15 "spelled" = true) (k15 : PySem.W.keepIn K (.ref f15) = true)
    (a16 : PySem.W.nsIn K mainGlobals "_law_begin" = some (some (.ref f16))) (l16 : K.lookup f16 = some ⟨oc16, od16, .func (PySem.W.fnOf "_law_begin" "_law_begin" (defArgs s__law_begin) (defBody s__law_begin) (defScope s__law_begin) .none kV16 dc16 pm16 an16 cd16 ct16), sl16⟩) (c16 : PySem.W.codeIn K cd16 "_law_begin" = true) (k16 : PySem.W.keepIn K (.ref f16) = true)
    (a17 : PySem.W.nsIn K mainGlobals "_law_draw" = some (some (.ref f17))) (l17 : K.lookup f17 = some ⟨oc17, od17, .func (PySem.W.fnOf "_law_draw" "_law_draw" (defArgs s__law_draw) (defBody s__law_draw) (defScope s__law_draw) .none kV17 dc17 pm17 an17 cd17 ct17), sl17⟩) (c17 : PySem.W.codeIn K cd17 "_law_draw" = true) (k17 : PySem.W.keepIn K (.ref f17) = true)
    (a18 : PySem.W.nsIn K mainGlobals "_law_pick" = some (some (.ref f18))) (l18 : K.lookup f18 = some ⟨oc18, od18, .func (PySem.W.fnOf "_law_pick" "_law_pick" (defArgs s__law_pick) (defBody s__law_pick) (defScope s__law_pick) .none kV18 dc18 pm18 an18 cd18 ct18), sl18⟩) (c18 : PySem.W.codeIn K cd18 "_law_pick" = true) (k18 : PySem.W.keepIn K (.ref f18) = true)
    (a19 : PySem.W.nsIn K mainGlobals "_law_done" = some (some (.ref f19))) (l19 : K.lookup f19 = some ⟨oc19, od19, .func (PySem.W.fnOf "_law_done" "_law_done" (defArgs s__law_done) (defBody s__law_done) (defScope s__law_done) .none kV19 dc19 pm19 an19 cd19 ct19), sl19⟩) (c19 : PySem.W.codeIn K cd19 "_law_done" = true) (k19 : PySem.W.keepIn K (.ref f19) = true)
    (a20 : PySem.W.nsIn K mainGlobals "_law_whole" = some (some (.ref f20))) (l20 : K.lookup f20 = some ⟨oc20, od20, .func (PySem.W.fnOf "_law_whole" "_law_whole" (defArgs s__law_whole) (defBody s__law_whole) (defScope s__law_whole) .none kV20 dc20 pm20 an20 cd20 ct20), sl20⟩) (c20 : PySem.W.codeIn K cd20 "_law_whole" = true) (k20 : PySem.W.keepIn K (.ref f20) = true)
    (a21 : PySem.W.nsIn K mainGlobals "_law_numbers" = some (some (.ref f21))) (l21 : K.lookup f21 = some ⟨oc21, od21, .func (PySem.W.fnOf "_law_numbers" "_law_numbers" (defArgs s__law_numbers) (defBody s__law_numbers) (defScope s__law_numbers) .none kV21 dc21 pm21 an21 cd21 ct21), sl21⟩) (c21 : PySem.W.codeIn K cd21 "_law_numbers" = true) (k21 : PySem.W.keepIn K (.ref f21) = true)
    (a22 : PySem.W.nsIn K mainGlobals "_law_strings" = some (some (.ref f22))) (l22 : K.lookup f22 = some ⟨oc22, od22, .func (PySem.W.fnOf "_law_strings" "_law_strings" (defArgs s__law_strings) (defBody s__law_strings) (defScope s__law_strings) .none kV22 dc22 pm22 an22 cd22 ct22), sl22⟩) (c22 : PySem.W.codeIn K cd22 "_law_strings" = true) (k22 : PySem.W.keepIn K (.ref f22) = true)
    (a23 : PySem.W.nsIn K mainGlobals "_law_wholes_right" = some (some (.ref f23))) (l23 : K.lookup f23 = some ⟨oc23, od23, .func (PySem.W.fnOf "_law_wholes_right" "_law_wholes_right" (defArgs s__law_wholes_right) (defBody s__law_wholes_right) (defScope s__law_wholes_right) .none kV23 dc23 pm23 an23 cd23 ct23), sl23⟩) (c23 : PySem.W.codeIn K cd23 "_law_wholes_right" = true) (k23 : PySem.W.keepIn K (.ref f23) = true)
    (a24 : PySem.W.nsIn K mainGlobals "_law_texts_right" = some (some (.ref f24))) (l24 : K.lookup f24 = some ⟨oc24, od24, .func (PySem.W.fnOf "_law_texts_right" "_law_texts_right" (defArgs s__law_texts_right) (defBody s__law_texts_right) (defScope s__law_texts_right) .none kV24 dc24 pm24 an24 cd24 ct24), sl24⟩) (c24 : PySem.W.codeIn K cd24 "_law_texts_right" = true) (k24 : PySem.W.keepIn K (.ref f24) = true)
    (a25 : PySem.W.nsIn K mainGlobals "law" = some (some (.ref f25))) (l25 : K.lookup f25 = some ⟨oc25, od25, .func (PySem.W.fnOf "law" "law" (defArgs s_law) (defBody s_law) (defScope s_law) .none kV25 dc25 pm25 an25 cd25 ct25), sl25⟩) (c25 : PySem.W.codeIn K cd25 "law" = true) (k25 : PySem.W.keepIn K (.ref f25) = true)
    (aC : PySem.W.nsIn K mainGlobals "Primitives" = some (some (.ref C))) (sg : PySem.W.specialIn K (.ref C) "__getattribute__" = some (some (.builtin "type.__getattribute__"))) (sf : PySem.W.findCls K (.ref C) (.type "type") "done" = some (.get (.builtin "staticmethod.__get__") (.ref smP) .none (.ref C))) (sr : PySem.W.readsIn K C (.type "type") = true) (sc : PySem.W.recIn K smP "staticmethod" = some (.ref f26 :: smR)) (sh : PySem.W.handedIn (.ref f26) = true)
    (l26 : K.lookup f26 = some ⟨oc26, od26, .func (PySem.W.fnOf "done" "Primitives.done" (defArgs s_Primitives_done) (defBody s_Primitives_done) (defScope s_Primitives_done) .none kV26 dc26 pm26 an26 cd26 ct26), sl26⟩) (c26 : PySem.W.codeIn K cd26 "Primitives.done" = true) (k26 : PySem.W.keepIn K (.ref f26) = true)
    (z0 : PySem.W.nsIn K mainGlobals "len" = some none) (z1 : PySem.W.nsIn K mainGlobals "int" = some none) (z2 : PySem.W.nsIn K mainGlobals "list" = some none) (z3 : PySem.W.nsIn K mainGlobals "tuple" = some none) (z4 : PySem.W.nsIn K mainGlobals "dict" = some none) (z5 : PySem.W.nsIn K mainGlobals "repr" = some none) (z6 : PySem.W.nsIn K mainGlobals "range" = some none) (z7 : PySem.W.nsIn K mainGlobals "zip" = some none) (z8 : PySem.W.nsIn K mainGlobals "sorted" = some none) (z9 : PySem.W.nsIn K mainGlobals "isinstance" = some none) (z10 : PySem.W.nsIn K mainGlobals "all" = some none) (z11 : PySem.W.nsIn K mainGlobals "str" = some none) (z12 : PySem.W.nsIn K mainGlobals "tuple" = some none) (z13 : PySem.W.nsIn K mainGlobals "bool" = some none) (z14 : PySem.W.nsIn K mainGlobals "int" = some none) (z15 : PySem.W.nsIn K mainGlobals "ord" = some none) (z16 : PySem.W.nsIn K mainGlobals "abs" = some none) (z17 : PySem.W.nsIn K mainGlobals "max" = some none) (z18 : PySem.W.nsIn K mainGlobals "min" = some none) (z19 : PySem.W.nsIn K mainGlobals "enumerate" = some none)
    (aO : PySem.W.nsIn K mainGlobals "BOUND" = some (some uO)) (aX : PySem.W.nsIn K mainGlobals "LONGEST_TEXT" = some (some uX))
    (aK : PySem.W.nsIn K mainGlobals "KINDS" = some (some (.ref kA))) (lK : K.lookup kA = some ⟨.type "dict", none, .dict es nb, #[]⟩) (aN : PySem.W.nsIn K mainGlobals "ACTIONS" = some (some (.ref aA))) (lN : K.lookup aA = some ⟨.type "dict", none, .dict es2 nb2, #[]⟩)
    (e0 : PySem.W.nsIn K kA "plus" = some (some (.ref w0))) (t0 : K.lookup w0 = some ⟨.type "tuple", oe0, .seq it0 nn0, sm0⟩) (y0 : PySem.W.nsIn K aA "plus" = some (some (.ref f8)))
    (e1 : PySem.W.nsIn K kA "minus" = some (some (.ref w1))) (t1 : K.lookup w1 = some ⟨.type "tuple", oe1, .seq it1 nn1, sm1⟩) (y1 : PySem.W.nsIn K aA "minus" = some (some (.ref f9)))
    (e2 : PySem.W.nsIn K kA "times" = some (some (.ref w2))) (t2 : K.lookup w2 = some ⟨.type "tuple", oe2, .seq it2 nn2, sm2⟩) (y2 : PySem.W.nsIn K aA "times" = some (some (.ref f10)))
    (e3 : PySem.W.nsIn K kA "equal" = some (some (.ref w3))) (t3 : K.lookup w3 = some ⟨.type "tuple", oe3, .seq it3 nn3, sm3⟩) (y3 : PySem.W.nsIn K aA "equal" = some (some (.ref f11)))
    (e4 : PySem.W.nsIn K kA "upto" = some (some (.ref w4))) (t4 : K.lookup w4 = some ⟨.type "tuple", oe4, .seq it4 nn4, sm4⟩) (y4 : PySem.W.nsIn K aA "upto" = some (some (.ref f12)))
    (e5 : PySem.W.nsIn K kA "join" = some (some (.ref w5))) (t5 : K.lookup w5 = some ⟨.type "tuple", oe5, .seq it5 nn5, sm5⟩) (y5 : PySem.W.nsIn K aA "join" = some (some (.ref f13)))
    (e6 : PySem.W.nsIn K kA "size" = some (some (.ref w6))) (t6 : K.lookup w6 = some ⟨.type "tuple", oe6, .seq it6 nn6, sm6⟩) (y6 : PySem.W.nsIn K aA "size" = some (some (.ref f14)))
    (e7 : PySem.W.nsIn K kA "eqtext" = some (some (.ref w7))) (t7 : K.lookup w7 = some ⟨.type "tuple", oe7, .seq it7 nn7, sm7⟩) (y7 : PySem.W.nsIn K aA "eqtext" = some (some (.ref f11)))
    (e8 : PySem.W.nsIn K kA "uptotext" = some (some (.ref w8))) (t8 : K.lookup w8 = some ⟨.type "tuple", oe8, .seq it8 nn8, sm8⟩) (y8 : PySem.W.nsIn K aA "uptotext" = some (some (.ref f12)))
    (e9 : PySem.W.nsIn K kA "spell" = some (some (.ref w9))) (t9 : K.lookup w9 = some ⟨.type "tuple", oe9, .seq it9 nn9, sm9⟩) (y9 : PySem.W.nsIn K aA "spell" = some (some (.ref f15)))
    (v0 : Vals ((["whole", "whole"] : List Str).map V.str ++ [.str "whole"]) it0.toList) (v1 : Vals ((["whole", "whole"] : List Str).map V.str ++ [.str "whole"]) it1.toList) (v2 : Vals ((["whole", "whole"] : List Str).map V.str ++ [.str "whole"]) it2.toList) (v3 : Vals ((["whole", "whole"] : List Str).map V.str ++ [.str "truth"]) it3.toList) (v4 : Vals ((["whole", "whole"] : List Str).map V.str ++ [.str "truth"]) it4.toList) (v5 : Vals ((["text", "text"] : List Str).map V.str ++ [.str "text"]) it5.toList) (v6 : Vals ((["text"] : List Str).map V.str ++ [.str "whole"]) it6.toList) (v7 : Vals ((["text", "text"] : List Str).map V.str ++ [.str "truth"]) it7.toList) (v8 : Vals ((["text", "text"] : List Str).map V.str ++ [.str "truth"]) it8.toList) (v9 : Vals ((["whole"] : List Str).map V.str ++ [.str "text"]) it9.toList)
    (rO : RelV (.int (10 ^ 30)) uO) (rX : RelV (.int 200) uX) (wK : (kA == sysModules) = false) (wN : (aA == sysModules) = false) (kK : PySem.W.KeysLit w.params es.toList) (kN : PySem.W.KeysLit w.params es2.toList) (vK : es.toList.map keyNm = nmL.map some) :
    ∃ fd : FuncData, (∀ (s : Shared) (v : Value), BindsTo s fd ⟨[v], []⟩ [("_law_script", v)]) ∧ ∀ base : Heap, K.In base → base.Ns mainGlobals mg → LawRun l.prog w K mg base fa fd "_law_script" (spLaw K) := by
  have e := hfa.symm.trans (PySem.W.mg_of X G a25)
  cases e
  have B : Bl mg := ⟨PySem.W.mg_none_of X G z0, PySem.W.mg_none_of X G z1, PySem.W.mg_none_of X G z2, PySem.W.mg_none_of X G z3, PySem.W.mg_none_of X G z4, PySem.W.mg_none_of X G z5, PySem.W.mg_none_of X G z6, PySem.W.mg_none_of X G z7, PySem.W.mg_none_of X G z8⟩
  have B9 : Bl9 mg := ⟨PySem.W.mg_none_of X G z9, PySem.W.mg_none_of X G z10, PySem.W.mg_none_of X G z11, PySem.W.mg_none_of X G z12, PySem.W.mg_none_of X G z13, PySem.W.mg_none_of X G z14, PySem.W.mg_none_of X G z15, PySem.W.mg_none_of X G z16, PySem.W.mg_none_of X G z17⟩
  have M : Mn mg := ⟨⟨_, PySem.W.mg_of X G aO, rO⟩, PySem.W.mg_none_of X G z18, ⟨_, PySem.W.mg_of X G aX, rX⟩⟩
  have MK : Mk K w mg kA es nb aA es2 nb2 := ⟨⟨_, PySem.W.mg_of X G aK, rfl⟩, PySem.W.mg_none_of X G z19, ⟨lK, kK, wK⟩, has_of lK vK, ⟨_, PySem.W.mg_of X G aN, rfl⟩, ⟨lN, kN, wN⟩⟩
  have F1 := fun_mk (st := s_is_integer) l1 c1 k1
  have m1 := PySem.W.mg_of X G a1
  have F2 := fun_mk (st := s_is_whole) l2 c2 k2
  have m2 := PySem.W.mg_of X G a2
  have F3 := fun_mk (st := s_is_text) l3 c3 k3
  have m3 := PySem.W.mg_of X G a3
  have F4 := fun_mk (st := s_check_primitive) l4 c4 k4
  have m4 := PySem.W.mg_of X G a4
  have F5 := fun_mk (st := s_is_plain) l5 c5 k5
  have m5 := PySem.W.mg_of X G a5
  have F6 := fun_mk (st := s_bounded) l6 c6 k6
  have m6 := PySem.W.mg_of X G a6
  have F7 := fun_mk (st := s_truth) l7 c7 k7
  have m7 := PySem.W.mg_of X G a7
  have F8 := fun_mk (st := s_added) l8 c8 k8
  have m8 := PySem.W.mg_of X G a8
  have F9 := fun_mk (st := s_lessened) l9 c9 k9
  have m9 := PySem.W.mg_of X G a9
  have F10 := fun_mk (st := s_multiplied) l10 c10 k10
  have m10 := PySem.W.mg_of X G a10
  have F11 := fun_mk (st := s_are_equal) l11 c11 k11
  have m11 := PySem.W.mg_of X G a11
  have F12 := fun_mk (st := s_are_in_row) l12 c12 k12
  have m12 := PySem.W.mg_of X G a12
  have F13 := fun_mk (st := s_put_together) l13 c13 k13
  have m13 := PySem.W.mg_of X G a13
  have F14 := fun_mk (st := s_length_of) l14 c14 k14
  have m14 := PySem.W.mg_of X G a14
  have F15 := fun_mk (st := s_spelled) l15 c15 k15
  have m15 := PySem.W.mg_of X G a15
  have F16 := fun_mk (st := s__law_begin) l16 c16 k16
  have m16 := PySem.W.mg_of X G a16
  have F17 := fun_mk (st := s__law_draw) l17 c17 k17
  have m17 := PySem.W.mg_of X G a17
  have F18 := fun_mk (st := s__law_pick) l18 c18 k18
  have m18 := PySem.W.mg_of X G a18
  have F19 := fun_mk (st := s__law_done) l19 c19 k19
  have m19 := PySem.W.mg_of X G a19
  have F20 := fun_mk (st := s__law_whole) l20 c20 k20
  have m20 := PySem.W.mg_of X G a20
  have F21 := fun_mk (st := s__law_numbers) l21 c21 k21
  have m21 := PySem.W.mg_of X G a21
  have F22 := fun_mk (st := s__law_strings) l22 c22 k22
  have m22 := PySem.W.mg_of X G a22
  have F23 := fun_mk (st := s__law_wholes_right) l23 c23 k23
  have m23 := PySem.W.mg_of X G a23
  have F24 := fun_mk (st := s__law_texts_right) l24 c24 k24
  have m24 := PySem.W.mg_of X G a24
  have F25 := fun_mk (st := s_law) l25 c25 k25
  have m25 := PySem.W.mg_of X G a25
  have F26 := fun_mk (st := s_Primitives_done) l26 c26 k26
  have hC := PySem.W.mg_of X G aC
  have SM : SmK K C "done" f26 := ⟨sg, ⟨_, sr, _, sf, _, sc⟩, sh, k26⟩
  refine ⟨PySem.W.fnOf "law" "law" (defArgs s_law) (defBody s_law) (defScope s_law) .none kV25 dc25 pm25 an25 cd25 ct25, fun s v => .of_eq rfl, fun base _ _ => ?_⟩
  have Dint := Fun.kn (P := l.prog) (w := w) (base := base) (k := 1) F1 m1 (ok_int F1 B9) fun _ _ _ _ _ _ us hl => match us, hl with | [_], _ => rfl
  have Dwhole := Fun.kn (P := l.prog) (w := w) (base := base) (k := 2) F2 m2 (ok_whole F2 M Dint) fun _ _ _ _ _ _ us hl => match us, hl with | [_], _ => rfl
  have Dtext := Fun.kn (P := l.prog) (w := w) (base := base) (k := 1) F3 m3 (ok_text F3 B B9 M) fun _ _ _ _ _ _ us hl => match us, hl with | [_], _ => rfl
  have Dcheck := Fun.kn (P := l.prog) (w := w) (base := base) (k := 1) F4 m4 (ok_check F4 B9 MK) fun _ _ _ _ _ _ us hl => match us, hl with | [_], _ => rfl
  have Dplain := Fun.kn (P := l.prog) (w := w) (base := base) (k := 3) F5 m5 (ok_plain F5 B B9 Dwhole Dtext) fun _ _ _ _ _ _ us hl => match us, hl with | [_, _], _ => rfl
  have Dbounded := Fun.kn (P := l.prog) (w := w) (base := base) (k := 1) F6 m6 (ok_bounded F6 B9 M) fun _ _ _ _ _ _ us hl => match us, hl with | [_], _ => rfl
  have Dtruth := Fun.kn (P := l.prog) (w := w) (base := base) (k := 1) F7 m7 (ok_truth F7) fun _ _ _ _ _ _ us hl => match us, hl with | [_], _ => rfl
  have H_added := does_of (P := l.prog) (w := w) (mg := mg) (base := base) (ok_add F8 Dbounded) (F8.binds fun _ _ _ _ _ _ us hl => match us, hl with | [_, _], _ => rfl) (by decide) k8
  have H_lessened := does_of (P := l.prog) (w := w) (mg := mg) (base := base) (ok_less F9 Dbounded) (F9.binds fun _ _ _ _ _ _ us hl => match us, hl with | [_, _], _ => rfl) (by decide) k9
  have H_multiplied := does_of (P := l.prog) (w := w) (mg := mg) (base := base) (ok_mul F10 Dbounded) (F10.binds fun _ _ _ _ _ _ us hl => match us, hl with | [_, _], _ => rfl) (by decide) k10
  have H_are_equal := does_of (P := l.prog) (w := w) (mg := mg) (base := base) (ok_equal F11 Dtruth) (F11.binds fun _ _ _ _ _ _ us hl => match us, hl with | [_, _], _ => rfl) (by decide) k11
  have H_are_in_row := does_of (P := l.prog) (w := w) (mg := mg) (base := base) (ok_row F12 Dtruth) (F12.binds fun _ _ _ _ _ _ us hl => match us, hl with | [_, _], _ => rfl) (by decide) k12
  have H_put_together := does_of (P := l.prog) (w := w) (mg := mg) (base := base) (ok_put F13 M) (F13.binds fun _ _ _ _ _ _ us hl => match us, hl with | [_, _], _ => rfl) (by decide) k13
  have H_length_of := does_of (P := l.prog) (w := w) (mg := mg) (base := base) (ok_length F14 B) (F14.binds fun _ _ _ _ _ _ us hl => match us, hl with | [_], _ => rfl) (by decide) k14
  have H_spelled := does_of (P := l.prog) (w := w) (mg := mg) (base := base) (ok_spelled F15 B9) (F15.binds fun _ _ _ _ _ _ us hl => match us, hl with | [_], _ => rfl) (by decide) k15
  have A : Ac l.prog w K mg base kA aA := ⟨kw_of lK kK e0 t0 v0 (by decide), ⟨_, ⟨_, _, _, lN, kN, y0, rfl⟩, H_added⟩, kw_of lK kK e1 t1 v1 (by decide), ⟨_, ⟨_, _, _, lN, kN, y1, rfl⟩, H_lessened⟩, kw_of lK kK e2 t2 v2 (by decide), ⟨_, ⟨_, _, _, lN, kN, y2, rfl⟩, H_multiplied⟩, kw_of lK kK e3 t3 v3 (by decide), ⟨_, ⟨_, _, _, lN, kN, y3, rfl⟩, H_are_equal⟩, kw_of lK kK e4 t4 v4 (by decide), ⟨_, ⟨_, _, _, lN, kN, y4, rfl⟩, H_are_in_row⟩, kw_of lK kK e5 t5 v5 (by decide), ⟨_, ⟨_, _, _, lN, kN, y5, rfl⟩, H_put_together⟩, kw_of lK kK e6 t6 v6 (by decide), ⟨_, ⟨_, _, _, lN, kN, y6, rfl⟩, H_length_of⟩, kw_of lK kK e7 t7 v7 (by decide), ⟨_, ⟨_, _, _, lN, kN, y7, rfl⟩, H_are_equal⟩, kw_of lK kK e8 t8 v8 (by decide), ⟨_, ⟨_, _, _, lN, kN, y8, rfl⟩, H_are_in_row⟩, kw_of lK kK e9 t9 v9 (by decide), ⟨_, ⟨_, _, _, lN, kN, y9, rfl⟩, H_spelled⟩⟩
  have Ddone := ok_done (P := l.prog) (w := w) (base := base) F26 B MK Dcheck Dplain
  have Dbegin := Fun.kn (P := l.prog) (w := w) (base := base) (k := 1) F16 m16 (ok_begin F16) fun _ _ _ _ _ _ us hl => match us, hl with | [_], _ => rfl
  have Ddraw := Fun.kn (P := l.prog) (w := w) (base := base) (k := 1) F17 m17 (ok_draw F17 B) fun _ _ _ _ _ _ us hl => match us, hl with | [_, _], _ => rfl
  have Dpick := Fun.kn (P := l.prog) (w := w) (base := base) (k := 2) F18 m18 (ok_pick F18 B Ddraw) fun _ _ _ _ _ _ us hl => match us, hl with | [_, _], _ => rfl
  have Dldone := Fun.kn (P := l.prog) (w := w) (base := base) (k := 5) F19 m19 (ok_ldone F19 hC SM Ddone) fun _ _ _ _ _ _ us hl => match us, hl with | [_, _, _], _ => rfl
  have Dlwhole := Fun.kn (P := l.prog) (w := w) (base := base) (k := 1) F20 m20 (ok_lwhole F20) fun _ _ _ _ _ _ us hl => match us, hl with | [_], _ => rfl
  have Dnums := Fun.kn (P := l.prog) (w := w) (base := base) (k := 3) F21 m21 (ok_nums F21 B B9 M Ddraw Dpick) fun _ _ _ _ _ _ us hl => match us, hl with | [_], _ => rfl
  have Dstrs := Fun.kn (P := l.prog) (w := w) (base := base) (k := 3) F22 m22 (ok_strs F22 B Dpick) fun _ _ _ _ _ _ us hl => match us, hl with | [_], _ => rfl
  have Dwr := Fun.kn (P := l.prog) (w := w) (base := base) (k := 6) F23 m23 (ok_wholes F23 B hC SM Ddone A Dlwhole Dldone) fun _ _ _ _ _ _ us hl => match us, hl with | [_, _, _], _ => rfl
  have Dtr : KnG l.prog w K mg base 6 "_law_texts_right" spTexts := ⟨f24, gok_texts F24 (F24.binds fun _ _ _ _ _ _ us hl => match us, hl with | [_, _, _], _ => rfl) B M hC SM Ddone A Dldone, m24, F24.kp⟩
  exact law_run F25 B Dbegin Dnums Dstrs Dwr Dtr
end L3

open PySem PySem.W PyProof.Rows in
set_option maxRecDepth 100000 in
set_option maxHeartbeats 0 in
theorem PySem.Challenge.cw_leastneeds_k57_whole_rules_of_primitives_holds : PySem.Challenge.rw_leastneeds_k57_whole_rules_of_primitives.Holds := by
  w_on; o_law; k_head; (case hw => w_witness2)
  k_fill
  refine L3.walkG (l := PySem.Challenge.rw_leastneeds_k57_whole_rules_of_primitives) (n := 63) (x := "_law_script") (sp := L3.spLaw) rfl (by decide) rfl (fun w h Y => PySem.W.kIn_of Y) ?F (fun K H a ns _ hS => ⟨a, ns, rfl, hS, fun _ => rfl⟩)
  case F =>
    intro w mg fa h KX G hmg
    refine' L3.all_mk KX G hmg ?a1 ?l1 ?c1 ?k1 ?a2 ?l2 ?c2 ?k2 ?a3 ?l3 ?c3 ?k3 ?a4 ?l4 ?c4 ?k4 ?a5 ?l5 ?c5 ?k5 ?a6 ?l6 ?c6 ?k6 ?a7 ?l7 ?c7 ?k7 ?a8 ?l8 ?c8 ?k8 ?a9 ?l9 ?c9 ?k9 ?a10 ?l10 ?c10 ?k10 ?a11 ?l11 ?c11 ?k11 ?a12 ?l12 ?c12 ?k12 ?a13 ?l13 ?c13 ?k13 ?a14 ?l14 ?c14 ?k14 ?a15 ?l15 ?c15 ?k15 ?a16 ?l16 ?c16 ?k16 ?a17 ?l17 ?c17 ?k17 ?a18 ?l18 ?c18 ?k18 ?a19 ?l19 ?c19 ?k19 ?a20 ?l20 ?c20 ?k20 ?a21 ?l21 ?c21 ?k21 ?a22 ?l22 ?c22 ?k22 ?a23 ?l23 ?c23 ?k23 ?a24 ?l24 ?c24 ?k24 ?a25 ?l25 ?c25 ?k25 ?aC ?sg ?sf ?sr ?sc ?sh ?l26 ?c26 ?k26 ?z0 ?z1 ?z2 ?z3 ?z4 ?z5 ?z6 ?z7 ?z8 ?z9 ?z10 ?z11 ?z12 ?z13 ?z14 ?z15 ?z16 ?z17 ?z18 ?z19 ?aO ?aX ?aK ?lK ?aN ?lN ?e0 ?t0 ?y0 ?e1 ?t1 ?y1 ?e2 ?t2 ?y2 ?e3 ?t3 ?y3 ?e4 ?t4 ?y4 ?e5 ?t5 ?y5 ?e6 ?t6 ?y6 ?e7 ?t7 ?y7 ?e8 ?t8 ?y8 ?e9 ?t9 ?y9 ?v0 ?v1 ?v2 ?v3 ?v4 ?v5 ?v6 ?v7 ?v8 ?v9 ?rO ?rX ?wK ?wN ?kK ?kN ?vK
    (case a1 => k_is)
    (case l1 => k_is)
    (case c1 => k_is)
    (case k1 => k_is)
    (case a2 => k_is)
    (case l2 => k_is)
    (case c2 => k_is)
    (case k2 => k_is)
    (case a3 => k_is)
    (case l3 => k_is)
    (case c3 => k_is)
    (case k3 => k_is)
    (case a4 => k_is)
    (case l4 => k_is)
    (case c4 => k_is)
    (case k4 => k_is)
    (case a5 => k_is)
    (case l5 => k_is)
    (case c5 => k_is)
    (case k5 => k_is)
    (case a6 => k_is)
    (case l6 => k_is)
    (case c6 => k_is)
    (case k6 => k_is)
    (case a7 => k_is)
    (case l7 => k_is)
    (case c7 => k_is)
    (case k7 => k_is)
    (case a8 => k_is)
    (case l8 => k_is)
    (case c8 => k_is)
    (case k8 => k_is)
    (case a9 => k_is)
    (case l9 => k_is)
    (case c9 => k_is)
    (case k9 => k_is)
    (case a10 => k_is)
    (case l10 => k_is)
    (case c10 => k_is)
    (case k10 => k_is)
    (case a11 => k_is)
    (case l11 => k_is)
    (case c11 => k_is)
    (case k11 => k_is)
    (case a12 => k_is)
    (case l12 => k_is)
    (case c12 => k_is)
    (case k12 => k_is)
    (case a13 => k_is)
    (case l13 => k_is)
    (case c13 => k_is)
    (case k13 => k_is)
    (case a14 => k_is)
    (case l14 => k_is)
    (case c14 => k_is)
    (case k14 => k_is)
    (case a15 => k_is)
    (case l15 => k_is)
    (case c15 => k_is)
    (case k15 => k_is)
    (case a16 => k_is)
    (case l16 => k_is)
    (case c16 => k_is)
    (case k16 => k_is)
    (case a17 => k_is)
    (case l17 => k_is)
    (case c17 => k_is)
    (case k17 => k_is)
    (case a18 => k_is)
    (case l18 => k_is)
    (case c18 => k_is)
    (case k18 => k_is)
    (case a19 => k_is)
    (case l19 => k_is)
    (case c19 => k_is)
    (case k19 => k_is)
    (case a20 => k_is)
    (case l20 => k_is)
    (case c20 => k_is)
    (case k20 => k_is)
    (case a21 => k_is)
    (case l21 => k_is)
    (case c21 => k_is)
    (case k21 => k_is)
    (case a22 => k_is)
    (case l22 => k_is)
    (case c22 => k_is)
    (case k22 => k_is)
    (case a23 => k_is)
    (case l23 => k_is)
    (case c23 => k_is)
    (case k23 => k_is)
    (case a24 => k_is)
    (case l24 => k_is)
    (case c24 => k_is)
    (case k24 => k_is)
    (case a25 => k_is)
    (case l25 => k_is)
    (case c25 => k_is)
    (case k25 => k_is)
    (case aC => k_is)
    (case sg => k_is)
    (case sf => k_is)
    (case sr => k_is)
    (case sc => k_is)
    (case sh => first | k_is | rfl)
    (case l26 => k_is)
    (case c26 => k_is)
    (case k26 => k_is)
    (case z0 => k_is)
    (case z1 => k_is)
    (case z2 => k_is)
    (case z3 => k_is)
    (case z4 => k_is)
    (case z5 => k_is)
    (case z6 => k_is)
    (case z7 => k_is)
    (case z8 => k_is)
    (case z9 => k_is)
    (case z10 => k_is)
    (case z11 => k_is)
    (case z12 => k_is)
    (case z13 => k_is)
    (case z14 => k_is)
    (case z15 => k_is)
    (case z16 => k_is)
    (case z17 => k_is)
    (case z18 => k_is)
    (case z19 => k_is)
    (case aO => k_is)
    (case aX => k_is)
    (case aK => k_is)
    (case lK => k_is)
    (case aN => k_is)
    (case lN => k_is)
    (case e0 => k_is)
    (case t0 => k_is)
    (case y0 => k_is)
    (case e1 => k_is)
    (case t1 => k_is)
    (case y1 => k_is)
    (case e2 => k_is)
    (case t2 => k_is)
    (case y2 => k_is)
    (case e3 => k_is)
    (case t3 => k_is)
    (case y3 => k_is)
    (case e4 => k_is)
    (case t4 => k_is)
    (case y4 => k_is)
    (case e5 => k_is)
    (case t5 => k_is)
    (case y5 => k_is)
    (case e6 => k_is)
    (case t6 => k_is)
    (case y6 => k_is)
    (case e7 => k_is)
    (case t7 => k_is)
    (case y7 => k_is)
    (case e8 => k_is)
    (case t8 => k_is)
    (case y8 => k_is)
    (case e9 => k_is)
    (case t9 => k_is)
    (case y9 => k_is)
    (case v0 => exact (.cons ⟨_, rfl⟩ (.cons ⟨_, rfl⟩ (.cons ⟨_, rfl⟩ .nil))))
    (case v1 => exact (.cons ⟨_, rfl⟩ (.cons ⟨_, rfl⟩ (.cons ⟨_, rfl⟩ .nil))))
    (case v2 => exact (.cons ⟨_, rfl⟩ (.cons ⟨_, rfl⟩ (.cons ⟨_, rfl⟩ .nil))))
    (case v3 => exact (.cons ⟨_, rfl⟩ (.cons ⟨_, rfl⟩ (.cons ⟨_, rfl⟩ .nil))))
    (case v4 => exact (.cons ⟨_, rfl⟩ (.cons ⟨_, rfl⟩ (.cons ⟨_, rfl⟩ .nil))))
    (case v5 => exact (.cons ⟨_, rfl⟩ (.cons ⟨_, rfl⟩ (.cons ⟨_, rfl⟩ .nil))))
    (case v6 => exact (.cons ⟨_, rfl⟩ (.cons ⟨_, rfl⟩ .nil)))
    (case v7 => exact (.cons ⟨_, rfl⟩ (.cons ⟨_, rfl⟩ (.cons ⟨_, rfl⟩ .nil))))
    (case v8 => exact (.cons ⟨_, rfl⟩ (.cons ⟨_, rfl⟩ (.cons ⟨_, rfl⟩ .nil))))
    (case v9 => exact (.cons ⟨_, rfl⟩ (.cons ⟨_, rfl⟩ .nil)))
    (case rO => exact ⟨_, rfl⟩)
    (case rX => exact ⟨_, rfl⟩)
    (case wK => rfl)
    (case wN => rfl)
    (case kK => exact ⟨⟨_, _, rfl, rfl⟩, ⟨⟨_, _, rfl, rfl⟩, ⟨⟨_, _, rfl, rfl⟩, ⟨⟨_, _, rfl, rfl⟩, ⟨⟨_, _, rfl, rfl⟩, ⟨⟨_, _, rfl, rfl⟩, ⟨⟨_, _, rfl, rfl⟩, ⟨⟨_, _, rfl, rfl⟩, ⟨⟨_, _, rfl, rfl⟩, ⟨⟨_, _, rfl, rfl⟩, trivial⟩⟩⟩⟩⟩⟩⟩⟩⟩⟩)
    (case kN => exact ⟨⟨_, _, rfl, rfl⟩, ⟨⟨_, _, rfl, rfl⟩, ⟨⟨_, _, rfl, rfl⟩, ⟨⟨_, _, rfl, rfl⟩, ⟨⟨_, _, rfl, rfl⟩, ⟨⟨_, _, rfl, rfl⟩, ⟨⟨_, _, rfl, rfl⟩, ⟨⟨_, _, rfl, rfl⟩, ⟨⟨_, _, rfl, rfl⟩, ⟨⟨_, _, rfl, rfl⟩, trivial⟩⟩⟩⟩⟩⟩⟩⟩⟩⟩)
    (case vK => rfl)
