import PyProof.Rows.All
import Wide.All
import OpenK.AllK
import Wide.FinOn
import HandS.ForMost
import HandS.Flow
import HandS.Small
import HandS.SetKeys
import HandS.Zip
import HandS.Style
import HandS.More
import HandS.Deep
import PySem.Challenge.RW_leastneeds_k06_what_is_a_kind_and_its_te
import KE.KDictZip
import HandS.ListItems
import HandS.DictComp
import PyProof.ReprLen
import PyProof.StrLawsRepr
import HandS.Dict
import PyProof.EqKinds
import HandS.IsInst
import HandS.StrMore
import HandS.HeadHook3
import HandS.Steps
import HandS.Walk
import HandS.Text
import HandS.Rev
import HandS.RevTup
import HandS.TryOnly
import PyProof.NeKinds
import HandS.TupAny
import PyProof.CallFns
import HandS.TupLe
set_option Elab.async false
set_option linter.all false
set_option maxRecDepth 100000
set_option maxHeartbeats 4000000
namespace L3
open PySem L2
/-! ### a def that is known by its name -/
section
variable {P : Program} {w : World} {K : PySem.W.Frag} {mg : Str → Option Value} {base : Heap}
structure Kn (P : Program) (w : World) (K : PySem.W.Frag) (mg : Str → Option Value) (base : Heap) (k : Nat) (x : Str) (ps : List Str) (sp : Sp) : Prop where
  ex : ∃ (f : Addr) (fd : FuncData), FnOk P w K mg base CX0 k f fd ps sp ∧ mg x = some (.ref f) ∧ PySem.W.keepIn K (.ref f) = true ∧ Binds K fd ps []
end
section
variable {X : Cx} {x : Str} {k : Nat} {ps : List Str} {sp : Sp} {e : Expr} {es : List Expr} {t : TA} {p pos : Pos}
theorem pe_kn (D : Kn X.prog X.w X.K X.mg X.base k x ps sp) (hr : Room k X.A) (ha : PA X (e :: es) t) (hg : Gl X x := by rfl) (hdb : (x == ("__debug__" : Str)) = false := by decide)
    (he : starEach (e :: es) X.env = (false, eval e X.env) :: starEach es X.env := by rfl) (hpl : (backTo pos (starEach es X.env)).any (·.1) = false := by rfl) :
    PE X (.Call (.Name x p) (e :: es) [] pos) (tCall sp [] E0 t) := by
  obtain ⟨f, fd, F, hm, hk, hb⟩ := D.ex
  exact pe_call F hr hg hm hk hb .nil pass0 ha hdb he hpl
theorem pe_kn0 (D : Kn X.prog X.w X.K X.mg X.base k x ps sp) (hr : Room k X.A) (hg : Gl X x := by rfl) (hdb : (x == ("__debug__" : Str)) = false := by decide) :
    PE X (.Call (.Name x p) [] [] pos) (tCall sp [] E0 tNil) := by
  obtain ⟨f, fd, F, hm, hk, hb⟩ := D.ex
  exact pe_call0 F hr hg hm hk hb .nil pass0 hdb
end
/-- built-in names that the text leaves alone -/
structure Bl (mg : Str → Option Value) : Prop where
  len : mg "len" = none
  int : mg "int" = none
  list : mg "list" = none
  tuple : mg "tuple" = none
  dict : mg "dict" = none
  repr : mg "repr" = none
  range : mg "range" = none
  zip : mg "zip" = none
  sorted : mg "sorted" = none

/-! ### the tape -/
/-- all but the object at t is kept -/
def Ext (t : Addr) (H H' : Hp) : Prop := ∀ b o, b ≠ t → H b = some o → H' b = some o
theorem Ext.refl (t : Addr) (H : Hp) : Ext t H H := fun _ _ _ h => h
theorem Ext.trans {t : Addr} {H H1 H2 : Hp} (a : Ext t H H1) (b : Ext t H1 H2) : Ext t H H2 := fun c o n h => b c o n (a c o n h)
theorem Ext.new {t p : Addr} {H : Hp} {o : HO} (h : H p = none) : Ext t H (upd H p o) := fun b u _ e => by
  rw [upd_ne (ne_of_none e h)]
  exact e
theorem Ext.put {t : Addr} {H : Hp} {o : HO} : Ext t H (upd H t o) := fun b u n e => by
  rw [upd_ne n]
  exact e
theorem same_ext {t : Addr} {H H' : Hp} (h : Same H H') : Ext t H H' := fun b o _ e => h b o e
theorem same_new {p : Addr} {H : Hp} {o : HO} (h : H p = none) : Same H (upd H p o) := fun b u e => by
  rw [upd_ne (ne_of_none e h)]
  exact e
def tp (c : Addr) (p l : Int) : List (Key × V) := [(.inr "cells", .ref c), (.inr "place", .int p), (.inr "left", .int l)]
theorem tp_cells (c : Addr) (p l : Int) : valV (tp c p l) (.inr "cells") = some (.ref c) := by rfl
theorem tp_place (c : Addr) (p l : Int) : valV (tp c p l) (.inr "place") = some (.int p) := by rfl
theorem tp_left (c : Addr) (p l : Int) : valV (tp c p l) (.inr "left") = some (.int l) := by rfl
theorem tp_putP (c : Addr) (p l q : Int) : putK (tp c p l) (.inr "place") (.int q) = tp c q l := by rfl
theorem tp_putL (c : Addr) (p l q : Int) : putK (tp c p l) (.inr "left") (.int q) = tp c p q := by rfl
/-- at t a tape stands, its cells at c, from which b more cells may be taken -/
def Tape (K : PySem.W.Frag) (H : Hp) (t c : Addr) (b : Nat) : Prop :=
  ∃ (p l : Int) (ns : List Int), H t = some (.dK (tp c p l)) ∧ SqL K H c (ns.map V.int) ∧ c ≠ t ∧ 0 < ns.length ∧ ns.length ≤ 63 ∧ 0 ≤ p ∧ p + b ≤ 1000000 ∧ 0 ≤ l
theorem Tape.less {K : PySem.W.Frag} {H : Hp} {t c : Addr} {b b' : Nat} (h : Tape K H t c b) (hb : b' ≤ b) : Tape K H t c b' := by
  obtain ⟨p, l, ns, h1, h2, h3, h4, h5, h6, h7, h8⟩ := h
  exact ⟨p, l, ns, h1, h2, h3, h4, h5, h6, by omega, h8⟩
theorem SqL.same {K : PySem.W.Frag} {H H' : Hp} {a : Addr} {xs : List V} (h : SqL K H a xs) (k : ∀ o, H a = some o → H' a = some o) : SqL K H' a xs := by
  rcases h with (h | ⟨o, h⟩) | h
  · exact .inl (.inl (k _ h))
  · exact .inl (.inr ⟨o, k _ h⟩)
  · exact .inr h
theorem SqL.ext {K : PySem.W.Frag} {t : Addr} {H H' : Hp} {a : Addr} {xs : List V} (h : SqL K H a xs) (e : Ext t H H') (n : a ≠ t) : SqL K H' a xs := SqL.same h fun o q => e a o n q
/-- the tape is untouched -/
theorem Tape.same {K : PySem.W.Frag} {H H' : Hp} {t c : Addr} {b : Nat} (h : Tape K H t c b) (k : Same H H') : Tape K H' t c b := by
  obtain ⟨p, l, ns, h1, h2, h3, h4, h5, h6, h7, h8⟩ := h
  exact ⟨p, l, ns, k _ _ h1, k.seq h2, h3, h4, h5, h6, h7, h8⟩
theorem Tape.new {K : PySem.W.Frag} {H : Hp} {t c : Addr} {b : Nat} {q : Addr} {o : HO} (h : Tape K H t c b) (n : H q = none) : Tape K (upd H q o) t c b := h.same (same_new n)
theorem Tape.dict {K : PySem.W.Frag} {H : Hp} {t c : Addr} {b : Nat} (h : Tape K H t c b) : ∃ kvs, H t = some (.dK kvs) := by
  obtain ⟨p, l, ns, h1, _⟩ := h
  exact ⟨_, h1⟩
theorem Tape.ne {K : PySem.W.Frag} {H : Hp} {t c : Addr} {b : Nat} (h : Tape K H t c b) {l : Addr} (n : H l = none) : l ≠ t := fun e => by
  obtain ⟨kvs, q⟩ := h.dict
  rw [e, q] at n
  cases n
theorem Ext.free {t : Addr} {H H' : Hp} (e : Ext t H H') {l : Addr} (n : l ≠ t) (h : H' l = none) : H l = none := by
  cases q : H l with
  | none => rfl
  | some o =>
    rw [e l o n q] at h
    cases h
/-- an object D that was not there at H0 is stored into -/
theorem Tape.put {K : PySem.W.Frag} {H0 H : Hp} {t c : Addr} {b0 b : Nat} {D : Addr} {o : HO} (h0 : Tape K H0 t c b0) (e : Ext t H0 H) (h : Tape K H t c b) (n : H0 D = none) : Tape K (upd H D o) t c b := by
  have nt : t ≠ D := (h0.ne n).symm
  obtain ⟨_, _, ns, _, g2, g3, g4, g5, _⟩ := h0
  obtain ⟨p, l, _, h1, _, _, _, _, h6, h7, h8⟩ := h
  refine ⟨p, l, ns, by rw [upd_ne nt]; exact h1, SqL.same g2 fun u q => ?_, g3, g4, g5, h6, h7, h8⟩
  rw [upd_ne (ne_of_none q n)]
  exact e _ _ g3 q
theorem Ext.upd {t : Addr} {H0 H : Hp} {D : Addr} {o : HO} (e : Ext t H0 H) (n : H0 D = none) : Ext t H0 (upd H D o) := fun q u h1 h2 => by
  rw [upd_ne (ne_of_none h2 n)]
  exact e q u h1 h2
end L3

namespace L3
open PySem L2
theorem slz {n : Nat} (h : Nat.ble n 1000 = true) : n ≤ sizeLine := Nat.le_of_lt (small1000 (Nat.le_of_ble_eq_true h))
theorem iT {c : Bool} {A B : Prop} (h : c = true) (a : A) : if c = true then A else B := by
  rw [if_pos h]
  exact a
theorem iF {c : Bool} {A B : Prop} (h : c = false) (b : B) : if c = true then A else B := by
  rw [h]
  exact iteF b
theorem tg_aa : decide (V.str ("apply" : Str) = V.str ("apply" : Str)) = true := decide_eq_true rfl
theorem tg_va : decide (V.str ("var" : Str) = V.str ("apply" : Str)) = false := by decide +kernel
theorem tg_ca : decide (V.str ("con" : Str) = V.str ("apply" : Str)) = false := by decide +kernel
theorem tg_vv : decide (V.str ("var" : Str) = V.str ("var" : Str)) = true := decide_eq_true rfl
theorem tg_cv : decide (V.str ("con" : Str) = V.str ("var" : Str)) = false := by decide +kernel
theorem tg_av : decide (V.str ("apply" : Str) = V.str ("var" : Str)) = false := by decide +kernel
theorem tg_ac : decide (V.str ("apply" : Str) = V.str ("con" : Str)) = false := by decide +kernel
theorem tg_vc : decide (V.str ("var" : Str) = V.str ("con" : Str)) = false := by decide +kernel
theorem tg_cc : decide (V.str ("con" : Str) = V.str ("con" : Str)) = true := decide_eq_true rfl
/-! ### kinds -/
inductive Kd where
  | var (x : Str) | con (x : Str) | app (a b : Kd)
  deriving DecidableEq
def Kd.tag : Kd → Str
  | .var _ => "var" | .con _ => "con" | .app _ _ => "apply"
/-- a word of 1 to 8 letters from a to z -/
def Wok (x : Str) : Prop := 1 ≤ x.length ∧ x.length ≤ 8 ∧ ∀ c ∈ x.cps.toList, 97 ≤ c ∧ c ≤ 122
/-- at most n deep, of words -/
def Kd.fit : Nat → Kd → Prop
  | _, .var x => Wok x
  | _, .con x => Wok x
  | 0, .app _ _ => False
  | n + 1, .app a b => Kd.fit n a ∧ Kd.fit n b
theorem Kd.fit_mono : ∀ {k : Kd} {n m : Nat}, n ≤ m → Kd.fit n k → Kd.fit m k
  | .var _, n, m, _, h => by cases n <;> cases m <;> exact h
  | .con _, n, m, _, h => by cases n <;> cases m <;> exact h
  | .app a b, 0, _, _, h => h.elim
  | .app a b, n + 1, 0, e, _ => absurd e (by omega)
  | .app a b, n + 1, m + 1, e, h => ⟨Kd.fit_mono (by omega) h.1, Kd.fit_mono (by omega) h.2⟩
theorem Kd.fit_app {n : Nat} {a b : Kd} (h : Kd.fit n (.app a b)) : ∃ m, n = m + 1 ∧ Kd.fit m a ∧ Kd.fit m b := by
  cases n with
  | zero => exact h.elim
  | succ m => exact ⟨m, rfl, h.1, h.2⟩
def KdAt (H : Hp) : V → Kd → Prop
  | v, .var x => ∃ a, v = .ref a ∧ H a = some (.tup [.str "var", .str x])
  | v, .con x => ∃ a, v = .ref a ∧ H a = some (.tup [.str "con", .str x])
  | v, .app k l => ∃ a u z, v = .ref a ∧ H a = some (.tup [.str "apply", u, z]) ∧ KdAt H u k ∧ KdAt H z l
/-- tuples stay -/
def Tups (H H' : Hp) : Prop := ∀ b xs, H b = some (.tup xs) → H' b = some (.tup xs)
theorem same_tups {H H' : Hp} (h : Same H H') : Tups H H' := fun b xs e => h b _ e
theorem Tups.trans {H H1 H2 : Hp} (a : Tups H H1) (b : Tups H1 H2) : Tups H H2 := fun c xs e => b c xs (a c xs e)
theorem Tups.put {H : Hp} {d : Addr} {o u : HO} (h : H d = some o) (n : ∀ xs, o ≠ .tup xs) : Tups H (upd H d u) := fun b xs e => by
  rw [upd_ne (fun q => by rw [q, h] at e; exact n xs (Option.some.inj e))]
  exact e
theorem Tups.new {H : Hp} {d : Addr} {u : HO} (h : H d = none) : Tups H (upd H d u) := same_tups (same_new h)
theorem Ext.tups {K : PySem.W.Frag} {t c : Addr} {b : Nat} {H H' : Hp} (e : Ext t H H') (h : Tape K H t c b) : Tups H H' := fun q xs z => by
  obtain ⟨kvs, hk⟩ := h.dict
  exact e q _ (ne_of z hk (by intro r; cases r)) z
theorem KdAt.tups {H H' : Hp} (h : Tups H H') : ∀ {k : Kd} {v : V}, KdAt H v k → KdAt H' v k
  | .var _, _, ⟨a, e, q⟩ => ⟨a, e, h _ _ q⟩
  | .con _, _, ⟨a, e, q⟩ => ⟨a, e, h _ _ q⟩
  | .app _ _, _, ⟨a, u, z, e, q, h1, h2⟩ => ⟨a, u, z, e, h _ _ q, KdAt.tups h h1, KdAt.tups h h2⟩
/-- the tuple of a kind, and its first item -/
theorem KdAt.top {H : Hp} : ∀ {k : Kd} {v : V}, KdAt H v k → ∃ a xs, v = .ref a ∧ H a = some (.tup xs) ∧ xs[0]? = some (.str k.tag)
  | .var _, _, ⟨a, e, q⟩ => ⟨a, _, e, q, rfl⟩
  | .con _, _, ⟨a, e, q⟩ => ⟨a, _, e, q, rfl⟩
  | .app _ _, _, ⟨a, u, z, e, q, _⟩ => ⟨a, _, e, q, rfl⟩
def Kd.dat : Kd → PyData
  | .var x => .tuple [.str "var", .str x]
  | .con x => .tuple [.str "con", .str x]
  | .app a b => .tuple [.str "apply", a.dat, b.dat]
theorem KdAt.dp {K : PySem.W.Frag} {H : Hp} : ∀ {k : Kd} {v : V}, KdAt H v k → Dp K H v k.dat
  | .var x, _, ⟨a, e, q⟩ => by subst e; exact .tup (SqT.of q) (.cons (.str _) (.cons (.str _) .nil))
  | .con x, _, ⟨a, e, q⟩ => by subst e; exact .tup (SqT.of q) (.cons (.str _) (.cons (.str _) .nil))
  | .app _ _, _, ⟨a, u, z, e, q, h1, h2⟩ => by subst e; exact .tup (SqT.of q) (.cons (.str _) (.cons h1.dp (.cons h2.dp .nil)))
theorem ne_vc : ¬ (("var" : Str) = "con") := by decide +kernel
theorem ne_cv : ¬ (("con" : Str) = "var") := by decide +kernel
theorem ne_va : ¬ (("var" : Str) = "apply") := by decide +kernel
theorem ne_av : ¬ (("apply" : Str) = "var") := by decide +kernel
theorem ne_ca : ¬ (("con" : Str) = "apply") := by decide +kernel
theorem ne_ac : ¬ (("apply" : Str) = "con") := by decide +kernel
theorem str_beq (x y : Str) : (x == y) = decide (x = y) := by
  rw [Bool.eq_iff_iff]
  simp
theorem eqv_tt (xs ys : List PyData) : PyData.eqv (.tuple xs) (.tuple ys) = PyData.eqvAll xs ys := by rw [PyData.eqv]
theorem eqv_cc (x y : PyData) (xs ys : List PyData) : PyData.eqvAll (x :: xs) (y :: ys) = (PyData.eqv x y && PyData.eqvAll xs ys) := by rw [PyData.eqvAll]
theorem eqv_nn : PyData.eqvAll [] [] = true := by rw [PyData.eqvAll]
theorem eqv_nc (y : PyData) (ys : List PyData) : PyData.eqvAll [] (y :: ys) = false := by rw [PyData.eqvAll]
theorem eqv_cn (y : PyData) (ys : List PyData) : PyData.eqvAll (y :: ys) [] = false := by rw [PyData.eqvAll]
theorem eqv_ss (x y : Str) : PyData.eqv (.str x) (.str y) = decide (x = y) := by rw [PyData.eqv]; exact str_beq x y
theorem Kd.eqv (a b : Kd) : PyData.eqv a.dat b.dat = decide (a = b) := by
  induction a generalizing b with
  | var x =>
    cases b with
    | var y => simp only [Kd.dat, eqv_tt, eqv_cc, eqv_ss, eqv_nn, decide_true, Bool.true_and, Bool.and_true, Kd.var.injEq]
    | con y => simp only [Kd.dat, eqv_tt, eqv_cc, eqv_ss, decide_eq_false ne_vc, Bool.false_and, reduceCtorEq, decide_false]
    | app c d => simp only [Kd.dat, eqv_tt, eqv_cc, eqv_ss, decide_eq_false ne_va, Bool.false_and, reduceCtorEq, decide_false]
  | con x =>
    cases b with
    | con y => simp only [Kd.dat, eqv_tt, eqv_cc, eqv_ss, eqv_nn, decide_true, Bool.true_and, Bool.and_true, Kd.con.injEq]
    | var y => simp only [Kd.dat, eqv_tt, eqv_cc, eqv_ss, decide_eq_false ne_cv, Bool.false_and, reduceCtorEq, decide_false]
    | app c d => simp only [Kd.dat, eqv_tt, eqv_cc, eqv_ss, decide_eq_false ne_ca, Bool.false_and, reduceCtorEq, decide_false]
  | app a1 a2 h1 h2 =>
    cases b with
    | var y => simp only [Kd.dat, eqv_tt, eqv_cc, eqv_ss, decide_eq_false ne_av, Bool.false_and, reduceCtorEq, decide_false]
    | con y => simp only [Kd.dat, eqv_tt, eqv_cc, eqv_ss, decide_eq_false ne_ac, Bool.false_and, reduceCtorEq, decide_false]
    | app c d =>
      simp only [Kd.dat, eqv_tt, eqv_cc, eqv_ss, eqv_nn, h1, h2, decide_true, Bool.true_and, Bool.and_true, Kd.app.injEq, Bool.decide_and]
theorem SqL.extT {K : PySem.W.Frag} {t c : Addr} {b : Nat} {H H' : Hp} {a : Addr} {xs : List V} (h : SqL K H a xs) (hT : Tape K H t c b) (e : Ext t H H') : SqL K H' a xs := by
  obtain ⟨kvs, hk⟩ := hT.dict
  rcases h with (h | ⟨o, h⟩) | h
  · exact .inl (.inl (e _ _ (ne_of h hk (by intro r; cases r)) h))
  · exact .inl (.inr ⟨o, e _ _ (ne_of h hk (by intro r; cases r)) h⟩)
  · exact .inr h
theorem Wok.str {x : Str} (h : Wok x) : PyData.strOk x = true := by
  unfold PyData.strOk
  rw [Array.all_eq_true']
  intro c hc
  have := h.2.2 c (by simpa using hc)
  exact decide_eq_true (by omega)
theorem Kd.lay : ∀ {k : Kd} {n : Nat}, Kd.fit n k → k.dat.canLay0 = true ∧ k.dat.depth ≤ n + 1
  | .var x, n, h => by
    have w : Wok x := by cases n <;> exact h
    refine ⟨?_, ?_⟩
    · simp only [Kd.dat, PyData.canLay0, PyData.canLayAll0, w.str, Bool.and_true]
      decide +kernel
    · simp [Kd.dat, PyData.depth, PyData.depthAll]
  | .con x, n, h => by
    have w : Wok x := by cases n <;> exact h
    refine ⟨?_, ?_⟩
    · simp only [Kd.dat, PyData.canLay0, PyData.canLayAll0, w.str, Bool.and_true]
      decide +kernel
    · simp [Kd.dat, PyData.depth, PyData.depthAll]
  | .app a b, n, h => by
    obtain ⟨m, rfl, h1, h2⟩ := Kd.fit_app h
    obtain ⟨a1, a2⟩ := Kd.lay h1
    obtain ⟨b1, b2⟩ := Kd.lay h2
    refine ⟨?_, ?_⟩
    · simp only [Kd.dat, PyData.canLay0, PyData.canLayAll0, a1, b1, Bool.and_true]
      decide +kernel
    · simp only [Kd.dat, PyData.depth, PyData.depthAll]
      omega
theorem Kd.shaped {k : Kd} {n : Nat} (h : Kd.fit n k) (hn : n ≤ 60) : SeqAt.shaped k.dat = true := by
  obtain ⟨h1, h2⟩ := Kd.lay h
  unfold SeqAt.shaped
  rw [h1, Bool.true_and]
  exact decide_eq_true (by omega)
/-- a list of words -/
theorem dp_words {K : PySem.W.Frag} {H : Hp} : ∀ ws : List Str, DpAll K H (ws.map V.str) (ws.map PyData.str)
  | [] => .nil
  | _ :: r => .cons (.str _) (dp_words r)
theorem lay_words : ∀ {ws : List Str}, (∀ x ∈ ws, Wok x) → PyData.canLayAll0 (ws.map PyData.str) = true ∧ PyData.depthAll (ws.map PyData.str) = 0
  | [], _ => ⟨by simp [PyData.canLayAll0], by simp [PyData.depthAll]⟩
  | x :: r, h => by
    obtain ⟨h1, h2⟩ := lay_words (ws := r) fun y hy => h y (List.mem_cons_of_mem _ hy)
    refine ⟨?_, ?_⟩
    · simp only [List.map_cons, PyData.canLayAll0, PyData.canLay0, (h x List.mem_cons_self).str, h1, Bool.true_and]
    · simp only [List.map_cons, PyData.depthAll, PyData.depth, h2]; rfl
theorem shaped_words {ws : List Str} (h : ∀ x ∈ ws, Wok x) : SeqAt.shaped (.list (ws.map PyData.str)) = true := by
  obtain ⟨h1, h2⟩ := lay_words h
  unfold SeqAt.shaped
  simp only [PyData.canLay0, h1, PyData.depth, h2]
  decide
theorem shaped_nil : SeqAt.shaped (.list []) = true := by decide
/-! ### rows of kinds, dicts of kinds -/
abbrev KdsAt (H : Hp) : List V → List Kd → Prop := Paired (KdAt H)
theorem paired_get {α β : Type} {F : α → β → Prop} : ∀ {xs : List α} {ys : List β} {i : Nat} {x : α}, Paired F xs ys → xs[i]? = some x → ∃ y, ys[i]? = some y ∧ F x y
  | _, _, _, _, .nil, e => by simp at e
  | _, _, 0, _, .cons r _, e => by simp at e; subst e; exact ⟨_, rfl, r⟩
  | _, _, i + 1, x, .cons _ t, e => by
    obtain ⟨y, h1, h2⟩ := paired_get (i := i) (x := x) t (by simpa using e)
    exact ⟨y, by simpa using h1, h2⟩
theorem paired_map {α β : Type} {F G : α → β → Prop} (h : ∀ a b, F a b → G a b) : ∀ {xs : List α} {ys : List β}, Paired F xs ys → Paired G xs ys
  | _, _, .nil => .nil
  | _, _, .cons r t => .cons (h _ _ r) (paired_map h t)
theorem KdsAt.tups {H H' : Hp} (h : Tups H H') {xs : List V} {ks : List Kd} (r : KdsAt H xs ks) : KdsAt H' xs ks := paired_map (fun _ _ q => KdAt.tups h q) r
theorem KdsAt.dp {K : PySem.W.Frag} {H : Hp} : ∀ {xs : List V} {ks : List Kd}, KdsAt H xs ks → DpAll K H xs (ks.map Kd.dat)
  | _, _, .nil => .nil
  | _, _, .cons r t => .cons r.dp (KdsAt.dp t)
abbrev By := List (Str × Kd)
def lk (by' : By) (x : Str) : Option Kd := (by'.find? fun p => decide (p.1 = x)).map (·.2)
theorem lk_nil (x : Str) : lk [] x = none := rfl
theorem lk_pos {p : Str × Kd} {r : By} {x : Str} (e : p.1 = x) : lk (p :: r) x = some p.2 := by simp [lk, List.find?_cons, e]
theorem lk_neg {p : Str × Kd} {r : By} {x : Str} (e : ¬ p.1 = x) : lk (p :: r) x = lk r x := by simp [lk, List.find?_cons, e]
abbrev ByAt (H : Hp) : List (Key × V) → By → Prop := Paired fun p q => p.1 = .inr q.1 ∧ KdAt H p.2 q.2
theorem ByAt.tups {H H' : Hp} (h : Tups H H') {kvs : List (Key × V)} {by' : By} (r : ByAt H kvs by') : ByAt H' kvs by' := paired_map (fun _ _ q => ⟨q.1, KdAt.tups h q.2⟩) r
theorem ByAt.get {H : Hp} (x : Str) : ∀ {kvs : List (Key × V)} {by' : By}, ByAt H kvs by' → (valV kvs (.inr x) = none ∧ lk by' x = none) ∨ ∃ v k, valV kvs (.inr x) = some v ∧ lk by' x = some k ∧ KdAt H v k
  | _, _, .nil => .inl ⟨rfl, rfl⟩
  | p :: kvs, q :: by', .cons r t => by
    by_cases e : q.1 = x
    · exact .inr ⟨p.2, q.2, valV_pos (by rw [r.1, e]), lk_pos e, r.2⟩
    · have e' : ¬ p.1 = (.inr x : Key) := by
        rw [r.1]
        intro z
        exact e (Sum.inr.inj z)
      rw [valV_neg e', lk_neg e]
      exact ByAt.get x t
def Kd.put (by' : By) : Kd → Kd
  | .var x => (lk by' x).getD (.var x)
  | .con x => .con x
  | .app a b => .app (a.put by') (b.put by')
def conK (x : Str) (ks : List Kd) : Kd := ks.foldl Kd.app (.con x)
theorem conK_snoc (x : Str) (ks : List Kd) (k : Kd) : conK x (ks ++ [k]) = .app (conK x ks) k := by
  unfold conK
  rw [List.foldl_append]
  rfl
theorem Kd.fit_put {by' : By} {m : Nat} (hb : ∀ x k, lk by' x = some k → Kd.fit m k) : ∀ {k : Kd} {n : Nat}, Kd.fit n k → Kd.fit (n + m) (k.put by')
  | .var x, n, h => by
    have w : Wok x := by cases n <;> exact h
    show Kd.fit (n + m) ((lk by' x).getD (.var x))
    cases e : lk by' x with
    | none =>
      show Kd.fit (n + m) (.var x)
      generalize n + m = j
      cases j <;> exact w
    | some k => exact Kd.fit_mono (by omega) (hb x k e)
  | .con x, n, h => by
    have w : Wok x := by cases n <;> exact h
    show Kd.fit (n + m) (.con x)
    generalize n + m = j
    cases j <;> exact w
  | .app a b, n, h => by
    obtain ⟨j, rfl, h1, h2⟩ := Kd.fit_app h
    show Kd.fit (j + 1 + m) (.app (a.put by') (b.put by'))
    rw [show j + 1 + m = j + m + 1 by omega]
    exact ⟨Kd.fit_put hb h1, Kd.fit_put hb h2⟩
theorem fitV {n : Nat} {x : Str} (w : Wok x) : Kd.fit n (.var x) := by cases n <;> exact w
theorem fitC {n : Nat} {x : Str} (w : Wok x) : Kd.fit n (.con x) := by cases n <;> exact w
theorem wok_of_var {n : Nat} {x : Str} (h : Kd.fit n (.var x)) : Wok x := by cases n <;> exact h
theorem wok_of_con {n : Nat} {x : Str} (h : Kd.fit n (.con x)) : Wok x := by cases n <;> exact h
theorem fit_fold {j : Nat} : ∀ {ks : List Kd} {h : Kd} {i : Nat}, Kd.fit i h → (∀ k ∈ ks, Kd.fit j k) → j ≤ i → Kd.fit (i + ks.length) (ks.foldl Kd.app h)
  | [], h, i, h1, _, _ => h1
  | k :: r, h, i, h1, h2, h3 => by
    have q : Kd.fit (i + 1) (.app h k) := ⟨h1, Kd.fit_mono h3 (h2 k List.mem_cons_self)⟩
    have z := fit_fold (ks := r) q (fun y hy => h2 y (List.mem_cons_of_mem _ hy)) (by omega)
    rw [List.length_cons, show i + (r.length + 1) = i + 1 + r.length by omega]
    exact z
theorem fit_conK {j : Nat} {x : Str} {ks : List Kd} (w : Wok x) (h : ∀ k ∈ ks, Kd.fit j k) : Kd.fit (j + ks.length) (conK x ks) := fit_fold (fitC w) h (Nat.le_refl _)
theorem eqv_ll (xs ys : List PyData) : PyData.eqv (.list xs) (.list ys) = PyData.eqvAll xs ys := by rw [PyData.eqv]
theorem words_ne {ws : List Str} : (!PyData.eqv (.list (ws.map PyData.str)) (.list [])) = !ws.isEmpty := by
  rw [eqv_ll]
  cases ws with
  | nil => rw [List.map_nil, eqv_nn]; rfl
  | cons x r => rw [List.map_cons, eqv_cn]; rfl
/-- rows (word, how many parts) -/
def ConsAt (K : PySem.W.Frag) (H : Hp) (l : Addr) : Prop := ∃ xs, SqL K H l xs ∧ 0 < xs.length ∧ xs.length < 1000 ∧ ∀ v ∈ xs, ∃ (a : Addr) (x : Str) (m : Nat), v = .ref a ∧ H a = some (.tup [.str x, .int (m : Int)]) ∧ m ≤ 2 ∧ Wok x
theorem ConsAt.ext {K : PySem.W.Frag} {t c : Addr} {b : Nat} {H H' : Hp} {l : Addr} (h : ConsAt K H l) (hT : Tape K H t c b) (e : Ext t H H') : ConsAt K H' l := by
  obtain ⟨xs, h1, h2, h3, h4⟩ := h
  refine ⟨xs, SqL.extT h1 hT e, h2, h3, fun v hv => ?_⟩
  obtain ⟨a, x, m, e1, e2, e3, e4⟩ := h4 v hv
  exact ⟨a, x, m, e1, Ext.tups e hT _ _ e2, e3, e4⟩
/-- the variables of kinds are among some words -/
def Kd.of (ws : List Str) : Kd → Prop
  | .var x => x ∈ ws
  | .con _ => True
  | .app a b => Kd.of ws a ∧ Kd.of ws b
theorem of_fold {ws : List Str} : ∀ {ks : List Kd} {h : Kd}, Kd.of ws h → (∀ k ∈ ks, Kd.of ws k) → Kd.of ws (ks.foldl Kd.app h)
  | [], _, h1, _ => h1
  | k :: r, h, h1, h2 => of_fold (ks := r) (h := .app h k) ⟨h1, h2 k List.mem_cons_self⟩ fun y hy => h2 y (List.mem_cons_of_mem _ hy)
theorem of_conK {ws : List Str} {x : Str} {ks : List Kd} (h : ∀ k ∈ ks, Kd.of ws k) : Kd.of ws (conK x ks) := of_fold (h := .con x) trivial h
/-! ### recursion -/
theorem fn_false {P : Program} {w : World} {K : PySem.W.Frag} {mg : Str → Option Value} {base : Heap} {f : Addr} {fd : FuncData} {ps : List Str} : FnOk P w K mg base CX0 0 f fd ps (fun _ _ _ _ => False) :=
  ⟨fun _ _ _ _ h => h.elim, fun _ _ _ _ _ _ _ _ _ _ _ _ _ h => h.elim⟩
end L3

namespace L3
open PySem L2
def topS (i : Nat) : Stmt := PySem.Challenge.pw_leastneeds_k06_what_is_a_kind_and_its_te.main.body.getD i (.Pass ⟨0, 0, 0, 0⟩)
section
variable {P : Program} {w : World} {K : PySem.W.Frag} {mg : Str → Option Value} {base : Heap}

abbrev s__law_begin : Stmt := topS 14
abbrev N__law_begin : List Str := ["_law_script"]
theorem sc__law_begin : FnScope N__law_begin ["_law_script"] (defScope s__law_begin) := ⟨rfl, rfl, rfl, by decide +kernel, rfl, by decide +kernel, by decide +kernel⟩
def spBegin (K : PySem.W.Frag) : Sp := fun vs H Q _ => ∃ (a : Addr) (ns : List Int), vs = [.ref a] ∧ SqL K H a (ns.map V.int) ∧ ∀ (H' : Hp) (t c : Addr), Same H H' → H t = none → Tape K H' t c 1000000 → Q (.ref t) H'
theorem cut63 (ns : List Int) : cutV (ns.map V.int) none (some 63) = (ns.take 63).map V.int := by
  unfold cutV
  rw [HT.sIx_none, show (63 : Int) = ((63 : Nat) : Int) from rfl, HT.sIx_nat, List.drop_zero, List.length_map, Nat.sub_zero, List.map_take]
  by_cases h : 63 ≤ ns.length
  · rw [Nat.min_eq_left h]
  · rw [Nat.min_eq_right (by omega), List.take_of_length_le (by simp), List.take_of_length_le (by simp; omega)]
theorem ok_begin {f : Addr} {fd : FuncData} (F : Fun K "_law_begin" "_law_begin" s__law_begin f fd) : FnOk P w K mg base CX0 1 f fd ["_law_script"] (spBegin K) := by
  refine F.ok sc__law_begin (fun vs H Q E h => ?_) (fun cdv A outer s H vs Q E hr h => ?_)
  · obtain ⟨a, ns, rfl, _⟩ := h
    rfl
  · obtain ⟨a, ns, rfl, hS, k⟩ := h
    refine ⟨_, (pss_one (ps_ret (pe_disp (pps_cons pe_str (pe_orT (pe_slice sl_list (pv 0) po_none (po_some pe_int)) (pe_one (pe_lst (pa_cons pe_int pa_nil)))) (pps_cons pe_str pe_int (pps_cons pe_str pe_int pps_nil))) (by rfl) (by rfl) (fun z => by cases z) (by decide)))), ?_⟩
    intro t ht
    have s0 : Same H (upd H t (.dK [])) := same_new ht
    refine ⟨_, rfl, _, rfl, a, _, rfl, s0.seq hS, fun q hq => ?_⟩
    rw [cut63]
    have nq : t ≠ q := fun e => by
      rw [← e, upd_same] at hq
      cases hq
    have s1 : Same (upd H t (.dK [])) (upd (upd H t (.dK [])) q (.lst ((ns.take 63).map V.int))) := same_new hq
    -- what stands at the end
    have fin : ∀ (H2 : Hp) (c : Addr) (ms : List Int), Same (upd H t (.dK [])) H2 → H2 c = some (.lst (ms.map V.int)) → c ≠ t → 0 < ms.length → ms.length ≤ 63 →
        H2 t = some (.dK []) ∧ ∃ kvs : List (Key × V), [(V.str "cells", V.ref c), (V.str "place", V.int 0), (V.str "left", V.int 0)] = kvs.map (fun kv => (kV kv.1, kv.2)) ∧ kvs.length ≤ 15 ∧ Q (.ref t) (upd H2 t (.dK (mergeK [] kvs))) := by
      intro H2 c ms h2 hc nc h0 h63
      refine ⟨h2 _ _ upd_same, tp c 0 0, rfl, by show 3 ≤ 15; decide, ?_⟩
      refine k _ t c (fun b o e => ?_) ht ⟨0, 0, ms, ?_, SqL.of ?_, nc, h0, h63, by omega, by omega, by omega⟩
      · have n : b ≠ t := ne_of_none e ht
        rw [upd_ne n]
        exact h2 _ _ (s0 _ _ e)
      · rw [upd_same]
        rfl
      · rw [upd_ne nc]
        exact hc
    refine ⟨_, .inl ⟨_, SqL.of upd_same, rfl⟩, ?_⟩
    cases hns : ns.take 63 with
    | nil =>
      rw [hns] at s1
      refine iteF ?_
      refine ⟨by decide, fun r hr2 => ?_⟩
      refine fin _ r [0] (s1.trans (same_new hr2)) upd_same (fun e => ?_) (by decide) (by decide)
      rw [e, upd_ne nq, upd_same] at hr2
      cases hr2
    | cons z zs =>
      refine iteT ?_
      refine fin _ q (z :: zs) (by rw [← hns]; exact s1) (by rw [upd_same]) nq.symm (Nat.zero_lt_succ _) ?_
      rw [← hns, List.length_take]
      omega

/-! ### a number from the tape -/
abbrev s__law_draw : Stmt := topS 15
abbrev N__law_draw : List Str := ["_law_tape", "_law_many", "_law_spot", "_law_size", "_law_cell", "_law_got"]
theorem sc__law_draw : FnScope N__law_draw ["_law_tape", "_law_many"] (defScope s__law_draw) := ⟨rfl, rfl, rfl, by decide +kernel, rfl, by decide +kernel, by decide +kernel⟩
theorem get_left {H : Hp} {t c : Addr} {p l : Int} (h : H t = some (.dK (tp c p l))) : DGet H t (.str "left") (some (.int l)) := DGet.k (k := .inr "left") h
theorem get_place {H : Hp} {t c : Addr} {p l : Int} (h : H t = some (.dK (tp c p l))) : DGet H t (.str "place") (some (.int p)) := DGet.k (k := .inr "place") h
theorem get_cells {H : Hp} {t c : Addr} {p l : Int} (h : H t = some (.dK (tp c p l))) : DGet H t (.str "cells") (some (.ref c)) := DGet.k (k := .inr "cells") h
theorem put_left {H : Hp} {t c : Addr} {p l q : Int} (h : H t = some (.dK (tp c p l))) : DPut H t (.str "left") (.int q) (upd H t (.dK (tp c p q))) := DPut.k (k := .inr "left") (v := .int q) h (by show 3 < sizeLine; decide)
theorem put_place {H : Hp} {t c : Addr} {p l q : Int} (h : H t = some (.dK (tp c p l))) : DPut H t (.str "place") (.int q) (upd H t (.dK (tp c q l))) := DPut.k (k := .inr "place") (v := .int q) h (by show 3 < sizeLine; decide)
def spDraw (K : PySem.W.Frag) : Sp := fun vs H Q _ => ∃ (t c : Addr) (n : Int) (b : Nat), vs = [.ref t, .int n] ∧ 1 ≤ n ∧ n < 1000000 ∧ Tape K H t c (b + 1) ∧
  ∀ (H' : Hp) (r : Int), Ext t H H' → Tape K H' t c b → 0 ≤ r → r < n → Q (.int r) H'
theorem ok_draw {f : Addr} {fd : FuncData} (F : Fun K "_law_draw" "_law_draw" s__law_draw f fd) (B : Bl mg) : FnOk P w K mg base CX0 1 f fd ["_law_tape", "_law_many"] (spDraw K) := by
  refine F.ok sc__law_draw (fun vs H Q E h => ?_) (fun cdv A outer s H vs Q E hr h => ?_)
  · obtain ⟨t, c, n, b, rfl, _⟩ := h
    rfl
  · obtain ⟨t, c, n, b, rfl, hn1, hn2, ⟨p, l, ns, h1, h2, h3, h4, h5, h6, h7, h8⟩, k⟩ := h
    have hu := hu_of hr
    refine ⟨_, (pss_cons (ps_if (pt_cmpR op_lt (pe_dget hu (pv 0) pe_str (fun _ _ => rfl)) (pv 1) (nomark _))
  (pss_cons (ps_par (i := 2) (j := 3) (by rfl) sc__law_draw.nd rfl rfl (by decide) rfl rfl (pa_cons (pe_dget hu (pv 0) pe_str (fun _ _ => rfl)) (pa_cons (pe_callB call_len (by rfl) B.len PySem.boot_len (pa_cons (pe_dget hu (pv 0) pe_str (fun _ _ => rfl)) pa_nil)) pa_nil)) (by rfl))
  (pss_cons (ps_asg (pe_tup (pa_cons (pe_ix ix_list (pe_dget hu (pv 0) pe_str (fun _ _ => rfl)) (pe_op op_mod (pe_callTy call_int1 (by rfl) B.int (by decide +kernel) (pa_cons (pv 2) pa_nil)) (pv 3)) (fun _ _ => rfl)) (pa_cons (pe_op op_add (pv 2) pe_int) pa_nil))) (pg_tup (by rfl) (pgs_cons (pg_name (i := 4) sc__law_draw.nd rfl (Or.inl rfl)) (pgs_cons (pg_sub (pv 0) pe_str (set_dict hu)) pgs_nil))))
  (pss_cons (ps_dput hu (pv 0) pe_str (pe_op op_mod (pe_callTy call_int1 (by rfl) B.int (by decide +kernel) (pa_cons (pe_op op_pow (pe_op op_add (pe_op op_add (pe_op op_mod (pe_callTy call_int1 (by rfl) B.int (by decide +kernel) (pa_cons (pv 4) pa_nil)) pe_int) (pe_op op_mul pe_int (pv 2))) pe_int) pe_int) pa_nil)) (pe_op op_add (pe_op op_pow pe_int pe_int) pe_int)) rfl)
  (pss_one (ps_if (PW.pt (pw_and (pt_cmpR op_ge (pv 4) (pe_op op_pow pe_int pe_int) (nomark _)) (pw_and1 (pt_cmpR op_lt (pv 2) (pv 3) (nomark _)))))
  (pss_one (ps_dput hu (pv 0) pe_str (pe_op op_sub (pv 4) (pe_op op_pow pe_int pe_int)) rfl))
  pss_nil)))))
  pss_nil)
  (pss_cons (ps_asg (pe_tup (pa_cons (pe_op op_mod (pe_callTy call_int1 (by rfl) B.int (by decide +kernel) (pa_cons (pe_dget hu (pv 0) pe_str (fun _ _ => rfl)) pa_nil)) (pv 1)) (pa_cons (pe_op op_fdivN (pe_dget hu (pv 0) pe_str (fun _ _ => rfl)) (pv 1)) pa_nil))) (pg_tup (by rfl) (pgs_cons (pg_name (i := 5) sc__law_draw.nd rfl (Or.inl rfl)) (pgs_cons (pg_sub (pv 0) pe_str (set_dict hu)) pgs_nil))))
  (pss_one (ps_ret (pv 5))))), ?_⟩
    -- the last two rows, from any tape
    have fin : ∀ (H1 : Hp) (p l : Int) (v2 v3 v4 : Option V), Ext t H H1 → H1 t = some (.dK (tp c p l)) → SqL K H1 c (ns.map V.int) → 0 ≤ p → p + b ≤ 1000000 → 0 ≤ l →
        tSeq (tAsg (tTup (tCons (tOp (rI (fun _ j => 0 < j) fun i j => .int (i % j)) (tCB (fun xs H Q => (∃ i, xs = [.int i] ∧ Q (.int i) H) ∨ ∃ k, xs = [.bl k] ∧ Q (.int (if k then 1 else 0)) H) (tCons (tDGet (tVar 0) (tC (.str "left"))) tNil)) (tVar 1)) (tCons (tOp (rI CDivN fun i j => .int (i.fdiv j)) (tDGet (tVar 0) (tC (.str "left"))) (tVar 1)) tNil)))
          (gTup K 2 (gCons (gName 5) (gCons (gSub (tVar 0) (tC (.str "left")) rSetD) gNil)))) (tRet (tVar 5)) { nx := fun _ H' => Q .non H', rt := Q } [some (.ref t), some (.int n), v2, v3, v4, none] H1 := by
      intro H1 p l v2 v3 v4 e1 g1 g2 g3 g4 g5
      refine ⟨_, rfl, _, _, rfl, get_left g1, .inl ⟨_, rfl, _, rfl, _, _, rfl, rfl, (by omega), ?_⟩⟩
      refine ⟨_, rfl, _, _, rfl, get_left g1, _, rfl, _, _, rfl, rfl, ⟨by omega, by omega⟩, slz rfl, fun q hq => ?_⟩
      have nq : t ≠ q := ne_of_none g1 hq
      refine ⟨q, _, rfl, SqT.of upd_same, rfl, _, _, rfl, _, _, rfl, _, rfl, t, _, rfl, put_left (by rw [upd_ne nq]; exact g1), rfl, ?_⟩
      refine ⟨_, rfl, ?_⟩
      have e2 : Ext t H (upd H1 q (.tup [.int (l % n), .int (l.fdiv n)])) := e1.trans (Ext.new hq)
      refine k _ _ (e2.trans Ext.put) ⟨p, l.fdiv n, ns, upd_same, (SqL.ext g2 ((Ext.new hq).trans Ext.put) h3), h3, h4, h5, g3, g4, Int.fdiv_nonneg g5 (by omega)⟩ (Int.emod_nonneg _ (by omega)) (Int.emod_lt_of_pos _ (by omega))
    refine ⟨_, rfl, _, _, rfl, get_left h1, _, rfl, _, _, rfl, rfl, _, rfl, ?_⟩
    refine ite2 (fun hc => ?_) (fun hc => ?_)
    · refine ⟨_, rfl, _, _, rfl, get_place h1, _, rfl, _, _, rfl, get_cells h1, _, _, rfl, .inl ⟨_, h2, rfl⟩, _, _, rfl, ?_⟩
      have hm : p % ((ns.map V.int).length : Int) = ((p % ((ns.map V.int).length : Int)).toNat : Int) := (Int.toNat_of_nonneg (Int.emod_nonneg _ (by rw [List.length_map]; omega))).symm
      have hlt : (p % ((ns.map V.int).length : Int)).toNat < ns.length := by
        have := Int.emod_lt_of_pos p (show (0 : Int) < ((ns.map V.int).length : Int) by rw [List.length_map]; omega)
        rw [List.length_map] at this ⊢
        omega
      refine ⟨_, rfl, _, _, rfl, get_cells h1, _, rfl, .inl ⟨_, rfl, _, rfl, _, _, rfl, rfl, (by rw [List.length_map]; omega), c, _, _, V.int (ns[(p % ((ns.map V.int).length : Int)).toNat]), rfl, rfl, h2, at_of hm (by rw [List.getElem?_map, List.getElem?_eq_getElem hlt]; rfl), ?_⟩⟩
      generalize ns[(p % ((ns.map V.int).length : Int)).toNat] = cell
      refine ⟨_, rfl, _, _, rfl, rfl, slz rfl, fun q hq => ?_⟩
      have nq : t ≠ q := ne_of_none h1 hq
      have g0 : (upd H q (.tup [.int cell, .int (p + 1)])) t = some (.dK (tp c p l)) := by rw [upd_ne nq]; exact h1
      refine ⟨q, _, rfl, SqT.of upd_same, rfl, _, _, rfl, _, _, rfl, _, rfl, t, _, rfl, put_place g0, rfl, ?_⟩
      have e1 : Ext t H (upd (upd H q (.tup [.int cell, .int (p + 1)])) t (.dK (tp c (p + 1) l))) := (Ext.new hq).trans Ext.put
      have hu1 : 0 ≤ cell % 2147483587 := Int.emod_nonneg _ (by decide)
      have hu2 : cell % 2147483587 < 2147483587 := Int.emod_lt_of_pos _ (by decide)
      refine ⟨_, rfl, .inl ⟨_, rfl, _, _, rfl, rfl, (show (0 : Int) < 2147483587 by decide), _, rfl, _, _, rfl, rfl, .inr ⟨by omega, by omega⟩, _, _, rfl, rfl, _, _, rfl, rfl, ?_⟩⟩
      refine ⟨_, _, rfl, rfl, ⟨by decide, by decide, ?_⟩, .inl ⟨_, rfl, ?_⟩⟩
      · show (cell % 2147483587 + 48271 * p + 16807).natAbs < 2 ^ 64
        omega
      generalize (cell % 2147483587 + 48271 * p + 16807) ^ (13 : Int).toNat = big
      refine ⟨_, _, rfl, rfl, ⟨by decide, by decide, by decide⟩, _, _, rfl, rfl, _, _, rfl, rfl, (show (0 : Int) < 10 ^ (50 : Int).toNat + 57 by decide +kernel), ?_⟩
      refine ⟨_, rfl, t, _, rfl, put_left upd_same, ?_⟩
      have hl : 0 ≤ big % (10 ^ (50 : Int).toNat + 57) := Int.emod_nonneg _ (by decide +kernel)
      generalize big % (10 ^ (50 : Int).toNat + 57) = l2 at hl ⊢
      have e3 : Ext t H (upd (upd (upd H q (.tup [.int cell, .int (p + 1)])) t (.dK (tp c (p + 1) l))) t (.dK (tp c (p + 1) l2))) := e1.trans Ext.put
      refine ⟨_, rfl, _, _, rfl, rfl, ⟨by decide, by decide, by decide⟩, _, _, rfl, rfl, _, rfl, ?_⟩
      refine ite2 (fun hc1 => ?_) (fun hc1 => ?_)
      · refine ⟨_, rfl, _, rfl, _, _, rfl, rfl, _, rfl, ?_⟩
        refine ite2 (fun hc2 => ?_) (fun hc2 => ?_)
        · refine ⟨_, rfl, _, _, rfl, rfl, ⟨by decide, by decide, by decide⟩, _, _, rfl, rfl, ?_⟩
          refine ⟨_, rfl, t, _, rfl, put_left upd_same, ?_⟩
          have hc3 : (10 : Int) ^ (18 : Int).toNat ≤ cell := of_decide_eq_true hc1
          exact fin _ (p + 1) _ _ _ _ (e3.trans Ext.put) upd_same (SqL.ext h2 (e3.trans Ext.put) h3) (by omega) (by omega) (by omega)
        · exact fin _ (p + 1) _ _ _ _ e3 upd_same (SqL.ext h2 e3 h3) (by omega) (by omega) hl
      · refine iteF ?_
        exact fin _ (p + 1) _ _ _ _ e3 upd_same (SqL.ext h2 e3 h3) (by omega) (by omega) hl
    · exact fin H p l none none none (Ext.refl _ _) h1 h2 h6 (by omega) h8
end
end L3

namespace L3
open PySem L2
section
variable {P : Program} {w : World} {K : PySem.W.Frag} {mg : Str → Option Value} {base : Heap}
theorem Fun.kn {x : Str} {st : Stmt} {f : Addr} {fd : FuncData} {k : Nat} {ps : List Str} {sp : Sp} (F : Fun K x x st f fd) (hm : mg x = some (.ref f)) (h : FnOk P w K mg base CX0 k f fd ps sp)
    (b : ∀ (kV doc pm : Value) (an : Option Addr) (cdv ct : Value) (us : List Value), us.length = ps.length → bindArgs (PySem.W.fnOf x x (defArgs st) (defBody st) (defScope st) .none kV doc pm an cdv ct) ⟨us, []⟩ = pure (ps.zip us)) : Kn P w K mg base k x ps sp :=
  ⟨f, fd, h, hm, F.kp, F.binds b⟩
abbrev s__law_pick : Stmt := topS 16
abbrev N__law_pick : List Str := ["_law_tape", "_law_items"]
theorem sc__law_pick : FnScope N__law_pick ["_law_tape", "_law_items"] (defScope s__law_pick) := ⟨rfl, rfl, rfl, by decide +kernel, rfl, by decide +kernel, by decide +kernel⟩
def spPick (K : PySem.W.Frag) : Sp := fun vs H Q _ => ∃ (t c l : Addr) (xs : List V) (b : Nat), vs = [.ref t, .ref l] ∧ SqL K H l xs ∧ 0 < xs.length ∧ xs.length < 1000000 ∧ Tape K H t c (b + 1) ∧
  ∀ (H' : Hp) (v : V), Ext t H H' → Tape K H' t c b → v ∈ xs → Q v H'
theorem ok_pick {f : Addr} {fd : FuncData} (F : Fun K "_law_pick" "_law_pick" s__law_pick f fd) (B : Bl mg) (D__law_draw : Kn P w K mg base 1 "_law_draw" ["_law_tape", "_law_many"] (spDraw K)) : FnOk P w K mg base CX0 2 f fd ["_law_tape", "_law_items"] (spPick K) := by
  refine F.ok sc__law_pick (fun vs H Q E h => ?_) (fun cdv A outer s H vs Q E hr h => ?_)
  · obtain ⟨t, c, l, xs, b, rfl, _⟩ := h
    rfl
  · obtain ⟨t, c, l, xs, b, rfl, h1, h2, h3, h4, k⟩ := h
    have hr__law_draw := hr
    refine ⟨_, (pss_one (ps_ret (pe_ix ix_list (pv 1) (pe_kn D__law_draw hr__law_draw (pa_cons (pv 0) (pa_cons (pe_callB call_len (by rfl) B.len PySem.boot_len (pa_cons (pv 1) pa_nil)) pa_nil))) (fun _ _ => rfl)))), ?_⟩
    refine ⟨_, rfl, _, rfl, _, rfl, _, _, rfl, .inl ⟨_, h1, rfl⟩, t, c, _, b, rfl, by omega, by omega, h4, fun H' r e1 e2 r1 r2 => ?_⟩
    have hj : r = (r.toNat : Int) := (Int.toNat_of_nonneg r1).symm
    have hlt : r.toNat < xs.length := by omega
    exact ⟨l, xs, r, xs[r.toNat], rfl, rfl, SqL.extT h1 h4 e1, at_of hj (List.getElem?_eq_getElem hlt), k H' _ e1 e2 (List.getElem_mem hlt)⟩

/-! ### words -/
def sgn (j : Nat) : Str := ⟨#[97 + j]⟩
def mkW (rest : Str) (d : Bool) (c : Str) : Str := if d then rest ++ c else c ++ rest
abbrev s__law_words : Stmt := topS 18
abbrev N__law_words : List Str := ["_law_tape", "_law_many", "_law_rest", "_law_first", "_law_letters", "_law_is_behind", "_law_k", "_law_letter"]
theorem sc__law_words : FnScope N__law_words ["_law_tape", "_law_many"] (defScope s__law_words) := ⟨rfl, rfl, rfl, by decide +kernel, rfl, by decide +kernel, by decide +kernel⟩
def rests : List Str := ["", "x", "oo", "zzzz", "ery", "bbbbbbb"]
def lets (first n : Nat) : List Str := (List.range n).map fun k => sgn ((first + 7 * k) % 26)
def spWords (K : PySem.W.Frag) : Sp := fun vs H Q _ => ∃ (t c : Addr) (n b : Nat), vs = [.ref t, .int (n : Int)] ∧ n ≤ 100 ∧ Tape K H t c (b + 3) ∧
  ∀ (H' : Hp) (l : Addr) (rest : Str) (first : Nat) (d : Bool), Ext t H H' → Tape K H' t c b → H l = none → rest ∈ rests → first < 26 → H' l = some (.lst (((lets first n).map (mkW rest d)).map V.str)) → Q (.ref l) H'
theorem at_ofG {α : Type} {xs : List α} {z : Int} {j : Nat} {v : α} (e : z = (j : Int)) (h : xs[j]? = some v) : atI xs z = some v := by
  rw [e]
  exact atI_nat h
theorem abc_at : ∀ j : Nat, j < 26 → ("abcdefghijklmnopqrstuvwxyz" : Str).cps.toList[j]? = some (97 + j) := by decide +kernel
theorem lets_succ (first n : Nat) : lets first (n + 1) = lets first n ++ [sgn ((first + 7 * n) % 26)] := by
  unfold lets
  rw [List.range_succ, List.map_append]
  rfl
theorem lets_length (first n : Nat) : (lets first n).length = n := by
  unfold lets
  rw [List.length_map, List.length_range]
theorem rests_len : ∀ r ∈ rests, r.length ≤ 7 := by decide +kernel
theorem ok_words {f : Addr} {fd : FuncData} (F : Fun K "_law_words" "_law_words" s__law_words f fd) (B : Bl mg) (D__law_draw : Kn P w K mg base 1 "_law_draw" ["_law_tape", "_law_many"] (spDraw K)) (D__law_pick : Kn P w K mg base 2 "_law_pick" ["_law_tape", "_law_items"] (spPick K)) :
    FnOk P w K mg base CX0 3 f fd ["_law_tape", "_law_many"] (spWords K) := by
  refine F.ok sc__law_words (fun vs H Q E h => ?_) (fun cdv A outer s H vs Q E hr h => ?_)
  · obtain ⟨t, c, n, b, rfl, _⟩ := h
    rfl
  · obtain ⟨t, c, n, b, rfl, hn, hT, k⟩ := h
    have hr__law_draw : Room 1 _ := hr.mono (by decide)
    have hr__law_pick : Room 2 _ := hr
    refine ⟨_, (pss_cons (ps_asg (pe_tup (pa_cons (pe_kn D__law_pick hr__law_pick (pa_cons (pv 0) (pa_cons (pe_lst (pa_cons pe_str (pa_cons pe_str (pa_cons pe_str (pa_cons pe_str (pa_cons pe_str (pa_cons pe_str pa_nil))))))) pa_nil))) (pa_cons (pe_kn D__law_draw hr__law_draw (pa_cons (pv 0) (pa_cons pe_int pa_nil))) pa_nil))) (pg_tup (by rfl) (pgs_cons (pg_name (i := 2) sc__law_words.nd rfl (Or.inr rfl)) (pgs_cons (pg_name (i := 3) sc__law_words.nd rfl (Or.inr rfl)) pgs_nil))))
  (pss_cons (ps_setLc (i := 4) (own := [("_law_k", 6)]) rfl sc__law_words.nd rfl rfl (sw_true rfl rfl rfl (by decide +kernel)) (pi_range1 (by rfl) B.range (pa_cons (pv 1) pa_nil)) (blkOk_by (N := N__law_words) (sc := (defScope s__law_words)) (own := [("_law_k", 6)]) (by decide +kernel)) (fun _ _ _ _ _ => (pg_name (i := 6) sc__law_words.nd rfl (Or.inl rfl))) (fun _ _ _ _ _ => pts_nil) (fun _ _ _ _ _ => (pe_ix ix_str pe_str (pe_op op_mod (pe_callTy call_int1 (by rfl) B.int (by decide +kernel) (pa_cons (pe_op op_add (pv 3) (pe_op op_mul pe_int (pv 6))) pa_nil)) pe_int) (fun _ _ => rfl))))
  (pss_cons (ps_set (i := 5) sc__law_words.nd rfl (Or.inr rfl) (pe_cmpR op_eq (pe_kn D__law_draw hr__law_draw (pa_cons (pv 0) (pa_cons pe_int pa_nil))) pe_int (nomark _)))
  (pss_one (ps_ret (pe_lc (own := [("_law_letter", 7)]) rfl sc__law_words.nd (pi_list (pv 4)) (blkOk_by (N := N__law_words) (sc := (defScope s__law_words)) (own := [("_law_letter", 7)]) (by decide +kernel)) (fun _ _ _ _ _ => (pg_name (i := 7) sc__law_words.nd rfl (Or.inl rfl))) (fun _ _ _ _ _ => pts_nil) (fun _ _ _ _ _ => (pe_ifExp (pt_val (pv 5)) (pe_op op_add_str (pv 2) (pv 7)) (pe_op op_add_str (pv 7) (pv 2)))))))))), ?_⟩
    refine ⟨_, rfl, slz rfl, fun l0 hl0 => ?_⟩
    refine ⟨t, c, l0, rests.map V.str, b + 2, rfl, SqL.of upd_same, by decide, by decide, hT.new hl0, fun H1 v e1 T1 hv => ?_⟩
    obtain ⟨rest, hrest, rfl⟩ := List.mem_map.mp hv
    refine ⟨_, rfl, t, c, 26, b + 1, rfl, by decide, by decide, T1, fun H2 r e2 T2 r1 r2 => ?_⟩
    obtain ⟨first, rfl⟩ : ∃ m : Nat, r = (m : Int) := ⟨r.toNat, (Int.toNat_of_nonneg r1).symm⟩
    have hf : first < 26 := by omega
    refine ⟨slz rfl, fun q hq => ⟨q, _, rfl, SqT.of upd_same, rfl, _, _, rfl, _, _, rfl, rfl, ?_⟩⟩
    have E2 : Ext t H (upd H2 q (.tup [.str rest, .int (first : Int)])) := (((Ext.new hl0).trans e1).trans e2).trans (Ext.new hq)
    have T3 := T2.new (o := .tup [.str rest, .int (first : Int)]) hq
    generalize upd H2 q (.tup [.str rest, .int (first : Int)]) = H3 at E2 T3 ⊢
    refine ⟨_, rfl, (n : Int), rfl, by omega, by omega, fun D hD => ?_⟩
    refine lc_range (lo := 0) (n := n) (fun i H' => Same H3 H' ∧ H' D = some (.lst ((lets first i).map V.str))) ⟨same_new hD, upd_same⟩ (fun i H' hi ⟨s1, g1⟩ => ⟨rfl, ?_⟩) (fun H4 ⟨s4, g4⟩ => ?_)
    · refine ⟨_, rfl, _, rfl, _, _, rfl, rfl, .inl ⟨by decide, by decide⟩, _, _, rfl, rfl, .inl ⟨_, rfl, ?_⟩⟩
      refine ⟨_, _, rfl, rfl, (show (0 : Int) < 26 by decide), _, _, _, rfl, rfl, slz rfl, at_ofG (show ((first : Int) + 7 * (0 + (i : Int))) % 26 = (((first + 7 * i) % 26 : Nat) : Int) by omega) (abc_at _ (by omega)), ?_⟩
      refine ⟨_, g1, ?_, ?_⟩
      · rw [List.length_map, lets_length]
        exact small1000 (by omega)
      · refine ⟨fun b' o z => ?_, ?_⟩
        · rw [upd_ne (ne_of_none z hD)]
          exact s1 _ _ z
        · rw [upd_same, lets_succ, List.map_append]
          rfl
    · have T4 := T3.same s4
      refine ⟨_, rfl, t, c, 2, b, rfl, by decide, by decide, T4, fun H5 r5 e5 T5 r51 r52 => ?_⟩
      refine ⟨rfl, ?_⟩
      have n5 : D ≠ t := T3.ne hD
      have g5 := e5 _ _ n5 g4
      refine ⟨_, rfl, D, rfl, ⟨_, SqL.of g5⟩, fun D2 hD2 => ?_⟩
      have nD : D ≠ D2 := ne_of_none g5 hD2
      refine lc_list (K := K) (a := D) (xs := (lets first n).map V.str) (fun i H' => Same H5 H' ∧ H' D2 = some (.lst ((((lets first n).take i).map (mkW rest (decide (V.int r5 = V.int 0)))).map V.str))) ⟨same_new hD2, upd_same⟩ (fun i H' _ ⟨s1, _⟩ => SqL.of (s1 _ _ g5)) (fun i x H' hx ⟨s1, g1⟩ => ⟨rfl, ?_⟩) (fun H6 ⟨s6, g6⟩ => ?_)
      · rw [List.getElem?_map] at hx
        obtain ⟨ch, hc, rfl⟩ := Option.map_eq_some_iff.mp hx
        have hi : i < (lets first n).length := (List.getElem?_eq_some_iff.mp hc).1
        have c1 : ch.length = 1 := by
          unfold lets at hc
          rw [List.getElem?_map] at hc
          obtain ⟨j, _, rfl⟩ := Option.map_eq_some_iff.mp hc
          rfl
        have rl := rests_len _ hrest
        have tk : (lets first n).take (i + 1) = (lets first n).take i ++ [ch] := by
          rw [List.take_add_one, hc]
          rfl
        have fin : ∀ z : Str, z = mkW rest (decide (V.int r5 = V.int 0)) ch → ∃ acc, H' D2 = some (.lst acc) ∧ acc.length < sizeLine ∧ Same H5 (upd H' D2 (.lst (acc ++ [V.str z]))) ∧ upd H' D2 (.lst (acc ++ [V.str z])) D2 = some (.lst ((((lets first n).take (i + 1)).map (mkW rest (decide (V.int r5 = V.int 0)))).map V.str)) := by
          rintro z rfl
          refine ⟨_, g1, ?_, fun b' o z => ?_, ?_⟩
          · rw [List.length_map, List.length_map, List.length_take]
            rw [lets_length] at hi
            exact small1000 (by omega)
          · rw [upd_ne (ne_of_none z hD2)]
            exact s1 _ _ z
          · rw [upd_same, tk, List.map_append, List.map_append]
            rfl
        refine ⟨_, rfl, _, rfl, ?_⟩
        refine ite2 (fun hc1 => ?_) (fun hc1 => ?_)
        · refine ⟨_, rfl, _, rfl, _, _, rfl, rfl, Nat.le_trans (show rest.length + ch.length ≤ 8 by omega) (slz rfl), ?_⟩
          refine fin _ ?_
          unfold mkW
          rw [if_pos hc1]
        · refine ⟨_, rfl, _, rfl, _, _, rfl, rfl, Nat.le_trans (show ch.length + rest.length ≤ 8 by omega) (slz rfl), ?_⟩
          refine fin _ ?_
          unfold mkW
          rw [if_neg hc1]
      · have T6 := T5.same s6
        rw [List.length_map, List.take_of_length_le (Nat.le_refl _)] at g6
        have n2 : D2 ≠ t := T5.ne hD2
        have EE : Ext t H H6 := ((E2.trans (same_ext s4)).trans e5).trans (same_ext s6)
        refine k H6 D2 rest first _ EE T6 ?_ hrest hf g6
        exact ((E2.trans (same_ext s4)).trans e5).free n2 hD2
end
end L3

namespace L3
open PySem L2
section
variable {P : Program} {w : World} {K : PySem.W.Frag} {mg : Str → Option Value} {base : Heap}
abbrev s__law_con : Stmt := topS 19
abbrev N__law_con : List Str := ["_law_name", "_law_parts", "_law_found", "_law_part"]
theorem sc__law_con : FnScope N__law_con ["_law_name", "_law_parts"] (defScope s__law_con) := ⟨rfl, rfl, rfl, by decide +kernel, rfl, by decide +kernel, by decide +kernel⟩
def spCon (K : PySem.W.Frag) : Sp := fun vs H Q _ => ∃ (x : Str) (l : Addr) (xs : List V) (ks : List Kd), vs = [.str x, .ref l] ∧ SqL K H l xs ∧ KdsAt H xs ks ∧
  ∀ (H' : Hp) (v : V), Same H H' → KdAt H' v (conK x ks) → Q v H'
theorem ok_con {f : Addr} {fd : FuncData} (F : Fun K "_law_con" "_law_con" s__law_con f fd) : FnOk P w K mg base CX0 1 f fd ["_law_name", "_law_parts"] (spCon K) := by
  refine F.ok sc__law_con (fun vs H Q E h => ?_) (fun cdv A outer s H vs Q E hr h => ?_)
  · obtain ⟨x, l, xs, ks, rfl, _⟩ := h
    rfl
  · obtain ⟨x, l, xs, ks, rfl, h1, h2, k⟩ := h
    refine ⟨_, (pss_cons (ps_set (i := 2) sc__law_con.nd rfl (Or.inl rfl) (pe_tup (pa_cons pe_str (pa_cons (pv 0) pa_nil))))
  (pss_cons (ps_for PassesOwn.never rfl (pi_list (pv 1)) (pg_name (i := 3) sc__law_con.nd rfl (Or.inl rfl))
  (pss_one (ps_set (i := 2) sc__law_con.nd rfl (Or.inl rfl) (pe_tup (pa_cons pe_str (pa_cons (pv 2) (pa_cons (pv 3) pa_nil)))))))
  (pss_one (ps_ret (pv 2))))), ?_⟩
    refine ⟨_, rfl, slz rfl, fun p hp => ?_⟩
    have s0 : Same H (upd H p (.tup [.str "con", .str x])) := same_new hp
    refine ⟨_, rfl, l, rfl, ⟨_, s0.seq h1⟩, for_list (K := K) (a := l) (xs := xs) (fun i σ H' => Same H H' ∧ ∃ (v : V) (pv : Option V), σ = [some (.str x), some (.ref l), some v, pv] ∧ KdAt H' v (conK x (ks.take i))) ⟨s0, .ref p, none, rfl, ⟨p, rfl, upd_same⟩⟩ (fun i σ H' _ ⟨s1, _⟩ => s1.seq h1) ?_ ?_⟩
    · rintro i y σ H' hi ⟨s1, v, pv, rfl, hv⟩
      obtain ⟨ky, hky, hy⟩ := paired_get h2 hi
      refine ⟨_, rfl, _, rfl, slz rfl, fun q hq => ?_⟩
      have s2 : Same H' (upd H' q (.tup [.str "apply", v, y])) := same_new hq
      refine ⟨s1.trans s2, _, _, rfl, ?_⟩
      have tk : ks.take (i + 1) = ks.take i ++ [ky] := by
        rw [List.take_add_one, hky]
        rfl
      rw [tk, conK_snoc]
      exact ⟨q, v, y, rfl, upd_same, KdAt.tups (same_tups s2) hv, KdAt.tups (same_tups (s1.trans s2)) hy⟩
    · rintro σ H' ⟨s1, v, pv, rfl, hv⟩
      have e : ks.take xs.length = ks := by rw [Paired.length h2, List.take_length]
      rw [e] at hv
      exact ⟨_, rfl, k _ _ s1 hv⟩

end
end L3

namespace L3
open PySem L2
/-! ### variables in order -/
def addV (fs : List Str) (x : Str) : List Str := if x ∈ fs then fs else fs ++ [x]
def Kd.vs : Kd → List Str → List Str
  | .var x, fs => addV fs x
  | .con _, fs => fs
  | .app a b, fs => b.vs (a.vs fs)
def vsL : List Kd → List Str → List Str
  | [], fs => fs
  | k :: r, fs => vsL r (k.vs fs)
def Kd.size : Kd → Nat
  | .var _ => 1
  | .con _ => 1
  | .app a b => a.size + b.size + 1
def sizeL : List Kd → Nat
  | [] => 0
  | k :: r => k.size + sizeL r
theorem Kd.size_pos (k : Kd) : 0 < k.size := by cases k <;> simp [Kd.size]
theorem eqV_str (x y : Str) : eqV (.str y) (.str x) = decide (y = x) := str_beq y x
theorem inV_words (x : Str) : ∀ fs : List Str, inV (.str x) (fs.map V.str) = decide (x ∈ fs)
  | [] => rfl
  | y :: r => by
    have ih := inV_words x r
    unfold inV at ih ⊢
    rw [List.map_cons, List.any_cons, ih, eqV_str]
    by_cases h : y = x
    · subst h
      simp
    · have h2 : ¬ x = y := fun e => h e.symm
      simp [h, h2]
theorem flat_words : ∀ fs : List Str, (fs.map V.str).all flatV = true
  | [] => rfl
  | _ :: r => by
    rw [List.map_cons, List.all_cons, flat_words r]
    rfl
/-- the last of a row -/
theorem paired_last {α β : Type} {F : α → β → Prop} : ∀ {xs : List α} {ys : List β} {y : β}, Paired F xs (ys ++ [y]) → ∃ xs0 x, xs = xs0 ++ [x] ∧ Paired F xs0 ys ∧ F x y
  | [], [], _, h => nomatch h
  | [], _ :: _, _, h => nomatch h
  | x :: xs, [], y, .cons r t => by
    cases t
    exact ⟨[], x, rfl, .nil, r⟩
  | x :: xs, z :: ys, y, .cons r t => by
    obtain ⟨xs0, w, e, h1, h2⟩ := paired_last (ys := ys) t
    exact ⟨x :: xs0, w, by rw [e]; rfl, .cons r h1, h2⟩
theorem paired_snoc {α β : Type} {F : α → β → Prop} {xs : List α} {ys : List β} {x : α} {y : β} (h : Paired F xs ys) (r : F x y) : Paired F (xs ++ [x]) (ys ++ [y]) := Paired.snoc h r
theorem paired_rev {α β : Type} {F : α → β → Prop} : ∀ {xs : List α} {ys : List β}, Paired F xs ys → Paired F xs.reverse ys.reverse
  | _, _, .nil => .nil
  | _, _, .cons r t => by
    rw [List.reverse_cons, List.reverse_cons]
    exact Paired.snoc (paired_rev t) r
theorem kds_snoc : ∀ ks : List Kd, ks ≠ [] → ∃ ks0 k, ks = ks0 ++ [k] := fun ks h => ⟨ks.dropLast, ks.getLast h, (List.dropLast_concat_getLast h).symm⟩
theorem shaped_kds {ks : List Kd} (h : ∀ k ∈ ks, k.fit 60) : SeqAt.shaped (.list (ks.map Kd.dat)) = true := by
  have key : ∀ ks : List Kd, (∀ k ∈ ks, k.fit 60) → PyData.canLayAll0 (ks.map Kd.dat) = true ∧ PyData.depthAll (ks.map Kd.dat) ≤ 61 := by
    intro ks
    induction ks with
    | nil => intro _; exact ⟨by simp [PyData.canLayAll0], by simp [PyData.depthAll]⟩
    | cons k r ih =>
      intro h
      obtain ⟨h1, h2⟩ := ih fun y hy => h y (List.mem_cons_of_mem _ hy)
      obtain ⟨h3, h4⟩ := Kd.lay (h k List.mem_cons_self)
      refine ⟨by simp only [List.map_cons, PyData.canLayAll0, h3, h1, Bool.true_and], ?_⟩
      simp only [List.map_cons, PyData.depthAll]
      omega
  obtain ⟨h1, h2⟩ := key ks h
  unfold SeqAt.shaped
  simp only [PyData.canLay0, h1, PyData.depth, Bool.true_and]
  exact decide_eq_true (by omega)
theorem kds_ne {ks : List Kd} : (!PyData.eqv (.list (ks.map Kd.dat)) (.list [])) = !ks.isEmpty := by
  rw [eqv_ll]
  cases ks with
  | nil => rw [List.map_nil, eqv_nn]; rfl
  | cons x r => rw [List.map_cons, eqv_cn]; rfl
/-! ### matching -/
def Kd.mt : Kd → Kd → By → Bool × By
  | .var x, k, b => match lk b x with
    | some k' => (decide (k' = k), b)
    | none => (true, b ++ [(x, k)])
  | .con x, k, b => (decide (Kd.con x = k), b)
  | .app a c, .app d e, b => if (a.mt d b).1 = true then c.mt e (a.mt d b).2 else (false, (a.mt d b).2)
  | .app _ _, .var _, b => (false, b)
  | .app _ _, .con _, b => (false, b)
def mtL : List Kd → List Kd → By → Option By
  | p :: ps, k :: ks, b => if (p.mt k b).1 = true then mtL ps ks (p.mt k b).2 else none
  | _, _, b => some b
def mtP : List (Kd × Kd) → By → Option By
  | [], b => some b
  | (p, k) :: r, b => if (p.mt k b).1 = true then mtP r (p.mt k b).2 else none
theorem mtP_zip : ∀ (ps ks : List Kd) (b : By), mtP (ps.zip ks) b = mtL ps ks b
  | [], _, _ => rfl
  | _ :: _, [], _ => rfl
  | p :: ps, k :: ks, b => by
    show (if (p.mt k b).1 = true then mtP (ps.zip ks) (p.mt k b).2 else none) = if (p.mt k b).1 = true then mtL ps ks (p.mt k b).2 else none
    rw [mtP_zip ps ks]
theorem mtP_app (a c d e : Kd) (r : List (Kd × Kd)) (b : By) : mtP ((.app a c, .app d e) :: r) b = mtP ((a, d) :: (c, e) :: r) b := by
  show (if ((Kd.app a c).mt (.app d e) b).1 = true then mtP r ((Kd.app a c).mt (.app d e) b).2 else none) = if (a.mt d b).1 = true then (if (c.mt e (a.mt d b).2).1 = true then mtP r (c.mt e (a.mt d b).2).2 else none) else none
  by_cases h : (a.mt d b).1 = true
  · have q : (Kd.app a c).mt (.app d e) b = c.mt e (a.mt d b).2 := by simp only [Kd.mt, if_pos h]
    rw [if_pos h, q]
  · have q : (Kd.app a c).mt (.app d e) b = (false, (a.mt d b).2) := by simp only [Kd.mt, if_neg h]
    rw [if_neg h, q]
    rfl
theorem lk_snoc {b : By} {x : Str} {k : Kd} (h : lk b x = none) (y : Str) : lk (b ++ [(x, k)]) y = if y = x then some k else lk b y := by
  induction b with
  | nil =>
    by_cases e : x = y
    · rw [if_pos e.symm]
      exact lk_pos e
    · rw [if_neg (fun z => e z.symm)]
      exact lk_neg e
  | cons p r ih =>
    have hk : ¬ p.1 = x := fun z => by rw [lk_pos z] at h; cases h
    rw [lk_neg hk] at h
    rw [List.cons_append]
    by_cases e : p.1 = y
    · rw [lk_pos e, lk_pos e, if_neg (fun z => hk (e.trans z))]
    · rw [lk_neg e, lk_neg e, ih h]
theorem lk_mem {b : By} {x : Str} {k : Kd} (h : lk b x = some k) : (x, k) ∈ b := by
  induction b with
  | nil => cases h
  | cons p r ih =>
    by_cases e : p.1 = x
    · rw [lk_pos e] at h
      have : p = (x, k) := by
        obtain ⟨p1, p2⟩ := p
        have e' : p1 = x := e
        have h' : p2 = k := Option.some.inj h
        rw [e', h']
      rw [this]
      exact List.mem_cons_self
    · rw [lk_neg e] at h
      exact List.mem_cons_of_mem _ (ih h)
/-- what matching adds -/
theorem Kd.mt_grow {m : Nat} : ∀ (p k : Kd) (b : By), k.fit m → (∀ q ∈ b, q.2.fit m) → (p.mt k b).2.length ≤ b.length + p.size ∧ ∀ q ∈ (p.mt k b).2, q.2.fit m
  | .var x, k, b, hk, hb => by
    simp only [Kd.mt]
    cases e : lk b x with
    | some k' => exact ⟨Nat.le_add_right _ _, hb⟩
    | none =>
      refine ⟨by simp [Kd.size], fun q hq => ?_⟩
      rcases List.mem_append.mp hq with h | h
      · exact hb q h
      · rw [List.mem_singleton.mp h]
        exact hk
  | .con x, k, b, hk, hb => ⟨Nat.le_add_right _ _, hb⟩
  | .app a c, .app d e, b, hk, hb => by
    obtain ⟨j, rfl, h1, h2⟩ := Kd.fit_app hk
    have h1' := Kd.fit_mono (Nat.le_succ j) h1
    have h2' := Kd.fit_mono (Nat.le_succ j) h2
    obtain ⟨g1, g2⟩ := Kd.mt_grow a d b h1' hb
    obtain ⟨g3, g4⟩ := Kd.mt_grow c e (a.mt d b).2 h2' g2
    simp only [Kd.mt]
    by_cases h : (a.mt d b).1 = true
    · rw [if_pos h]
      refine ⟨?_, g4⟩
      simp only [Kd.size]
      omega
    · rw [if_neg h]
      refine ⟨?_, g2⟩
      simp only [Kd.size]
      omega
  | .app _ _, .var _, b, _, hb => ⟨Nat.le_add_right _ _, hb⟩
  | .app _ _, .con _, b, _, hb => ⟨Nat.le_add_right _ _, hb⟩
/-- the names, as the variables come -/
def names (b : By) : List Str := b.map (·.1)
theorem lk_names (b : By) (x : Str) : (lk b x).isSome = decide (x ∈ names b) := by
  induction b with
  | nil => rfl
  | cons p r ih =>
    by_cases e : p.1 = x
    · rw [lk_pos e]
      simp [names, e]
    · rw [lk_neg e, ih]
      have e' : ¬ x = p.1 := fun z => e z.symm
      have q : names (p :: r) = p.1 :: names r := rfl
      rw [q]
      simp [e']
theorem Kd.mt_names : ∀ (p k : Kd) (b : By), (p.mt k b).1 = true → names (p.mt k b).2 = p.vs (names b)
  | .var x, k, b, h => by
    have hn := lk_names b x
    simp only [Kd.mt, Kd.vs, addV] at h ⊢
    cases e : lk b x with
    | some k' =>
      rw [e] at hn
      have : x ∈ names b := of_decide_eq_true hn.symm
      simp only [this, if_true]
    | none =>
      rw [e] at hn
      have : ¬ x ∈ names b := of_decide_eq_false hn.symm
      rw [if_neg this]
      simp [names]
  | .con x, k, b, _ => rfl
  | .app a c, .app d e, b, h => by
    simp only [Kd.mt, Kd.vs] at h ⊢
    by_cases h1 : (a.mt d b).1 = true
    · rw [if_pos h1] at h ⊢
      rw [Kd.mt_names c e _ h, Kd.mt_names a d b h1]
    · rw [if_neg h1] at h
      cases h
  | .app _ _, .var _, b, h => by simp [Kd.mt] at h
  | .app _ _, .con _, b, h => by simp [Kd.mt] at h
theorem mtL_names : ∀ (ps ks : List Kd) (b c : By), ps.length = ks.length → mtL ps ks b = some c → names c = vsL ps (names b)
  | [], [], b, c, _, h => by cases h; rfl
  | [], _ :: _, _, _, h, _ => by cases h
  | _ :: _, [], _, _, h, _ => by cases h
  | p :: ps, k :: ks, b, c, hl, h => by
    simp only [mtL] at h
    by_cases h1 : (p.mt k b).1 = true
    · rw [if_pos h1] at h
      rw [mtL_names ps ks _ c (Nat.succ.inj hl) h, Kd.mt_names p k b h1]
      rfl
    · rw [if_neg h1] at h
      cases h
end L3

/-! repr of nested data; a law's own run, where nothing else is being shown -/
namespace L3
open PySem PySem.Spec PyProof.Rows L2
section
variable {X : Cx}
/-- repr of a list or tuple of nested data -/
def rRepr (K : PySem.W.Frag) : List V → Hp → VK → Prop := fun xs H Q => ∃ (a : Addr) (d : PyData), xs = [.ref a] ∧ Dp K H (.ref a) d ∧ d.showable = true ∧ d.hasDict = false ∧ d.depth ≤ 60 ∧ d.shown.length ≤ sizeLine ∧ Q (.str d.shown) H
theorem call_reprD (hg : X.A.guards = some []) (hu : X.A.units + 64 < cLine) : CallR X (.builtin "repr") (rRepr X.K) := by
  intro pins s σ H xs us Q I r h
  obtain ⟨a, d, rfl, hd, hs, hn, hdep, hsz, q⟩ := h
  obtain ⟨u, rfl, rx⟩ := vals1 r
  obtain rfl : u = Value.ref a := rx
  obtain ⟨as, hr⟩ := Dp.reads I d _ _ hd (show RelV (.ref a) (.ref a) from rfl)
  exact repr_of_reads' hr hs (fun z => by rw [hn] at z; cases z) hg (by omega) (fun _ _ e => e) (fun h' u tk hk => ⟨.str d.shown, H, I.kept (t' := tk) hk, ⟨u, rfl⟩, q⟩) hsz
end
/-- the law's own def, called by nobody -/
def LawRun (P : Program) (w : World) (K : PySem.W.Frag) (mg : Str → Option Value) (base : Heap) (f : Addr) (fd : FuncData) (x : Str) (sp : List V → Hp → VK → Prop) : Prop :=
  ∀ (s : Shared) (H : Hp) (args : Args) (u : Value) (v : V) (Q : VK), Env0 P w K mg base callerA [] s H → BindsTo s fd args [(x, u)] → RelV v u → sp [v] H Q → codeAny (model P w) callerA (.call (.ref f) args) (CR CX0 [] P w H s Q E0) s
section
variable {P : Program} {w : World} {K : PySem.W.Frag} {mg : Str → Option Value} {base : Heap}
theorem lawRun_of {st : Stmt} {f : Addr} {fd : FuncData} {N : List Str} {k : Nat} {x : Str} {sp : List V → Hp → VK → Prop} (F : Fun K "law" "law" st f fd) (S : FnScope N [x] (defScope st)) (hroom : Room (k + 1) callerA)
    (hbody : ∀ (cdv : Value) (s : Shared) (H : Hp) (v : V) (Q : VK), Room k (callerA.deeper (envOfC "law" (defScope st) s.heap.objs.size f cdv)) → sp [v] H Q →
      ∃ t, PSs (cxOf CX0 P w K mg base N "law" (defScope st) f cdv callerA [] s H E0).nox (defBody st) t ∧ t { nx := fun _ H' => Q .non H', rt := Q } (start N [v]) H) : LawRun P w K mg base f fd x sp := by
  obtain ⟨oc, od, kV, doc, pm, an, cdv, ct, osl, rfl, lk, hcd⟩ := F.ex
  intro s H args u v Q e0 hb rv hsp
  have inK : K.In s.heap := e0.mod.kin.keeps fun b o z => (e0.bs b o z).1
  have noL : s.heap.NoLimit := e0.mod.nolimit.keeps fun b o z => (e0.bs b o z).1
  have kinds : ∀ y ∈ ([x].zip [u] : List (Str × Value)), (defScope st).names.lookup y.1 = some .local ∨ ((defScope st).names.lookup y.1 = some .cell ∧ ((cellsFrom (s.heap.objs.size + 1) (defScope st).names []).lookup y.1).isSome = true) := by
    rintro ⟨n, z⟩ hy
    rcases S.par n (List.of_mem_zip hy).1 with q | q
    · exact Or.inl q
    · exact Or.inr ⟨q, PySem.W.cellsFrom_some _ _ _ (Or.inl q)⟩
  refine codeAny_call_function (Room.depth hroom) (inK _ _ lk) rfl S.co S.gen rfl (PySem.W.codeRec_of inK hcd) (hb _ _ _ _ ?_)
  refine wpAny_newFunctionEnv_cells S.kind kinds fun env he s1 xx => ?_
  subst he
  refine ⟨noL.keeps xx.toInCall.keep, codeAny_func ?_⟩
  obtain ⟨t, ht, hq⟩ := hbody cdv s H v Q (Room.deeper hroom _) hsp
  have J : Inv (cxOf CX0 P w K mg base N "law" (defScope st) f cdv callerA [] s H E0) [] (start N [v]) H s1 := inv_start S rfl e0 rfl (Paired.cons rv .nil) xx
  refine wpAny_mono ((PSs.nox ht).run [] s1 (start N [v]) H _ J hq) (fun fl s' hs => ?_) (fun e s' hs => hs)
  cases fl with
  | next =>
    obtain ⟨σ', H', J', q⟩ := hs
    exact ⟨V.non, H', J'.os, J'.bare, J'.base, J'.hok, rfl, q⟩
  | ret z =>
    obtain ⟨v', σ', H', J', rz, q⟩ := hs
    exact ⟨v', H', J'.os, J'.bare, J'.base, J'.hok, rz, q⟩
  | brk =>
    obtain ⟨_, _, _, q⟩ := hs
    exact q.elim
  | cont =>
    obtain ⟨_, _, _, q⟩ := hs
    exact q.elim
end
section
variable {P : Program} {w : World} {K : PySem.W.Frag} {mg mb : Str → Option Value} {fa a : Addr} {fd : FuncData} {x : Str} {sp : List V → Hp → VK → Prop} {s1 : Shared} {vs : List Value} {ns : List Int}
/-- what the law's call has to come to -/
abbrev LawEnd (s1 : Shared) (r : Result) (s' : Shared) : Prop := r = .ok (.ret (.bool true)) ∧ OldK s1.heap s'.heap ∧ s'.os = s1.os ∧ AllBare s'.gens
theorem law_core (inK : K.In s1.heap) (gl : s1.heap.Ns mainGlobals mg) (bi : s1.heap.Ns builtinsNs mb) (bb : ∀ y : Str, y ≠ "__name__" → mb y = bootBuiltins y) (nl : s1.heap.NoLimit) (ng : s1.gens = #[])
    (ob : s1.heap.get? a = some { cls := .type "list", data := .seq vs.toArray }) (run : ∀ base : Heap, K.In base → base.Ns mainGlobals mg → LawRun P w K mg base fa fd x sp)
    (bind : ∀ (s : Shared) (u : Value), BindsTo s fd ⟨[u], []⟩ [(x, u)]) (want : ∀ H : Hp, Only H → SqL K H a (ns.map V.int) → sp [.ref a] H (fun v _ => v = .bl true))
    (H : Hp) (hO : Only H) (hS : SqL K H a (ns.map V.int)) (ok : HOk P w H s1.heap) (alone : ∀ b, H b ≠ none → b = a) (off : H a ≠ none → K.lookup a = none) :
    codeAny (model P w) callerA (.call (.ref fa) ⟨[.ref a], []⟩) (LawEnd s1) s1 := by
  -- a thing that is tracked is the script
  have isA : ∀ {b : Addr} {u : HO}, H b = some u → b = a := fun {b u} q => alone b (by rw [q]; simp)
  have hid : ∀ {b : Addr} {o : Obj}, s1.heap.get? b = some o → H b = none → (hidT s1.heap H).get? b = some o := fun z n => hidT_get z n
  have dictFree : ∀ {b : Addr} {o : Obj} {es : Array DictEntry} {ep : Nat}, s1.heap.get? b = some o → o.data = .dict es ep → H b = none := by
    intro b o es ep z dd
    cases q : H b with
    | none => rfl
    | some u =>
      have e' := isA q
      subst e'
      rw [ob] at z
      cases z
      have dd' : Data.seq vs.toArray _ = Data.dict es ep := dd
      cases dd'
  have nsH : ∀ {b : Addr} {m : Str → Option Value}, s1.heap.Ns b m → (hidT s1.heap H).Ns b m := by
    rintro b m ⟨o, es, ep, z, dd, r⟩
    exact ⟨o, es, ep, hid z (dictFree z dd), dd, r⟩
  have inH : K.In (hidT s1.heap H) := by
    intro b o z
    refine hid (inK b o z) ?_
    cases q : H b with
    | none => rfl
    | some u =>
      have e' := isA q
      subst e'
      rw [off (by rw [q]; simp)] at z
      cases z
  have md : Mod K mg (hidT s1.heap H) := by
    obtain ⟨mc, z1, z2⟩ := nl
    exact ⟨inH, nsH gl, ⟨mb, nsH bi, bb⟩, ⟨mc, nsH z1, z2⟩⟩
  have e0 : Env0 P w K mg (hidT s1.heap H) callerA [] s1 H := by
    refine ⟨rfl, md, fun b o z => of_hidT z, Nat.le_of_eq (hidT_size _ _), trivial, ?_, ok, .of_eq ng⟩
    intro b hb
    exact nomatch (show b ∈ ([] : List Addr) from hb)
  refine codeAny_mono (run _ inH (nsH gl) s1 H ⟨[.ref a], []⟩ (.ref a) (.ref a) _ e0 (bind s1 (.ref a)) rfl (want H hO hS)) fun r s' h => ?_
  cases r with
  | error e => exact h.elim
  | ok fl =>
    cases fl with
    | next => exact h.elim
    | brk => exact h.elim
    | cont => exact h.elim
    | ret u =>
      obtain ⟨v, H', os, bare, un, ok', r', q⟩ := h
      obtain rfl : v = .bl true := q
      obtain rfl : u = Value.bool true := r'
      refine ⟨rfl, OldK.of_keep fun b o z => ?_, os, bare⟩
      cases q : H b with
      | none => exact un.keep b o z q (fun y => nomatch (show b ∈ ([] : List Addr) from y)) (fun y => nomatch y)
      | some u =>
        rcases hO b with y | ⟨o2, xs, y⟩
        · rw [q] at y
          cases y
        · obtain ⟨z1, _⟩ := ok b _ y
          obtain ⟨z2, _⟩ := ok' b _ (un.frzs b o2 _ y)
          rw [z] at z1
          cases z1
          exact z2
theorem law_callG (inK : K.In s1.heap) (gl : s1.heap.Ns mainGlobals mg) (bi : s1.heap.Ns builtinsNs mb) (bb : ∀ y : Str, y ≠ "__name__" → mb y = bootBuiltins y) (nl : s1.heap.NoLimit) (ng : s1.gens = #[])
    (ob : s1.heap.get? a = some { cls := .type "list", data := .seq vs.toArray }) (hi : IntsAre vs ns) (hl : ns.length ≤ sizeLine) (run : ∀ base : Heap, K.In base → base.Ns mainGlobals mg → LawRun P w K mg base fa fd x sp)
    (bind : ∀ (s : Shared) (u : Value), BindsTo s fd ⟨[u], []⟩ [(x, u)]) (want : ∀ H : Hp, Only H → SqL K H a (ns.map V.int) → sp [.ref a] H (fun v _ => v = .bl true)) :
    codeAny (model P w) callerA (.call (.ref fa) ⟨[.ref a], []⟩) (LawEnd s1) s1 := by
  have rv := vals_ints hi
  cases hk : K.lookup a with
  | some o =>
    have z := inK a o hk
    rw [ob] at z
    cases z
    have hS : SqL K (fun _ => none) a (ns.map V.int) := Or.inr ⟨_, vs.toArray, _, hk, rfl, rfl, rfl, by rw [List.size_toArray, hi.length]; exact hl, by simpa using rv⟩
    exact law_core inK gl bi bb nl ng ob run bind want (fun _ => none) (fun _ => .inl rfl) hS (fun _ _ z => nomatch (show (none : Option HO) = some _ from z)) (fun _ z => (z rfl).elim) (fun z => (z rfl).elim)
  | none =>
    let fz : HO := .frz { cls := .type "list", data := .seq vs.toArray } (.lst (ns.map V.int))
    have at1 : upd (fun _ => none) a fz a = some fz := upd_same
    refine law_core inK gl bi bb nl ng ob run bind want (upd (fun _ => none) a fz) (fun b => ?_) (.inl (.inr ⟨_, at1⟩)) (fun b u z => ?_) (fun b z => ?_) fun _ => hk
    · by_cases hb : b = a
      · rw [hb, at1]
        exact .inr ⟨_, _, rfl⟩
      · exact .inl (upd_ne hb)
    · by_cases hb : b = a
      · subst hb
        rw [at1] at z
        cases z
        exact ⟨ob, by rw [List.length_map]; exact hl, vs, _, rv, ob⟩
      · rw [upd_ne hb] at z
        cases z
    · by_cases hb : b = a
      · exact hb
      · exact (z (upd_ne hb)).elim
end
/-- the end of a law whose own def is run by LawRun -/
theorem walkG {l : PySem.W.OpenLaw} {n : Nat} {q : Program} {loose : List Str} {XP : (Str → Option Value) → Heap → Prop} {YP : World → Heap → Prop} {d : DefRec} {K : Params → PySem.W.Frag} {sp : PySem.W.Frag → List V → Hp → VK → Prop} {x : Str}
    (hn : l.most = some n) (hn2 : n ≤ sizeLine) (hdf : d.params.defaults = []) (hY : ∀ (w : World) (h : Heap), YP w h → (K w.params).In h)
    (F : ∀ (w : World) (mg : Str → Option Value) (fa : Addr) (h : Heap), (K w.params).In h → h.Ns mainGlobals mg → mg d.name = some (.ref fa) →
      ∃ fd : FuncData, (∀ (s : Shared) (u : Value), BindsTo s fd ⟨[u], []⟩ [(x, u)]) ∧ ∀ base : Heap, (K w.params).In base → base.Ns mainGlobals mg → LawRun l.prog w (K w.params) mg base fa fd x (sp (K w.params)))
    (want : ∀ (K : PySem.W.Frag) (H : Hp) (a : Addr) (ns : List Int), ns.length ≤ n → SqL K H a (ns.map V.int) → sp K [.ref a] H (fun v _ => v = .bl true)) : PySem.W.WalkO q loose XP YP l.row.toRowW d [] (fun f vs => PySem.call f vs) := by
  refine Att.attach_call hn hdf ?_
  intro w s0 s1 mg mb fa o pm cd doc a vs ns G Y ho hd hcd hmg hobj hints hlen hg
  obtain ⟨fd, hb, run⟩ := F w mg fa _ (hY w _ Y) G.T.g hmg
  exact law_callG (hY w _ Y) G.T.g G.T.b G.T.builtins G.T.nolimit hg hobj hints (Nat.le_trans hlen hn2) run hb (fun H _ hS => want _ H a ns hlen hS)
end L3

/-! list(zip(a, b)) over two lists or two tuples of one length -/
namespace L3
open PySem PySem.Spec PyProof.Rows L2
section
variable {prog : Program} {w : World} {A : Around} {E : Value → Shared → Prop} {s : Shared} {z TI TO T i1 i2 l1 l2 : Addr} {f : Bool} {oT : Obj} {xs ys : Array Value}
/-- a zip of tuples whose last pair is still out gives the next pair -/
theorem zt_item {k1 k2 : Nat} {x y : Value} {Q : Option Value → Shared → Prop} (D : ZipApart z TI TO i1 i2 l1 l2) (hz : IsZipHeld s.heap z TI TO T f) (hT : s.heap.get? T = some oT) (hTI : IsPair s.heap TI (.ref i1) (.ref i2))
    (a1 : s.heap.IsTupleIter i1 l1 k1) (a2 : s.heap.IsTupleIter i2 l2 k2) (t1 : s.heap.IsTuple l1 xs) (t2 : s.heap.IsTuple l2 ys) (ex : xs[k1]? = some x) (ey : ys[k2]? = some y)
    (q : ∀ h', IsZipHeld h' z TI TO T true → h'.IsTupleIter i1 l1 (k1 + 1) → h'.IsTupleIter i2 l2 (k2 + 1) → IsPair h' s.heap.objs.size x y → h'.objs.size = s.heap.objs.size + 1 →
      (∀ b o, b ≠ z → b ≠ i1 → b ≠ i2 → s.heap.get? b = some o → h'.get? b = some o) → Q (some (.ref s.heap.objs.size)) { s with heap := h' }) : wpAny (model prog w) A (pyNext (.ref z)) Q E s := by
  have isZip : s.TypeIs (.ref z) "zip" := ⟨_, hz, rfl⟩
  have body : ∀ (A' : Around) (E' : Value → Shared → Prop), wpAny (model prog w) A' (Builtin.«zip.__next__» ⟨[.ref z], []⟩) (fun fin s' => ∃ v, fin = .done (.ret v) ∧ Q (some v) s') E' s := by
    intro A' E'
    show wpAny _ _ (field (.ref z) 2 >>= _) _ _ s
    refine wpAny_bind (wpAny_field (i := 2) hz rfl rfl ?_)
    show wpAny _ _ (field (.ref z) 3 >>= _) _ _ s
    refine wpAny_bind (wpAny_field (i := 3) hz rfl rfl (wpAny_bind (wpAny_seqItems hTI rfl ?_)))
    refine wpAny_bind (wpAny_tupleHeld_zip hz hT fun ha hza hsa => ?_)
    rw [if_neg Bool.false_ne_true]
    refine wpAny_bind ?_
    rw [← Array.forIn_toList]
    simp only [List.forIn_nil, List.forIn_cons]
    refine wpAny_bind (wpAny_bind (wpAny_holding (wpAny_bind (RZ.nextOf_tuple_item (a1.extBut hsa.extBut D.i1z) (t1.extBut hsa.extBut D.l1z) ex fun hb b1 hsb => wpAny_pure (wpAny_pure ?_)))))
    refine wpAny_bind (wpAny_bind (wpAny_holding (wpAny_bind (RZ.nextOf_tuple_item ((a2.extBut hsa.extBut D.i2z).extBut hsb.extBut D.i12.symm) ((t2.extBut hsa.extBut D.l2z).extBut hsb.extBut D.l2i1) ey fun hc c2 hsc => wpAny_pure (wpAny_pure ?_)))))
    refine wpAny_pure ?_
    show wpAny _ _ (newTuple [x, y] >>= _) _ _ _
    refine wpAny_bind (wpAny_newTuple ?_)
    have size3 : hc.objs.size = s.heap.objs.size := (hsc.1.trans hsb.1).trans hsa.1
    have stays : ∀ b o, b ≠ z → b ≠ i1 → b ≠ i2 → s.heap.get? b = some o → hc.get? b = some o := fun b o n1 n2 n3 e => hsc.extBut b o n3 (hsb.extBut b o n2 (hsa.extBut b o n1 e))
    have pz : IsZipHeld hc z TI TO T true := hsc.extBut z _ D.i2z.symm (hsb.extBut z _ D.i1z.symm hza)
    refine wpAny_pure ⟨_, rfl, ?_⟩
    have fresh : IsPair (hc.push { cls := .type "tuple", data := .seq #[x, y] }) hc.objs.size x y := Heap.get?_push_size _ rfl
    have one : (hc.push { cls := .type "tuple", data := .seq #[x, y] }).objs.size = hc.objs.size + 1 := Heap.size_push ..
    show Q (some (.ref hc.objs.size)) _
    rw [size3] at fresh one ⊢
    exact q _ (Heap.get?_push_of_some _ pz) ((b1.extBut hsc.extBut D.i12).at fun o e => Heap.get?_push_of_some _ e) (c2.at fun o e => Heap.get?_push_of_some _ e) fresh one fun b o n1 n2 n3 e => Heap.get?_push_of_some _ (stays b o n1 n2 n3 e)
  unfold pyNext
  refine wpAny_bind (wpAny_attempt (wpAny_callSpecial?_slot (name := Str.ofString "__next__") isZip F.slot_zip_next (wpAny_call_entry F.slot_zip_next isZip F.entry_zip_next ?_ (F.args_zip_next_1 _))))
  exact wpAny_mono (body _ _) (fun fin s' ⟨v, e, h⟩ => ⟨v, e, wpAny_pure h⟩) fun _ _ h => h
theorem zt_end {k1 : Nat} {Q : Option Value → Shared → Prop} (hh : A.handled = none) (D : ZipApart z TI TO i1 i2 l1 l2) (hz : IsZipHeld s.heap z TI TO T f) (hT : s.heap.get? T = some oT) (hTI : IsPair s.heap TI (.ref i1) (.ref i2))
    (a1 : s.heap.IsTupleIter i1 l1 k1) (t1 : s.heap.IsTuple l1 xs) (ex : xs[k1]? = none)
    (q : ∀ h', (∀ b o, b ≠ z → b ≠ i1 → b ≠ i2 → s.heap.get? b = some o → h'.get? b = some o) → Q none { s with heap := h' }) : wpAny (model prog w) A (pyNext (.ref z)) Q E s := by
  have isZip : s.TypeIs (.ref z) "zip" := ⟨_, hz, rfl⟩
  unfold pyNext
  refine wpAny_bind (wpAny_attempt (wpAny_callSpecial?_slot (name := Str.ofString "__next__") isZip F.slot_zip_next (wpAny_call_entry F.slot_zip_next isZip F.entry_zip_next ?_ (F.args_zip_next_1 _))))
  show wpAny _ _ (field (.ref z) 2 >>= _) _ _ s
  refine wpAny_bind (wpAny_field (i := 2) hz rfl rfl ?_)
  show wpAny _ _ (field (.ref z) 3 >>= _) _ _ s
  refine wpAny_bind (wpAny_field (i := 3) hz rfl rfl (wpAny_bind (wpAny_seqItems hTI rfl ?_)))
  refine wpAny_bind (wpAny_tupleHeld_zip hz hT fun ha hza hsa => ?_)
  rw [if_neg Bool.false_ne_true]
  refine wpAny_bind ?_
  rw [← Array.forIn_toList]
  simp only [List.forIn_nil, List.forIn_cons]
  refine wpAny_bind (wpAny_bind (wpAny_holding (wpAny_bind (RZ.nextOf_tuple_end (s := { s with heap := ha }) hh (a1.extBut hsa.extBut D.i1z) (t1.extBut hsa.extBut D.l1z) ex fun hb e hsb he => ?_))))
  obtain ⟨o, ho, hc⟩ := he
  refine wpAny_bind (wpAny_isInstance (T := "StopIteration") (b := true) ⟨o, ho, hc⟩ isSubtype_stop ?_)
  exact wpAny_pure (q hb fun b o n1 n2 _ e => hsb b o n2 (hsa.extBut b o n1 e))
end
/-! ### a zip as a source of pairs for a list S that is being made -/
structure PSrc (prog : Program) (w : World) (z : Addr) (wr : List Addr) (n : Nat) (pr : Nat → Value × Value) (St : Nat → Addr → Heap → Prop) : Prop where
  type : ∀ i S (s : Shared), St i S s.heap → s.TypeIs (.ref z) "zip"
  self : ∀ (A : Around) (E : Value → Shared → Prop) i S (s : Shared) (Q : Value → Shared → Prop), St i S s.heap → Q (.ref z) s → wpAny (model prog w) A (pyIter (.ref z)) Q E s
  keep : ∀ i S h h', St i S h → (∀ b o, b ≠ S → h.get? b = some o → h'.get? b = some o) → St i S h'
  item : ∀ (A : Around) (E : Value → Shared → Prop) i S (s : Shared) (Q : Option Value → Shared → Prop), i < n → S < s.heap.objs.size → St i S s.heap →
    (∀ h', St (i + 1) S h' → h'.get? s.heap.objs.size = some { cls := .type "tuple", data := .seq #[(pr i).1, (pr i).2] } → h'.objs.size = s.heap.objs.size + 1 → (∀ b o, b ∉ wr → s.heap.get? b = some o → h'.get? b = some o) → Q (some (.ref s.heap.objs.size)) { s with heap := h' }) →
    wpAny (model prog w) A (pyNext (.ref z)) Q E s
  done : ∀ (A : Around) (E : Value → Shared → Prop) S (s : Shared) (Q : Option Value → Shared → Prop), A.handled = none → St n S s.heap → (∀ h', (∀ b o, b ∉ wr → s.heap.get? b = some o → h'.get? b = some o) → Q none { s with heap := h' }) →
    wpAny (model prog w) A (pyNext (.ref z)) Q E s
/-- the pairs that are out -/
structure Outs (pr : Nat → Value × Value) (lo : Addr) (h : Heap) (as : List Addr) : Prop where
  rise : as.Pairwise (· < ·)
  above : ∀ a ∈ as, lo ≤ a
  pairs : ∀ (j : Nat) (a : Addr), as[j]? = some a → h.get? a = some { cls := .type "tuple", data := .seq #[(pr j).1, (pr j).2] }
section
variable {prog : Program} {w : World} {A : Around} {E : Value → Shared → Prop} {s : Shared} {R : Result → Shared → Prop} {z : Addr} {wr : List Addr} {n : Nat} {pr : Nat → Value × Value} {St : Nat → Addr → Heap → Prop}
theorem Outs.lt {lo : Addr} {h : Heap} {as : List Addr} (g : Outs pr lo h as) {a : Addr} (ha : a ∈ as) : a < h.objs.size := by
  obtain ⟨j, hj⟩ := List.mem_iff_getElem?.mp ha
  exact Heap.lt_size (g.pairs j a hj)
theorem zip_loop (W : PSrc prog w z wr n pr St) {S lo : Addr} (hh : A.handled = none) (wlo : ∀ b ∈ wr, b < lo) (Slo : S < lo) (Sw : S ∉ wr) (hn : n ≤ sizeLine) (res : Value) {h0 : Heap}
    (fin : ∀ h' tk acc c as, (∀ b o, b ≠ S → b ∉ wr → h0.get? b = some o → h'.get? b = some o) → h'.get? S = some { cls := .type "list", dict := none, data := .seq acc c, slots := #[] } → as.length = n → Outs pr lo h' as → acc.toList = as.map Value.ref →
      R (.ok (.ret res)) { s with heap := h', toks := tk }) :
    ∀ (m i : Nat) (h : Heap) (tk c : Nat) (acc : Array Value) (as : List Addr), n - i = m → i ≤ n → St i S h → (∀ b o, b ≠ S → b ∉ wr → h0.get? b = some o → h.get? b = some o) → h.get? S = some { cls := .type "list", dict := none, data := .seq acc c, slots := #[] } →
      acc.toList = as.map Value.ref → as.length = i → Outs pr lo h as → lo ≤ h.objs.size → codeAny (model prog w) A (.builtin "list.extend.loop" ⟨[.ref S, .ref z, res], []⟩) R { s with heap := h, toks := tk } := by
  intro m
  induction m with
  | zero =>
    intro i h tk c acc as e1 e2 st kp hS ha hl g hlo
    have ein : i = n := by omega
    subst ein
    refine codeAny_builtin PySem.F.entry_extend_loop ?_
    rw [Around.under_plainId PySem.F.plain_extend_loop _]
    show wpAny _ A.in1 (pyNext (.ref z) >>= _) _ _ _
    refine wpAny_bind (W.done A.in1 _ S { s with heap := h, toks := tk } _ hh st fun h' k => wpAny_pure ?_)
    exact fin h' tk acc c as (fun b o n1 n2 e => k b o n2 (kp b o n1 n2 e)) (k S _ Sw hS) hl ⟨g.rise, g.above, fun j a hj => k a _ (fun q => absurd (wlo a q) (Nat.not_lt.mpr (g.above a (List.mem_of_getElem? hj)))) (g.pairs j a hj)⟩ ha
  | succ m ih =>
    intro i h tk c acc as e1 e2 st kp hS ha hl g hlo
    have lt : i < n := by omega
    have sz : acc.size = i := by rw [← Array.length_toList, ha, List.length_map, hl]
    refine codeAny_builtin PySem.F.entry_extend_loop ?_
    rw [Around.under_plainId PySem.F.plain_extend_loop _]
    show wpAny _ A.in1 (pyNext (.ref z) >>= _) _ _ _
    have Slt : S < h.objs.size := Heap.lt_size hS
    refine wpAny_bind (W.item A.in1 _ i S { s with heap := h, toks := tk } _ lt Slt st fun h' st' tup one k => ?_)
    have hS' : h'.get? S = some { cls := .type "list", dict := none, data := .seq acc c, slots := #[] } := k S _ Sw hS
    have tup' : h'.get? h.objs.size = some { cls := .type "tuple", data := .seq #[(pr i).1, (pr i).2] } := tup
    have one' : h'.objs.size = h.objs.size + 1 := one
    have nS : h.objs.size ≠ S := Nat.ne_of_gt Slt
    have off : ∀ b o, b ≠ S → h'.get? b = some o → (h'.update S (Obj.mapSeq (·.push (Value.ref h.objs.size)))).get? b = some o := fun b o nb e => (Heap.get?_update_other _ _ (Ne.symm nb)).trans e
    show wpAny _ A.in1 (updateSeq S (·.push (Value.ref h.objs.size)) >>= _) _ _ _
    refine wpAny_bind ?_
    refine wpAny_updateSeq hS' rfl (wpAny_pure ⟨plainId_quiet PySem.F.plain_extend_loop _, ?_⟩) (by rw [sz]; omega) (by show (acc.push (Value.ref h.objs.size)).size ≤ sizeLine + 1; rw [Array.size_push, sz]; omega)
    refine ih (i + 1) _ tk _ (acc.push (Value.ref h.objs.size)) (as ++ [h.objs.size]) (by omega) lt (W.keep _ _ _ _ st' off) (fun b o n1 n2 e => off b o n1 (k b o n2 (kp b o n1 n2 e))) (Heap.get?_update_self _ hS' rfl)
      (by rw [Array.toList_push, ha, List.map_append]; rfl) (by rw [List.length_append, hl]; rfl) ⟨?_, ?_, ?_⟩ ?_
    · refine List.pairwise_append.mpr ⟨g.rise, List.pairwise_singleton _ _, ?_⟩
      intro a q b q'
      obtain rfl := List.mem_singleton.mp q'
      exact g.lt q
    · intro a q
      rcases List.mem_append.mp q with q | q
      · exact g.above a q
      · obtain rfl := List.mem_singleton.mp q
        exact hlo
    · intro j b hj
      by_cases jl : j < as.length
      · rw [List.getElem?_append_left jl] at hj
        have ab := g.above b (List.mem_of_getElem? hj)
        exact off b _ (Nat.ne_of_gt (Nat.lt_of_lt_of_le Slo ab)) (k b _ (fun q => absurd (wlo b q) (Nat.not_lt.mpr ab)) (g.pairs j b hj))
      · rw [List.getElem?_append_right (by omega)] at hj
        have j0 : j - as.length = 0 := by
          cases q : j - as.length with
          | zero => rfl
          | succ r => rw [q] at hj; simp at hj
        have ej : j = i := by omega
        rw [j0] at hj
        obtain rfl : h.objs.size = b := Option.some.inj hj
        rw [ej]
        exact off _ _ nS tup'
    · have e : (h'.update S (Obj.mapSeq (·.push (Value.ref h.objs.size)))).get? h.objs.size = _ := off _ _ nS tup'
      exact Nat.le_trans hlo (Nat.le_of_lt (Heap.lt_size e))
theorem nolen_zip : typeLookup (.type "zip") "__len__" = pure none := by rw [typeLookup_type, builtinLookup_eq_fast]; kernel_rfl
theorem nohint_zip : typeLookup (.type "zip") "__length_hint__" = pure none := by rw [typeLookup_type, builtinLookup_eq_fast]; kernel_rfl
/-- the list's end behind the call -/
def ListOut (n : Nat) (pr : Nat → Value × Value) (wr : List Addr) (lo : Addr) (s : Shared) (Q : Value → Shared → Prop) : Prop :=
  ∀ h' tk acc c as, (∀ b o, b ∉ wr → s.heap.get? b = some o → h'.get? b = some o) → h'.get? s.heap.objs.size = some { cls := .type "list", dict := none, data := .seq acc c, slots := #[] } → as.length = n → Outs pr lo h' as → acc.toList = as.map Value.ref →
    Q (.ref s.heap.objs.size) { s with heap := h', toks := tk }
theorem call_list_zip {Q : Value → Shared → Prop} (W : PSrc prog w z wr n pr St) (hh : A.handled = none) (st : ∀ h', (∀ b o, s.heap.get? b = some o → h'.get? b = some o) → St 0 s.heap.objs.size h') (wlt : ∀ b ∈ wr, b < s.heap.objs.size) (zlt : z < s.heap.objs.size) (hn : n ≤ sizeLine)
    (q : ListOut n pr wr (s.heap.objs.size + 1) s Q) : wpAny (model prog w) A (call (.type "list") [.ref z]) Q E s := by
  refine callType_codes (Q₁ := fun obj s' => obj = .ref s.heap.objs.size ∧ s' = { s with heap := s.heap.push { cls := .type "list", data := .seq #[] } }) PySem.F.called_list (PySem.F.typeCall_list_1 _) PySem.F.entry_list_init (code_list_new _ ⟨rfl, rfl⟩) ?_
  rintro obj s' ⟨rfl, rfl⟩
  have at0 : (s.heap.push { cls := .type "list", data := .seq #[] }).get? s.heap.objs.size = some { cls := .type "list", data := .seq #[] } := Heap.get?_push_size _ rfl
  refine ⟨⟨_, at0, rfl⟩, PySem.F.args_list_init_2 _ _, ?_⟩
  show wpAny _ A.in1.in1 (do let old ← Builtin.List.listItems (.ref s.heap.objs.size); Builtin.List.listUpdate (.ref s.heap.objs.size) (fun _ => #[]); letGo old.toList.reverse; Builtin.List.listExtendWith (.ref s.heap.objs.size) (.ref z) .none) _ _ _
  refine wpAny_bind ?_
  unfold Builtin.List.listItems
  refine wpAny_bind (wpAny_seqItems at0 rfl (wpAny_pure ?_))
  show wpAny _ A.in1.in1 (updateSeq s.heap.objs.size (fun _ => #[]) >>= fun _ => letGo (#[] : Array Value).toList.reverse >>= fun _ => Builtin.List.listExtendWith (.ref s.heap.objs.size) (.ref z) .none) _ _ _
  refine wpAny_bind (wpAny_updateSeq at0 rfl (wpAny_bind (wpAny_letGo ?_)))
  have at1 := Heap.get?_update_self (Obj.mapSeq (fun _ => (#[] : Array Value))) at0 rfl
  have k1 : ∀ b o, s.heap.get? b = some o → ((s.heap.push { cls := .type "list", data := .seq #[] }).update s.heap.objs.size (Obj.mapSeq (fun _ => (#[] : Array Value)))).get? b = some o :=
    fun b o e => (Heap.get?_update_other _ _ (Nat.ne_of_gt (Heap.lt_size e))).trans (Heap.get?_push_of_some _ e)
  have st1 := st _ k1
  have zz : (Value.type "zip" == Value.type "list") = false := by decide
  have zt : (Value.type "zip" == Value.type "tuple") = false := by decide
  have nsame : Builtin.List.listSameRef (.ref s.heap.objs.size) (.ref z) = false := by simp [Builtin.List.listSameRef, Nat.ne_of_gt zlt]
  unfold Builtin.List.listExtendWith
  refine wpAny_bind (wpAny_typeOf (W.type 0 _ { s with heap := (s.heap.push { cls := .type "list", data := .seq #[] }).update s.heap.objs.size (Obj.mapSeq (fun _ => (#[] : Array Value))) } st1) ?_)
  simp only [nsame, zz, zt, Bool.or_false, Bool.false_eq_true, if_false]
  refine wpAny_bind (W.self _ _ 0 _ _ _ st1 (wpAny_bind (wpAny_holding ?_)))
  have isz := W.type 0 _ { s with heap := (s.heap.push { cls := .type "list", data := .seq #[] }).update s.heap.objs.size (Obj.mapSeq (fun _ => (#[] : Array Value))) } st1
  unfold Builtin.List.listLengthHint
  refine wpAny_bind (wpAny_specialOf isz nolen_zip ?_)
  show wpAny _ A.in1.in1 (specialOf (Value.ref z) (Str.ofString "__length_hint__") >>= _) _ _ _
  refine wpAny_bind (wpAny_specialOf isz nohint_zip (wpAny_pure ?_))
  show wpAny _ A.in1.in1 (rule "list.extend.makes-room" >>= fun _ => Builtin.List.listTouch (.ref s.heap.objs.size) >>= fun _ => again (.builtin "list.extend.loop" ⟨[.ref s.heap.objs.size, .ref z, .none], []⟩)) _ _ _
  refine wpAny_bind (wpAny_rule (wpAny_bind ?_))
  show wpAny _ A.in1.in1 (updateSeq s.heap.objs.size (·.push .none) >>= fun _ => updateSeq s.heap.objs.size (·.pop)) _ _ _
  refine wpAny_bind (wpAny_updateSeq at1 rfl ?_)
  have at2 := Heap.get?_update_self (Obj.mapSeq (·.push Value.none)) at1 rfl
  refine wpAny_updateSeq (hz := by seq_fits) at2 rfl ?_
  have at3 := Heap.get?_update_self (Obj.mapSeq (·.pop)) at2 rfl
  have k3 : ∀ b o, s.heap.get? b = some o → ((((s.heap.push { cls := .type "list", data := .seq #[] }).update s.heap.objs.size (Obj.mapSeq (fun _ => (#[] : Array Value)))).update s.heap.objs.size (Obj.mapSeq (·.push Value.none))).update s.heap.objs.size (Obj.mapSeq (·.pop))).get? b = some o := by
    intro b o e
    have nb := Nat.ne_of_gt (Heap.lt_size e)
    exact (Heap.get?_update_other _ _ nb).trans ((Heap.get?_update_other _ _ nb).trans (k1 b o e))
  have big : s.heap.objs.size + 1 ≤ ((((s.heap.push { cls := .type "list", data := .seq #[] }).update s.heap.objs.size (Obj.mapSeq (fun _ => (#[] : Array Value)))).update s.heap.objs.size (Obj.mapSeq (·.push Value.none))).update s.heap.objs.size (Obj.mapSeq (·.pop))).objs.size := Heap.lt_size at3
  refine wpAny_pure ⟨plainId_quiet F.plain_extend_loop _, ?_⟩
  refine zip_loop (s := s) (A := A.in1) W (S := s.heap.objs.size) (lo := s.heap.objs.size + 1) (h0 := s.heap) hh (fun b q => Nat.lt_succ_of_lt (wlt b q)) (Nat.lt_succ_self _) (fun q => absurd (wlt _ q) (Nat.lt_irrefl _)) hn .none ?_ n 0 _ s.toks _ #[] [] rfl (Nat.zero_le _) (st _ k3) (fun b o _ _ e => k3 b o e) at3 rfl rfl ⟨List.Pairwise.nil, fun _ q => (nomatch q), fun j a q => by simp at q⟩ big
  intro h' tk acc c as kp hS hl g ha
  exact ⟨rfl, q h' tk acc c as (fun b o n2 e => kp b o (Nat.ne_of_lt (Heap.lt_size e)) n2 e) hS hl g ha⟩
end

theorem psrc_lists {prog : Program} {w : World} {z TI TO i1 i2 l1 l2 : Addr} (D : ZipApart z TI TO i1 i2 l1 l2) (xs ys : Array Value) (hn : xs.size = ys.size) : PSrc prog w z [z, TO, i1, i2] xs.size (fun i => (xs.getD i .none, ys.getD i .none))
    (fun i S h => IsPair h TI (.ref i1) (.ref i2) ∧ h.IsListIter i1 l1 i ∧ h.IsListIter i2 l2 i ∧ h.IsList l1 xs ∧ h.IsList l2 ys ∧ (S ≠ z ∧ S ≠ TI ∧ S ≠ TO ∧ S ≠ i1 ∧ S ≠ i2 ∧ S ≠ l1 ∧ S ≠ l2) ∧
      ((IsZip h z TI TO .none ∧ ∃ a b, IsPair h TO a b) ∨ ∃ T f oT, IsZipHeld h z TI TO T f ∧ h.get? T = some oT ∧ T ≠ z ∧ T ≠ i1 ∧ T ≠ i2 ∧ T ≠ S)) where
  type := by
    rintro i S s ⟨_, _, _, _, _, _, ⟨hz, _⟩ | ⟨T, f, oT, hz, _⟩⟩
    · exact ⟨_, hz, rfl⟩
    · exact ⟨_, hz, rfl⟩
  self := by
    rintro A E i S s Q ⟨_, _, _, _, _, _, ⟨hz, _⟩ | ⟨T, f, oT, hz, _⟩⟩ q
    · exact wpAny_pyIter_zip hz q
    · have isz : s.TypeIs (.ref z) "zip" := ⟨_, hz, rfl⟩
      exact wpAny_pyIter_slot isz F.slot_zip_iter (wpAny_call_entry F.slot_zip_iter isz F.entry_zip_iter (wpAny_pure ⟨_, rfl, "zip", _, isz, F.slot_zip_next.lookup, q⟩) (F.args_zip_iter_1 _))
  keep := by
    rintro i S h h' ⟨p, a1, a2, t1, t2, ⟨n1, n2, n3, n4, n5, n6, n7⟩, hz⟩ k
    refine ⟨k _ _ n2.symm p, a1.at fun o e => k _ o n4.symm e, a2.at fun o e => k _ o n5.symm e, t1.at fun o e => k _ o n6.symm e, t2.at fun o e => k _ o n7.symm e, ⟨n1, n2, n3, n4, n5, n6, n7⟩, ?_⟩
    rcases hz with ⟨hz, a, b, ho⟩ | ⟨T, f, oT, hz, hT, r1, r2, r3, r4⟩
    · exact .inl ⟨k _ _ n1.symm hz, a, b, k _ _ n3.symm ho⟩
    · exact .inr ⟨T, f, oT, k _ _ n1.symm hz, k _ _ r4 hT, r1, r2, r3, r4⟩
  item := by
    rintro A E i S s Q lt Slt ⟨p, a1, a2, t1, t2, ns, hz⟩ q
    have ex : xs[i]? = some (xs.getD i .none) := by simp [Array.getD, lt]
    have ey : ys[i]? = some (ys.getD i .none) := by
      have : i < ys.size := by omega
      simp [Array.getD, this]
    have new : ∀ {b o}, s.heap.get? b = some o → s.heap.objs.size ≠ b := fun e => Nat.ne_of_gt (Heap.lt_size e)
    have ni1 : s.heap.objs.size ≠ i1 := let ⟨_, e, _⟩ := a1; new e
    have ni2 : s.heap.objs.size ≠ i2 := let ⟨_, e, _⟩ := a2; new e
    rcases hz with ⟨hz, a, b, ho⟩ | ⟨T, f, oT, hz, hT, r1, r2, r3, r4⟩
    · refine wpAny_pyNext_zip_item D hz p ho a1 a2 t1 t2 ex ey fun h' c1 c2 c3 c4 c5 c6 k => ?_
      refine q h' ⟨k _ _ D.TIz D.TITO D.TIi1 D.TIi2 p, c3, c4, t1.at fun o e => k _ o D.l1z D.l1TO D.l1i1 D.l1i2 e, t2.at fun o e => k _ o D.l2z D.l2TO D.l2i1 D.l2i2 e, ns, .inr ⟨s.heap.objs.size, false, _, c1, c5, new hz, ni1, ni2, Nat.ne_of_gt Slt⟩⟩ c5 c6 fun b o nb e => ?_
      simp only [List.mem_cons, List.not_mem_nil, or_false, not_or] at nb
      exact k b o nb.1 nb.2.1 nb.2.2.1 nb.2.2.2 e
    · refine wpAny_pyNext_zip_item_held D hz hT p a1 a2 t1 t2 ex ey fun h' c1 c3 c4 c5 c6 k => ?_
      refine q h' ⟨k _ _ D.TIz D.TIi1 D.TIi2 p, c3, c4, t1.at fun o e => k _ o D.l1z D.l1i1 D.l1i2 e, t2.at fun o e => k _ o D.l2z D.l2i1 D.l2i2 e, ns, .inr ⟨T, true, oT, c1, k _ _ r1 r2 r3 hT, r1, r2, r3, r4⟩⟩ c5 c6 fun b o nb e => ?_
      simp only [List.mem_cons, List.not_mem_nil, or_false, not_or] at nb
      exact k b o nb.1 nb.2.2.1 nb.2.2.2 e
  done := by
    rintro A E S s Q hh ⟨p, a1, a2, t1, t2, ns, hz⟩ q
    have ex : xs[xs.size]? = none := by simp
    rcases hz with ⟨hz, a, b, ho⟩ | ⟨T, f, oT, hz, hT, r1, r2, r3, r4⟩
    · refine wpAny_pyNext_zip_end hh D hz p ho a1 a2 t1 t2 (.inl ex) fun h' k => q h' fun b o nb e => ?_
      simp only [List.mem_cons, List.not_mem_nil, or_false, not_or] at nb
      exact k b o nb.1 nb.2.1 nb.2.2.1 nb.2.2.2 e
    · refine wpAny_pyNext_zip_end_held hh D hz hT p a1 a2 t1 t2 (.inl ex) fun h' k => q h' fun b o nb e => ?_
      simp only [List.mem_cons, List.not_mem_nil, or_false, not_or] at nb
      exact k b o nb.1 nb.2.2.1 nb.2.2.2 e

theorem psrc_tuples {prog : Program} {w : World} {z TI TO i1 i2 l1 l2 : Addr} (D : ZipApart z TI TO i1 i2 l1 l2) (xs ys : Array Value) (hn : xs.size = ys.size) : PSrc prog w z [z, TO, i1, i2] xs.size (fun i => (xs.getD i .none, ys.getD i .none))
    (fun i S h => IsPair h TI (.ref i1) (.ref i2) ∧ h.IsTupleIter i1 l1 i ∧ h.IsTupleIter i2 l2 i ∧ h.IsTuple l1 xs ∧ h.IsTuple l2 ys ∧ (S ≠ z ∧ S ≠ TI ∧ S ≠ TO ∧ S ≠ i1 ∧ S ≠ i2 ∧ S ≠ l1 ∧ S ≠ l2) ∧
      ((IsZip h z TI TO .none ∧ ∃ a b, IsPair h TO a b) ∨ ∃ T f oT, IsZipHeld h z TI TO T f ∧ h.get? T = some oT ∧ T ≠ z ∧ T ≠ i1 ∧ T ≠ i2 ∧ T ≠ S)) where
  type := by
    rintro i S s ⟨_, _, _, _, _, _, ⟨hz, _⟩ | ⟨T, f, oT, hz, _⟩⟩
    · exact ⟨_, hz, rfl⟩
    · exact ⟨_, hz, rfl⟩
  self := by
    rintro A E i S s Q ⟨_, _, _, _, _, _, ⟨hz, _⟩ | ⟨T, f, oT, hz, _⟩⟩ q
    · exact wpAny_pyIter_zip hz q
    · have isz : s.TypeIs (.ref z) "zip" := ⟨_, hz, rfl⟩
      exact wpAny_pyIter_slot isz F.slot_zip_iter (wpAny_call_entry F.slot_zip_iter isz F.entry_zip_iter (wpAny_pure ⟨_, rfl, "zip", _, isz, F.slot_zip_next.lookup, q⟩) (F.args_zip_iter_1 _))
  keep := by
    rintro i S h h' ⟨p, a1, a2, t1, t2, ⟨n1, n2, n3, n4, n5, n6, n7⟩, hz⟩ k
    refine ⟨k _ _ n2.symm p, a1.at fun o e => k _ o n4.symm e, a2.at fun o e => k _ o n5.symm e, t1.at fun o e => k _ o n6.symm e, t2.at fun o e => k _ o n7.symm e, ⟨n1, n2, n3, n4, n5, n6, n7⟩, ?_⟩
    rcases hz with ⟨hz, a, b, ho⟩ | ⟨T, f, oT, hz, hT, r1, r2, r3, r4⟩
    · exact .inl ⟨k _ _ n1.symm hz, a, b, k _ _ n3.symm ho⟩
    · exact .inr ⟨T, f, oT, k _ _ n1.symm hz, k _ _ r4 hT, r1, r2, r3, r4⟩
  item := by
    rintro A E i S s Q lt Slt ⟨p, a1, a2, t1, t2, ns, hz⟩ q
    have ex : xs[i]? = some (xs.getD i .none) := by simp [Array.getD, lt]
    have ey : ys[i]? = some (ys.getD i .none) := by
      have : i < ys.size := by omega
      simp [Array.getD, this]
    have new : ∀ {b o}, s.heap.get? b = some o → s.heap.objs.size ≠ b := fun e => Nat.ne_of_gt (Heap.lt_size e)
    have ni1 : s.heap.objs.size ≠ i1 := let ⟨_, e, _⟩ := a1; new e
    have ni2 : s.heap.objs.size ≠ i2 := let ⟨_, e, _⟩ := a2; new e
    rcases hz with ⟨hz, a, b, ho⟩ | ⟨T, f, oT, hz, hT, r1, r2, r3, r4⟩
    · refine RZ.pyNext_zipT_item D hz p ho a1 a2 t1 t2 ex ey fun h' c1 c2 c3 c4 c5 c6 k => ?_
      refine q h' ⟨k _ _ D.TIz D.TITO D.TIi1 D.TIi2 p, c3, c4, t1.at fun o e => k _ o D.l1z D.l1TO D.l1i1 D.l1i2 e, t2.at fun o e => k _ o D.l2z D.l2TO D.l2i1 D.l2i2 e, ns, .inr ⟨s.heap.objs.size, false, _, c1, c5, new hz, ni1, ni2, Nat.ne_of_gt Slt⟩⟩ c5 c6 fun b o nb e => ?_
      simp only [List.mem_cons, List.not_mem_nil, or_false, not_or] at nb
      exact k b o nb.1 nb.2.1 nb.2.2.1 nb.2.2.2 e
    · refine zt_item D hz hT p a1 a2 t1 t2 ex ey fun h' c1 c3 c4 c5 c6 k => ?_
      refine q h' ⟨k _ _ D.TIz D.TIi1 D.TIi2 p, c3, c4, t1.at fun o e => k _ o D.l1z D.l1i1 D.l1i2 e, t2.at fun o e => k _ o D.l2z D.l2i1 D.l2i2 e, ns, .inr ⟨T, true, oT, c1, k _ _ r1 r2 r3 hT, r1, r2, r3, r4⟩⟩ c5 c6 fun b o nb e => ?_
      simp only [List.mem_cons, List.not_mem_nil, or_false, not_or] at nb
      exact k b o nb.1 nb.2.2.1 nb.2.2.2 e
  done := by
    rintro A E S s Q hh ⟨p, a1, a2, t1, t2, ns, hz⟩ q
    have ex : xs[xs.size]? = none := by simp
    rcases hz with ⟨hz, a, b, ho⟩ | ⟨T, f, oT, hz, hT, r1, r2, r3, r4⟩
    · refine RZ.pyNext_zipT_end hh D hz p ho a1 a2 t1 t2 (.inl ex) fun h' k => q h' fun b o nb e => ?_
      simp only [List.mem_cons, List.not_mem_nil, or_false, not_or] at nb
      exact k b o nb.1 nb.2.1 nb.2.2.1 nb.2.2.2 e
    · refine zt_end hh D hz hT p a1 t1 ex fun h' k => q h' fun b o nb e => ?_
      simp only [List.mem_cons, List.not_mem_nil, or_false, not_or] at nb
      exact k b o nb.1 nb.2.2.1 nb.2.2.2 e

/-! ### the rule -/
def putP : Hp → List Addr → List (V × V) → Hp
  | H, a :: as, p :: ps => putP (upd H a (.tup [p.1, p.2])) as ps
  | H, _, _ => H
theorem putP_off {b : Addr} : ∀ (as : List Addr) (ps : List (V × V)) (H : Hp), b ∉ as → putP H as ps b = H b
  | [], _, _, _ => rfl
  | _ :: _, [], _, _ => rfl
  | a :: as, p :: ps, H, h => by
    have h1 : b ∉ as := fun q => h (List.mem_cons_of_mem _ q)
    have h2 : b ≠ a := fun q => h (by rw [q]; exact List.mem_cons_self)
    show putP (upd H a (.tup [p.1, p.2])) as ps b = H b
    rw [putP_off as ps _ h1, upd_ne h2]
theorem putP_at : ∀ (as : List Addr) (ps : List (V × V)) (H : Hp), as.length = ps.length → as.Nodup → Paired (fun (t : Addr) (p : V × V) => putP H as ps t = some (.tup [p.1, p.2])) as ps
  | [], [], _, _, _ => .nil
  | [], _ :: _, _, h, _ => by cases h
  | _ :: _, [], _, h, _ => by cases h
  | a :: as, p :: ps, H, h, hn => by
    obtain ⟨n1, n2⟩ := List.nodup_cons.mp hn
    refine .cons ?_ (putP_at as ps (upd H a (.tup [p.1, p.2])) (Nat.succ.inj h) n2)
    show putP (upd H a (.tup [p.1, p.2])) as ps a = some (.tup [p.1, p.2])
    rw [putP_off as ps _ n1, upd_same]
/-- behind list(zip(..)): a new list of new pairs -/
def ZipEnd (H : Hp) (Q : VK) (xs ys : List V) : Prop := ∀ (H' : Hp) (l : Addr) (ts : List Addr), Same H H' → H l = none → H' l = some (.lst (ts.map V.ref)) → Paired (fun (t : Addr) (p : V × V) => H' t = some (.tup [p.1, p.2])) ts (xs.zip ys) → Q (.ref l) H'
section
variable {X : Cx} {pins : List (Addr × Obj)} {σ : L2.St} {H : Hp} {s : Shared} {xs ys : List V} {us vs : List Value}
theorem na_not {L : Nat} (h : L + 1 ≤ L) : False := by omega
theorem na_le {n L t : Nat} (h : n ≤ L) (g : L + 1 ≤ t) : n ≤ t := by omega
theorem na_ne {b n L : Nat} (h : b < n) (g : n ≤ L) : b ≠ L := by omega
theorem na_out {b n L : Nat} (h : b < n) (g : n ≤ L) (q : L + 1 ≤ b) : False := by omega
theorem na_ns {n a b : Nat} (la : a < n) (lb : b < n) : n + 5 ≠ n + 4 ∧ n + 5 ≠ n + 2 ∧ n + 5 ≠ n + 3 ∧ n + 5 ≠ n ∧ n + 5 ≠ n + 1 ∧ n + 5 ≠ a ∧ n + 5 ≠ b := by omega
theorem na_wr {n b : Nat} (h : b = n + 4 ∨ b = n + 3 ∨ b = n ∨ b = n + 1) : b < n + 5 := by omega
theorem na_old {n b : Nat} (h : b < n) (q : b = n + 4 ∨ b = n + 3 ∨ b = n ∨ b = n + 1) : False := by omega
theorem getD_of {us : List Value} {j : Nat} {u : Value} (h : us[j]? = some u) : us.toArray.getD j .none = u := by
  obtain ⟨h1, h2⟩ := List.getElem?_eq_some_iff.mp h
  simp [Array.getD, h1, h2]
theorem zip_laid (I : Inv X pins σ H s) (rx : Vals xs us) (ry : Vals ys vs) {h2 : Heap} {tk c L : Nat} {acc : Array Value} {as : List Addr} (k : ∀ b o, s.heap.get? b = some o → h2.get? b = some o) (hL : s.heap.objs.size ≤ L)
    (hS : h2.get? L = some { cls := .type "list", dict := none, data := .seq acc c, slots := #[] }) (hn : as.length = (xs.zip ys).length) (hz : as.length ≤ sizeLine) (g : Outs (fun i => (us.toArray.getD i .none, vs.toArray.getD i .none)) (L + 1) h2 as) (ha : acc.toList = as.map Value.ref) :
    ∃ H' : Hp, Same H H' ∧ H L = none ∧ H' L = some (.lst (as.map V.ref)) ∧ Paired (fun (t : Addr) (p : V × V) => H' t = some (.tup [p.1, p.2])) as (xs.zip ys) ∧ Inv X pins σ H' { s with heap := h2, toks := tk } := by
  have nL : L ∉ as := fun q => na_not (g.above L q)
  have nd : as.Nodup := List.Pairwise.imp (fun {a b} (h : a < b) => Nat.ne_of_lt h) g.rise
  have newT : ∀ t ∈ as, H t = none := fun t q => I.hok.fresh (na_le hL (g.above t q))
  have newL : H L = none := I.hok.fresh hL
  have tups := putP_at as (xs.zip ys) (upd H L (.lst (as.map V.ref))) hn nd
  have off : ∀ b, b ∉ as → b ≠ L → putP (upd H L (.lst (as.map V.ref))) as (xs.zip ys) b = H b := fun b q1 q2 => by rw [putP_off as _ _ q1, upd_ne q2]
  have low : ∀ b o, s.heap.get? b = some o → b ∉ as ∧ b ≠ L := fun b o e => by
    have lt := Heap.lt_size e
    exact ⟨fun q => na_out lt hL (g.above b q), na_ne lt hL⟩
  have kp : Same H (putP (upd H L (.lst (as.map V.ref))) as (xs.zip ys)) := fun b u e => by
    rw [off b (fun q => by rw [newT b q] at e; cases e) (fun q => by rw [q, newL] at e; cases e)]
    exact e
  have atL : putP (upd H L (.lst (as.map V.ref))) as (xs.zip ys) L = some (.lst (as.map V.ref)) := by rw [putP_off as _ _ nL, upd_same]
  refine ⟨_, kp, newL, atL, tups, ?_⟩
  have un : Un (frs X.stack) [] H (putP (upd H L (.lst (as.map V.ref))) as (xs.zip ys)) s.heap h2 := by
    refine ⟨fun b o e _ _ _ => k b o e, fun b o e _ _ _ => ⟨o.slots, k b o e⟩, fun b o e n _ => ?_, fun b o e _ => ⟨o, k b o e⟩, fun b zs e => kp b _ e, fun b o u e => kp b _ e, fun b ps e => ⟨#[], ?_⟩⟩
    · obtain ⟨q1, q2⟩ := low b o e
      rw [off b q1 q2]
      exact n
    · rw [kp b _ e]
      simp
  refine I.call' (ch := []) rfl un (fun b u e => ?_) I.bare fun b q => nomatch q
  by_cases hb : b ∈ as
  · obtain ⟨j, p, e1, e2, e3⟩ := LiI.paired_ix tups hb
    rw [e3] at e
    cases e
    obtain ⟨x1, y1⟩ := List.getElem?_zip_eq_some.mp e2
    obtain ⟨u, eu, ru⟩ := Vals.get rx x1
    obtain ⟨v, ev, rv⟩ := Vals.get ry y1
    have t := g.pairs j b e1
    rw [getD_of eu, getD_of ev] at t
    exact ⟨by show 2 ≤ sizeLine; decide, [u, v], .cons ru (.cons rv .nil), ⟨_, t, rfl, _, rfl⟩⟩
  · by_cases hb2 : b = L
    · rw [hb2] at e ⊢
      rw [atL] at e
      cases e
      refine ⟨by rw [List.length_map]; exact hz, acc.toList, c, by rw [ha]; exact LiI.vals_refs as, ?_⟩
      rw [Array.toArray_toList]
      exact hS
    · rw [off b hb hb2] at e
      exact (I.hok b u e).stay (fun d w _ q => k d w q) (fun d q => kp d _ q) fun d zs q => kp d _ q
def tListZip (K : PySem.W.Frag) (ta : TA) : TE := fun σ H Q => ta σ H fun vs H1 => ∃ (a b : Addr) (xs ys : List V), vs = [.ref a, .ref b] ∧ ((SqL K H1 a xs ∧ SqL K H1 b ys) ∨ (SqT K H1 a xs ∧ SqT K H1 b ys)) ∧ xs.length = ys.length ∧ ZipEnd H1 Q xs ys
theorem pe_listZip {e e2 : Expr} {ta : TA} {p p2 pos pos2 : Pos} (hg : Gl X "list") (hm : X.mg "list" = none) (hgz : Gl X "zip") (hmz : X.mg "zip" = none) (hc : X.calm = true) (hp : PA X [e, e2] ta)
    (hs : starEach [.Call (.Name "zip" p2) [e, e2] [] pos2] X.env = (false, eval (.Call (.Name "zip" p2) [e, e2] [] pos2) X.env) :: starEach [] X.env := by rfl) (hpl : (backTo pos (starEach [] X.env)).any (·.1) = false := by rfl)
    (hs2 : starEach [e, e2] X.env = (false, eval e X.env) :: starEach [e2] X.env := by rfl) (hpl2 : (backTo pos2 (starEach [e2] X.env)).any (·.1) = false := by rfl) :
    PE X (.Call (.Name "list" p) [.Call (.Name "zip" p2) [e, e2] [] pos2] [] pos) (tListZip X.K ta) := by
  refine ⟨fun pins s σ H Q I h => ?_⟩
  refine Call_ (ld_blt I hg hm (show bootBuiltins "list" = some (Value.type "list") by decide +kernel) (PyProof.Rows.callWith_type1 ?_ hs hpl))
  rw [hs]
  show wpAny _ _ (spliced ((false, eval (.Call (.Name "zip" p2) [e, e2] [] pos2) X.env) :: backTo pos (starEach [] X.env))) _ _ s
  refine Calls.spliced_cons ?_
  refine Call_ (ld_blt I hgz hmz PyProof.Rows.boot_zip (PyProof.Rows.callWith_type1 (thn (hp.run pos2 pins s σ H _ I h) fun us s1 ⟨vs, H1, I1, r1, q1⟩ => ?_) hs2 hpl2))
  obtain ⟨a, b, xs, ys, ex, hq, hl, q⟩ := q1
  subst ex
  cases r1 with
  | cons r rr =>
    cases rr with
    | cons r' rr =>
      cases rr
      cases r
      cases r'
      rcases hq with ⟨hx, hy⟩ | ⟨hx, hy⟩
      · obtain ⟨ia, rv, p1, z1⟩ := I1.list hx
        obtain ⟨ib, rw', p3, _⟩ := I1.list hy
        have eq : ia.toArray.size = ib.toArray.size := by simp only [List.size_toArray]; rw [← rv.length, ← rw'.length]; exact hl
        refine call_zip_2 p1.isList p3.isList fun h' hz hTI hTO h1 h2 hsz hk => Calls.spliced_nil ?_
        refine call_list_zip (s := { s1 with heap := h' }) (psrc_lists (PySem.W.ktu_apart s1.heap.objs.size a b p1.lt p3.lt) ia.toArray ib.toArray eq) (I1.ok.hd hc) ?_ ?_ ?_ ?_ ?_
        · intro h2' k
          have la := p1.lt
          have lb := p3.lt
          refine ⟨k _ _ hTI, h1.at fun o e => k _ o e, h2.at fun o e => k _ o e, p1.isList.at fun o e => k _ o (hk _ o e), p3.isList.at fun o e => k _ o (hk _ o e), ?_, .inl ⟨k _ _ hz, _, _, k _ _ hTO⟩⟩
          show h'.objs.size ≠ _ ∧ h'.objs.size ≠ _ ∧ h'.objs.size ≠ _ ∧ h'.objs.size ≠ _ ∧ h'.objs.size ≠ _ ∧ h'.objs.size ≠ _ ∧ h'.objs.size ≠ _
          rw [hsz]
          exact na_ns la lb
        · intro b' hb'
          show b' < h'.objs.size
          rw [hsz]
          simp only [List.mem_cons, List.not_mem_nil, or_false] at hb'
          exact na_wr hb'
        · show s1.heap.objs.size + 4 < h'.objs.size
          rw [hsz]
          exact Nat.lt_succ_self _
        · rw [List.size_toArray, ← rv.length]
          exact z1
        · intro h3 tk acc c as kp hS hlen g ha
          have kk : ∀ b' o, s1.heap.get? b' = some o → h3.get? b' = some o := fun b' o e => kp b' o (fun z => by
            have := Heap.lt_size e
            simp only [List.mem_cons, List.not_mem_nil, or_false] at z
            exact na_old this z) (hk b' o e)
          have lz : (xs.zip ys).length = xs.length := by rw [List.length_zip]; omega
          have la : as.length = xs.length := by rw [hlen, List.size_toArray, ← rv.length]
          obtain ⟨H', c1, c2, c3, c4, J⟩ := zip_laid (tk := tk) I1 rv rw' kk (show s1.heap.objs.size ≤ h'.objs.size by rw [hsz]; exact Nat.le_add_right _ _) hS (by omega) (by omega) g ha
          exact ⟨.ref h'.objs.size, H', J, rfl, q H' _ as c1 c2 c3 c4⟩
      · obtain ⟨ia, rv, p1, z1⟩ := I1.tuple hx
        obtain ⟨ib, rw', p3, _⟩ := I1.tuple hy
        have eq : ia.toArray.size = ib.toArray.size := by simp only [List.size_toArray]; rw [← rv.length, ← rw'.length]; exact hl
        refine RZ.call_zipT p1 p3 fun h' hz hTI hTO h1 h2 hsz hk => Calls.spliced_nil ?_
        refine call_list_zip (s := { s1 with heap := h' }) (psrc_tuples (PySem.W.ktu_apart s1.heap.objs.size a b p1.lt p3.lt) ia.toArray ib.toArray eq) (I1.ok.hd hc) ?_ ?_ ?_ ?_ ?_
        · intro h2' k
          have la := p1.lt
          have lb := p3.lt
          refine ⟨k _ _ hTI, h1.at fun o e => k _ o e, h2.at fun o e => k _ o e, Heap.IsTuple.at p1 fun o e => k _ o (hk _ o e), Heap.IsTuple.at p3 fun o e => k _ o (hk _ o e), ?_, .inl ⟨k _ _ hz, _, _, k _ _ hTO⟩⟩
          show h'.objs.size ≠ _ ∧ h'.objs.size ≠ _ ∧ h'.objs.size ≠ _ ∧ h'.objs.size ≠ _ ∧ h'.objs.size ≠ _ ∧ h'.objs.size ≠ _ ∧ h'.objs.size ≠ _
          rw [hsz]
          exact na_ns la lb
        · intro b' hb'
          show b' < h'.objs.size
          rw [hsz]
          simp only [List.mem_cons, List.not_mem_nil, or_false] at hb'
          exact na_wr hb'
        · show s1.heap.objs.size + 4 < h'.objs.size
          rw [hsz]
          exact Nat.lt_succ_self _
        · rw [List.size_toArray, ← rv.length]
          exact z1
        · intro h3 tk acc c as kp hS hlen g ha
          have kk : ∀ b' o, s1.heap.get? b' = some o → h3.get? b' = some o := fun b' o e => kp b' o (fun z => by
            have := Heap.lt_size e
            simp only [List.mem_cons, List.not_mem_nil, or_false] at z
            exact na_old this z) (hk b' o e)
          have lz : (xs.zip ys).length = xs.length := by rw [List.length_zip]; omega
          have la : as.length = xs.length := by rw [hlen, List.size_toArray, ← rv.length]
          obtain ⟨H', c1, c2, c3, c4, J⟩ := zip_laid (tk := tk) I1 rv rw' kk (show s1.heap.objs.size ≤ h'.objs.size by rw [hsz]; exact Nat.le_add_right _ _) hS (by omega) (by omega) g ha
          exact ⟨.ref h'.objs.size, H', J, rfl, q H' _ as c1 c2 c3 c4⟩
end
end L3

/-! dicts of kinds that are equal -/
namespace L3
open PySem PySem.Spec PyProof.Rows L2
section
variable {X : Cx} {pins : List (Addr × Obj)} {σ : L2.St} {H : Hp} {s : Shared}
theorem opR_or {f : Value → Value → Sem Value} {r r' : R2} (h : OpR X f r) (h' : OpR X f r') : OpR X f (fun x y H Q => r x y H Q ∨ r' x y H Q) := by
  intro pins s σ H x y v u Q I rx ry q
  rcases q with q | q
  · exact h pins s σ H x y v u Q I rx ry q
  · exact h' pins s σ H x y v u Q I rx ry q
theorem kv_hits (I : Inv X pins σ H s) {A : Around} (hu : A.units + 64 < cLine) {ls : List (Key × V)} {b2 : By} {vb : List (Key × Value)} (rb : KV ls vb) (k2 : ByAt H ls b2) (f2 : ∀ q ∈ b2, q.2.fit 60) :
    ∀ {ks : List (Key × V)} {b1 : By} {va : List (Key × Value)}, KV ks va → ByAt H ks b1 → (∀ q ∈ b1, q.2.fit 60 ∧ lk b2 q.1 = some q.2) → PySem.W.KeqHits A s vb va true
  | _, _, _, .nil, .nil, _ => .nil
  | (key, v) :: ks, (x, k) :: b1, (key', u) :: va, .cons ⟨e1, r1⟩ t1, .cons ⟨e2, g⟩ t2, h => by
    obtain ⟨fk, el⟩ := h _ List.mem_cons_self
    have e1' : key = key' := e1
    have e2' : key = .inr x := e2
    subst e1' e2'
    rcases k2.get x with ⟨_, z⟩ | ⟨v2, k', e3, e4, g'⟩
    · rw [z] at el
      cases el
    · rw [e4] at el
      cases el
      have rr : RelO (some v2) (valueAt vb (.inr x)) := by
        rw [← e3]
        exact rb.val (.inr x)
      obtain ⟨y, hy, ry⟩ := rr.some_of
      obtain ⟨as, ra⟩ := Dp.reads I _ v u g.dp r1
      obtain ⟨bs, rb'⟩ := Dp.reads I _ v2 y g'.dp ry
      obtain ⟨l1, l2⟩ := Kd.lay fk
      have eq := SeqAt.eqAt_reads _ _ A s u y as bs ra rb' l1 l1 (by have : min k.dat.depth k.dat.depth = k.dat.depth := Nat.min_self _; omega)
      rw [Kd.eqv, decide_eq_true rfl] at eq
      exact PySem.W.KeqHits.hit hy eq (kv_hits I hu rb k2 f2 t1 t2 fun q hq => h q (List.mem_cons_of_mem _ hq))
def rBy (r : Bool) : R2 := fun x y H Q => ∃ (a b : Addr) (ks ls : List (Key × V)) (b1 b2 : By), x = .ref a ∧ y = .ref b ∧ H a = some (.dK ks) ∧ H b = some (.dK ls) ∧ ByAt H ks b1 ∧ ByAt H ls b2 ∧ b1.length = b2.length ∧ (∀ q ∈ b1, q.2.fit 60 ∧ lk b2 q.1 = some q.2) ∧ (∀ q ∈ b2, q.2.fit 60) ∧ Q (.bl r) H
theorem op_eqBy (hu : X.A.units + 65 < cLine) : OpR X (compareOp .Eq) (rBy true) := by
  intro pins s σ H x y v u Q I rx ry ⟨a, b, ks, ls, b1, b2, ex, ey, ea, eb, k1, k2, hl, h1, h2, q⟩
  subst ex ey
  obtain rfl : v = Value.ref a := rx
  obtain rfl : u = Value.ref b := ry
  obtain ⟨_, ya, va, ra, da⟩ := (show ObjOk X.prog X.w H s.heap a (.dK ks) from I.hok a _ ea)
  obtain ⟨_, yb, vb, rb, db⟩ := (show ObjOk X.prog X.w H s.heap b (.dK ls) from I.hok b _ eb)
  have lv : va.length = vb.length := by rw [← ra.length, ← rb.length, Paired.length k1, Paired.length k2]; exact hl
  refine PySem.W.keq_eq (knd := mixKind X.prog X.w) (r := true) ya yb da db (by omega) (fun _ => kv_hits I (A := X.A.in1) (by show X.A.units + 1 + 64 < cLine; omega) rb k2 h2 ra k1 h1) ?_
  have e : (va.length == vb.length && true) = true := by simp [lv]
  rw [e]
  exact ⟨.bl true, H, I, rfl, q⟩
theorem op_neBy (hu : X.A.units + 65 < cLine) : OpR X (compareOp .NotEq) (rBy false) := by
  intro pins s σ H x y v u Q I rx ry ⟨a, b, ks, ls, b1, b2, ex, ey, ea, eb, k1, k2, hl, h1, h2, q⟩
  subst ex ey
  obtain rfl : v = Value.ref a := rx
  obtain rfl : u = Value.ref b := ry
  obtain ⟨_, ya, va, ra, da⟩ := (show ObjOk X.prog X.w H s.heap a (.dK ks) from I.hok a _ ea)
  obtain ⟨_, yb, vb, rb, db⟩ := (show ObjOk X.prog X.w H s.heap b (.dK ls) from I.hok b _ eb)
  have lv : va.length = vb.length := by rw [← ra.length, ← rb.length, Paired.length k1, Paired.length k2]; exact hl
  refine PySem.W.keq_ne (knd := mixKind X.prog X.w) (r := true) ya yb da db (by omega) (fun _ => kv_hits I (A := X.A.in1) (by show X.A.units + 1 + 64 < cLine; omega) rb k2 h2 ra k1 h1) ?_
  have e : (!(va.length == vb.length && true)) = false := by simp [lv]
  rw [e]
  exact ⟨.bl false, H, I, rfl, q⟩
end
/-- what is in order names each key once -/
theorem addV_nodup {fs : List Str} (x : Str) (h : fs.Nodup) : (addV fs x).Nodup := by
  unfold addV
  by_cases e : x ∈ fs
  · rw [if_pos e]
    exact h
  · rw [if_neg e]
    exact List.nodup_append.mpr ⟨h, by simp, fun a ha b hb => by rw [List.mem_singleton.mp hb]; intro z; rw [z] at ha; exact e ha⟩
theorem Kd.vs_nodup : ∀ (k : Kd) {fs : List Str}, fs.Nodup → (k.vs fs).Nodup
  | .var x, _, h => addV_nodup x h
  | .con _, _, h => h
  | .app a b, _, h => Kd.vs_nodup b (Kd.vs_nodup a h)
theorem vsL_nodup : ∀ (ks : List Kd) {fs : List Str}, fs.Nodup → (vsL ks fs).Nodup
  | [], _, h => h
  | k :: r, _, h => vsL_nodup r (k.vs_nodup h)
theorem lk_self : ∀ (b : By), (names b).Nodup → ∀ q ∈ b, lk b q.1 = some q.2
  | [], _, q, h => nomatch h
  | p :: r, hn, q, h => by
    obtain ⟨n1, n2⟩ := List.nodup_cons.mp (show (p.1 :: names r).Nodup from hn)
    rcases List.mem_cons.mp h with e | h
    · rw [e]
      exact lk_pos rfl
    · have ne : ¬ p.1 = q.1 := fun z => n1 (by rw [z]; exact List.mem_map.mpr ⟨q, h, rfl⟩)
      rw [lk_neg ne]
      exact lk_self r n2 q h
end L3

/-! how kinds are shown: no dict, not too long -/
namespace L3
open PySem L2
theorem shown_word {x : Str} (w : Wok x) : (PyData.str x).shown.length ≤ 82 := by
  have h := StrLaws.reprText_len x (fun c hc => by have := w.2.2 c hc; omega)
  have e : (PyData.str x).shown = reprText x := by simp only [PyData.shown]
  rw [e]
  have := w.2.1
  omega
theorem shown_var : (PyData.str "var").shown.length ≤ 82 := by decide +kernel
theorem shown_con : (PyData.str "con").shown.length ≤ 82 := by decide +kernel
theorem shown_apply : (PyData.str "apply").shown.length ≤ 82 := by decide +kernel
theorem shown_two (a b : PyData) : (PyData.tuple [a, b]).shown.length ≤ a.shown.length + b.shown.length + 7 := by
  have h := tupleText_len_le [a.shown, b.shown]
  simp only [PyData.shown, PyData.shownAll]
  simp only [List.map_cons, List.map_nil, List.sum_cons, List.sum_nil, List.length_cons, List.length_nil] at h
  omega
theorem shown_three (a b c : PyData) : (PyData.tuple [a, b, c]).shown.length ≤ a.shown.length + b.shown.length + c.shown.length + 9 := by
  have h := tupleText_len_le [a.shown, b.shown, c.shown]
  simp only [PyData.shown, PyData.shownAll]
  simp only [List.map_cons, List.map_nil, List.sum_cons, List.sum_nil, List.length_cons, List.length_nil] at h
  omega
theorem Kd.shown_len : ∀ {k : Kd} {n : Nat}, k.fit n → k.dat.shown.length + 100 ≤ 300 * 2 ^ n
  | .var x, n, h => by
    have h1 := shown_two (.str "var") (.str x)
    have h2 := shown_word (wok_of_var h)
    have h3 := shown_var
    have h4 : 1 ≤ 2 ^ n := Nat.one_le_two_pow
    show (PyData.tuple [.str "var", .str x]).shown.length + 100 ≤ _
    omega
  | .con x, n, h => by
    have h1 := shown_two (.str "con") (.str x)
    have h2 := shown_word (wok_of_con h)
    have h3 := shown_con
    have h4 : 1 ≤ 2 ^ n := Nat.one_le_two_pow
    show (PyData.tuple [.str "con", .str x]).shown.length + 100 ≤ _
    omega
  | .app a b, n, h => by
    obtain ⟨m, rfl, ha, hb⟩ := Kd.fit_app h
    have h1 := shown_three (.str "apply") a.dat b.dat
    have h2 := Kd.shown_len ha
    have h3 := Kd.shown_len hb
    have h4 := shown_apply
    have h5 : 2 ^ (m + 1) = 2 ^ m * 2 := Nat.pow_succ ..
    show (PyData.tuple [.str "apply", a.dat, b.dat]).shown.length + 100 ≤ _
    omega
theorem Kd.show_ok : ∀ k : Kd, k.dat.showable = true ∧ k.dat.hasDict = false
  | .var x => by simp [Kd.dat, PyData.showable, PyData.showableAll, PyData.hasDict, PyData.hasDictAll]
  | .con x => by simp [Kd.dat, PyData.showable, PyData.showableAll, PyData.hasDict, PyData.hasDictAll]
  | .app a b => by
    obtain ⟨h1, h2⟩ := Kd.show_ok a
    obtain ⟨h3, h4⟩ := Kd.show_ok b
    simp [Kd.dat, PyData.showable, PyData.showableAll, PyData.hasDict, PyData.hasDictAll, h1, h2, h3, h4]
theorem kds_show : ∀ {ks : List Kd} {n : Nat}, (∀ k ∈ ks, k.fit n) → PyData.showableAll (ks.map Kd.dat) = true ∧ PyData.hasDictAll (ks.map Kd.dat) = false ∧ PyData.depthAll (ks.map Kd.dat) ≤ n + 1 ∧ ((PyData.shownAll (ks.map Kd.dat)).map (·.length)).sum ≤ ks.length * (300 * 2 ^ n) ∧ (PyData.shownAll (ks.map Kd.dat)).length = ks.length
  | [], n, _ => by simp [PyData.showableAll, PyData.hasDictAll, PyData.depthAll, PyData.shownAll]
  | k :: r, n, h => by
    obtain ⟨h1, h2, h3, h4, h5⟩ := kds_show (ks := r) (n := n) fun y hy => h y (List.mem_cons_of_mem _ hy)
    have hk := h k List.mem_cons_self
    obtain ⟨g1, g2⟩ := Kd.show_ok k
    obtain ⟨g3, g4⟩ := Kd.lay hk
    have g5 := Kd.shown_len hk
    refine ⟨?_, ?_, ?_, ?_, ?_⟩
    · simp [PyData.showableAll, g1, h1]
    · simp [PyData.hasDictAll, g2, h2]
    · simp only [List.map_cons, PyData.depthAll]
      omega
    · have e : (r.length + 1) * (300 * 2 ^ n) = r.length * (300 * 2 ^ n) + 300 * 2 ^ n := Nat.succ_mul ..
      simp only [List.map_cons, PyData.shownAll, List.sum_cons, List.length_cons]
      rw [e]
      generalize r.length * (300 * 2 ^ n) = z at h4 ⊢
      omega
    · simp [PyData.shownAll, h5]
/-- [patterns, kinds] -/
def twoD (ps ks : List Kd) : PyData := .list [.list (ps.map Kd.dat), .list (ks.map Kd.dat)]
theorem twoD_show {ps ks : List Kd} (hp : ∀ k ∈ ps, k.fit 12) (hk : ∀ k ∈ ks, k.fit 12) (lp : ps.length ≤ 4) (lk : ks.length ≤ 4) :
    (twoD ps ks).showable = true ∧ (twoD ps ks).hasDict = false ∧ (twoD ps ks).depth ≤ 60 ∧ (twoD ps ks).shown.length ≤ sizeLine := by
  obtain ⟨a1, a2, a3, a4, a5⟩ := kds_show hp
  obtain ⟨b1, b2, b3, b4, b5⟩ := kds_show hk
  refine ⟨?_, ?_, ?_, ?_⟩
  · simp [twoD, PyData.showable, PyData.showableAll, a1, b1]
  · simp [twoD, PyData.hasDict, PyData.hasDictAll, a2, b2]
  · simp only [twoD, PyData.depth, PyData.depthAll]
    omega
  · have h := listText_len_le [listText (PyData.shownAll (ps.map Kd.dat)), listText (PyData.shownAll (ks.map Kd.dat))]
    have h1 := listText_len_le (PyData.shownAll (ps.map Kd.dat))
    have h2 := listText_len_le (PyData.shownAll (ks.map Kd.dat))
    have c1 : ps.length * (300 * 2 ^ 12) ≤ 4 * (300 * 2 ^ 12) := Nat.mul_le_mul_right _ lp
    have c2 : ks.length * (300 * 2 ^ 12) ≤ 4 * (300 * 2 ^ 12) := Nat.mul_le_mul_right _ lk
    simp only [List.map_cons, List.map_nil, List.sum_cons, List.sum_nil, List.length_cons, List.length_nil] at h
    simp only [twoD, PyData.shown, PyData.shownAll]
    have e := sizeLine_eq
    rw [e]
    omega
end L3

set_option maxHeartbeats 4000000
/-! values of any kind: none, bools, ints, texts, lists, tuples, dicts; literals; repr -/
namespace L3
open PySem PySem.Spec PyProof.Rows L2
mutual
/-- v is d; t is where the tape stands -/
inductive Da (t : Addr) (H : Hp) : V → PyData → Prop
  | non : Da t H .non .none
  | bl (b : Bool) : Da t H (.bl b) (.bool b)
  | int (i : Int) : Da t H (.int i) (.int i)
  | str (x : Str) : Da t H (.str x) (.str x)
  | lst {a : Addr} {xs : List V} {ds : List PyData} : H a = some (.lst xs) → a ≠ sysModules → DaAll t H xs ds → Da t H (.ref a) (.list ds)
  | tup {a : Addr} {xs : List V} {ds : List PyData} : H a = some (.tup xs) → DaAll t H xs ds → Da t H (.ref a) (.tuple ds)
  | dct {a : Addr} {kvs : List (Key × V)} {ds : List (PyData × PyData)} : H a = some (.dK kvs) → a ≠ t → DaKv t H kvs ds → Da t H (.ref a) (.dict ds)
inductive DaAll (t : Addr) (H : Hp) : List V → List PyData → Prop
  | nil : DaAll t H [] []
  | cons {v : V} {vs : List V} {d : PyData} {ds : List PyData} : Da t H v d → DaAll t H vs ds → DaAll t H (v :: vs) (d :: ds)
inductive DaKv (t : Addr) (H : Hp) : List (Key × V) → List (PyData × PyData) → Prop
  | nil : DaKv t H [] []
  | cons {x : Str} {v : V} {vs : List (Key × V)} {d : PyData} {ds : List (PyData × PyData)} : Da t H v d → DaKv t H vs ds → DaKv t H ((.inr x, v) :: vs) ((.str x, d) :: ds)
end
/-- what a change of the heap has to keep -/
structure Kp (t : Addr) (H H' : Hp) : Prop where
  l : ∀ a xs, H a = some (.lst xs) → H' a = some (.lst xs)
  u : ∀ a xs, H a = some (.tup xs) → H' a = some (.tup xs)
  d : ∀ a kvs, a ≠ t → H a = some (.dK kvs) → H' a = some (.dK kvs)
mutual
theorem Da.kp {t : Addr} {H H' : Hp} (e : Kp t H H') : ∀ {d : PyData} {v : V}, Da t H v d → Da t H' v d
  | .none, _, h => by cases h; exact .non
  | .bool b, _, h => by cases h; exact .bl b
  | .int i, _, h => by cases h; exact .int i
  | .str x, _, h => by cases h; exact .str x
  | .list ds, _, h => by
    cases h with
    | lst h1 h2 h3 => exact .lst (e.l _ _ h1) h2 (DaAll.kp e h3)
  | .tuple ds, _, h => by
    cases h with
    | tup h1 h3 => exact .tup (e.u _ _ h1) (DaAll.kp e h3)
  | .dict ds, _, h => by
    cases h with
    | dct h1 h2 h3 => exact .dct (e.d _ _ h2 h1) h2 (DaKv.kp e h3)
theorem DaAll.kp {t : Addr} {H H' : Hp} (e : Kp t H H') : ∀ {ds : List PyData} {vs : List V}, DaAll t H vs ds → DaAll t H' vs ds
  | [], _, h => by cases h; exact .nil
  | d :: ds, _, h => by
    cases h with
    | cons h1 h2 => exact .cons (Da.kp e h1) (DaAll.kp e h2)
theorem DaKv.kp {t : Addr} {H H' : Hp} (e : Kp t H H') : ∀ {ds : List (PyData × PyData)} {vs : List (Key × V)}, DaKv t H vs ds → DaKv t H' vs ds
  | [], _, h => by cases h; exact .nil
  | d :: ds, _, h => by
    cases h with
    | cons h1 h2 => exact .cons (Da.kp e h1) (DaKv.kp e h2)
end
theorem kp_same {t : Addr} {H H' : Hp} (e : Same H H') : Kp t H H' := ⟨fun _ _ h => e _ _ h, fun _ _ h => e _ _ h, fun _ _ _ h => e _ _ h⟩
theorem DaAll.len {t : Addr} {H : Hp} : ∀ {vs : List V} {ds : List PyData}, DaAll t H vs ds → vs.length = ds.length
  | _, [], h => by cases h; rfl
  | _, d :: ds, h => by
    cases h with
    | cons _ h => rw [List.length_cons, List.length_cons, DaAll.len h]
theorem DaAll.app {t : Addr} {H : Hp} : ∀ {vs ws : List V} {ds es : List PyData}, DaAll t H vs ds → DaAll t H ws es → DaAll t H (vs ++ ws) (ds ++ es)
  | _, _, [], _, h, g => by cases h; exact g
  | _, _, d :: ds, _, h, g => by
    cases h with
    | cons h1 h2 => exact .cons h1 (DaAll.app h2 g)
theorem DaAll.mem {t : Addr} {H : Hp} {v : V} : ∀ {vs : List V} {ds : List PyData}, DaAll t H vs ds → v ∈ vs → ∃ d ∈ ds, Da t H v d
  | _, [], h, hv => by cases h; cases hv
  | _, d :: ds, h, hv => by
    cases h with
    | cons h1 h2 =>
      rcases List.mem_cons.mp hv with e | hv
      · exact ⟨d, List.mem_cons_self, by rw [e]; exact h1⟩
      · obtain ⟨d', m, q⟩ := DaAll.mem h2 hv
        exact ⟨d', List.mem_cons_of_mem _ m, q⟩
/-! ### read by the library -/
section
variable {X : Cx} {pins : List (Addr × Obj)} {σ : L2.St} {H : Hp} {s : Shared} {t : Addr}
theorem kv_keys {knd : KeyKind X.prog X.w Key} (hk : knd.is = keyIs) : ∀ {kvs : List (Key × V)} {ds : List (PyData × PyData)} {es : List DictEntry} {vs : List (Key × Value)}, DaKv t H kvs ds → KV kvs vs → Pairs knd es vs → ReadsAll s.heap (es.map (·.key)) (ds.map (·.1)) []
  | _, [], _, _, h, h2, h3 => by
    cases h
    cases h2
    cases h3
    exact ReadsAll.nil
  | _, (q, d) :: ds, [], _, h, h2, h3 => by
    cases h3
    cases h2
    cases h
  | _, (q, d) :: ds, e :: es, _, h, h2, h3 => by
    cases h with
    | @cons x v vs d' ds' g1 g2 =>
      cases h2 with
      | cons e2 t2 =>
        cases h3 with
        | cons p1 p2 t3 =>
          obtain ⟨e2, _⟩ := e2
          rw [hk] at p1
          have h1' : keyIs _ e.key = true := p1
          rw [← e2] at h1'
          obtain ⟨tk, ht⟩ := Value.isStrOf_shape (x := x) (v := e.key) h1'
          have ih := kv_keys hk g2 t2 t3
          show ReadsAll s.heap (e.key :: es.map (·.key)) (PyData.str x :: _) []
          rw [ht]
          exact ReadsAll.cons (as := []) (bs := []) (Reads.str _ _) ih
mutual
theorem Da.reads (I : Inv X pins σ H s) : ∀ (d : PyData) (v : V) (u : Value), Da t H v d → RelV v u → ∃ as, Reads s.heap u d as ∧ sysModules ∉ as
  | .none, _, _, h, r => by
    cases h
    cases r
    exact ⟨_, Reads.none, List.not_mem_nil⟩
  | .bool b, _, _, h, r => by
    cases h
    cases r
    exact ⟨_, Reads.bool b, List.not_mem_nil⟩
  | .int i, _, _, h, r => by
    cases h
    obtain ⟨k, rfl⟩ := r
    exact ⟨_, Reads.int i k, List.not_mem_nil⟩
  | .str x, _, _, h, r => by
    cases h
    obtain ⟨k, rfl⟩ := r
    exact ⟨_, Reads.str x k, List.not_mem_nil⟩
  | .list ds, _, u, h, r => by
    cases h with
    | @lst a xs _ hs ns ha =>
      obtain rfl : u = Value.ref a := r
      obtain ⟨its, rv, ⟨o, n, ho, hc, _, hd⟩, _⟩ := I.list (SqL.of hs)
      obtain ⟨as, hr, q⟩ := Da.readsAll I ds _ its ha rv
      exact ⟨_, Reads.list ho hc hd hr, fun z => (List.mem_cons.mp z).elim (fun e => ns e.symm) q⟩
  | .tuple ds, _, u, h, r => by
    cases h with
    | @tup a xs _ hs ha =>
      obtain rfl : u = Value.ref a := r
      obtain ⟨its, rv, ⟨o, ho, hc, n, hd⟩, _⟩ := I.tuple (SqT.of hs)
      obtain ⟨as, hr, q⟩ := Da.readsAll I ds _ its ha rv
      exact ⟨_, Reads.tuple ho hc hd hr, q⟩
  | .dict ds, _, u, h, r => by
    cases h with
    | @dct a kvs _ hs na ha =>
      obtain rfl : u = Value.ref a := r
      obtain ⟨_, lo, vs, ra, da⟩ := (show ObjOk X.prog X.w H s.heap a (.dK kvs) from I.hok a _ hs)
      obtain ⟨ep, o, es, ho, hx, hdat, _, pr, _⟩ := da.dictAt
      obtain ⟨bs, hr, q⟩ := Da.readsKv I ds kvs _ vs ha ra pr
      refine ⟨_, Reads.dict (as := []) ho hx.1 hdat (kv_keys rfl ha ra pr) hr, fun z => ?_⟩
      rcases List.mem_append.mp z with e | e
      · have e := List.mem_singleton.mp e
        rw [← e] at lo
        simp at lo
      · exact q e
theorem Da.readsAll (I : Inv X pins σ H s) : ∀ (ds : List PyData) (vs : List V) (us : List Value), DaAll t H vs ds → Vals vs us → ∃ as, ReadsAll s.heap us ds as ∧ sysModules ∉ as
  | [], _, _, h, r => by
    cases h
    cases r
    exact ⟨_, ReadsAll.nil, List.not_mem_nil⟩
  | d :: ds, _, _, h, r => by
    cases h with
    | cons h1 h2 =>
      cases r with
      | cons r1 r2 =>
        obtain ⟨as, q1, n1⟩ := Da.reads I d _ _ h1 r1
        obtain ⟨bs, q2, n2⟩ := Da.readsAll I ds _ _ h2 r2
        exact ⟨_, ReadsAll.cons q1 q2, fun z => (List.mem_append.mp z).elim n1 n2⟩
theorem Da.readsKv (I : Inv X pins σ H s) {knd : KeyKind X.prog X.w Key} : ∀ (ds : List (PyData × PyData)) (kvs : List (Key × V)) (es : List DictEntry) (vs : List (Key × Value)), DaKv t H kvs ds → KV kvs vs → Pairs knd es vs → ∃ as, ReadsAll s.heap (es.map (·.val)) (ds.map (·.2)) as ∧ sysModules ∉ as
  | [], _, _, _, h, h2, h3 => by
    cases h
    cases h2
    cases h3
    exact ⟨_, ReadsAll.nil, List.not_mem_nil⟩
  | (q, d) :: ds, _, [], _, h, h2, h3 => by
    cases h3
    cases h2
    cases h
  | (q, d) :: ds, _, e :: es', _, h, h2, h3 => by
    cases h with
    | @cons x v vs d' ds' g1 g2 =>
      cases h2 with
      | cons e2 t2 =>
        cases h3 with
        | cons p1 p2 t3 =>
          obtain ⟨_, r⟩ := e2
          obtain ⟨as, q1, n1⟩ := Da.reads I d _ _ g1 r
          obtain ⟨bs, q2, n2⟩ := Da.readsKv I ds _ es' _ g2 t2 t3
          have h2' : e.val = _ := p2
          refine ⟨_, ?_, fun z => (List.mem_append.mp z).elim n1 n2⟩
          show ReadsAll s.heap (e.val :: es'.map (·.val)) (d :: _) _
          rw [h2']
          exact ReadsAll.cons q1 q2
end
/-- repr of a list, a tuple or a dict of such values -/
def rReprA (t : Addr) : List V → Hp → VK → Prop := fun xs H Q => ∃ (a : Addr) (d : PyData), xs = [.ref a] ∧ Da t H (.ref a) d ∧ d.showable = true ∧ d.depth ≤ 60 ∧ d.shown.length ≤ sizeLine ∧ Q (.str d.shown) H
theorem call_reprA (t : Addr) (hg : X.A.guards = some []) (hu : X.A.units + 64 < cLine) : CallR X (.builtin "repr") (rReprA t) := by
  intro pins s σ H xs us Q I r h
  obtain ⟨a, d, rfl, hd, hs, hdep, hsz, q⟩ := h
  obtain ⟨u, rfl, rx⟩ := vals1 r
  obtain rfl : u = Value.ref a := rx
  obtain ⟨as, hr, n⟩ := Da.reads I d _ _ hd (show RelV (.ref a) (.ref a) from rfl)
  exact repr_of_reads' hr hs (fun _ => n) hg (by omega) (fun _ _ e => e) (fun h' u tk hk => ⟨.str d.shown, H, I.kept (t' := tk) hk, ⟨u, rfl⟩, q⟩) hsz
end
/-! ### literals -/
section
variable {X : Cx} {e : Expr} {es : List Expr} {pos : Pos} {t : Addr}
theorem _root_.L2.PE.weak {te te' : TE} (h : PE X e te) (m : ∀ σ H Q, te' σ H Q → te σ H Q) : PE X e te' := ⟨fun pins s σ H Q I q => h.run pins s σ H Q I (m σ H Q q)⟩
theorem _root_.L2.PA.weak {te te' : TA} (h : PA X es te) (m : ∀ σ H Q, te' σ H Q → te σ H Q) : PA X es te' := ⟨fun pos pins s σ H Q I q => h.run pos pins s σ H Q I (m σ H Q q)⟩
/-- a value that is d, all else is kept -/
def tLit (t : Addr) (d : PyData) : TE := fun _ H Q => (∃ o, H t = some o) ∧ ∀ H' v, Same H H' → Da t H' v d → Q v H'
def tLits (t : Addr) (ds : List PyData) : TA := fun _ H Q => (∃ o, H t = some o) ∧ ∀ H' vs, Same H H' → DaAll t H' vs ds → Q vs H'
/-- a new list of such values -/
def tLitL (t : Addr) (ds : List PyData) : TE := fun _ H Q => (∃ o, H t = some o) ∧ ∀ H' l vs, Same H H' → l ≠ sysModules → H' l = some (.lst vs) → DaAll t H' vs ds → Q (.ref l) H'
theorem pl_nil : PA X [] (tLits t []) := pa_nil.weak fun σ H Q h => h.2 H [] (Same.refl H) .nil
theorem pl_cons {d : PyData} {ds : List PyData} (ha : PE X e (tLit t d)) (hr : PA X es (tLits t ds)) (hs : starEach (e :: es) X.env = (false, eval e X.env) :: starEach es X.env := by rfl) : PA X (e :: es) (tLits t (d :: ds)) :=
  (pa_cons ha hr hs).weak fun σ H Q ⟨⟨o, ho⟩, h⟩ => ⟨⟨o, ho⟩, fun H1 v s1 d1 => ⟨⟨o, s1 _ _ ho⟩, fun H2 vs s2 d2 => h H2 (v :: vs) (s1.trans s2) (.cons (d1.kp (kp_same s2)) d2)⟩⟩
theorem pl_tup {x1} {ds : List PyData} (h : PA X es (tLits t ds)) (hz : ds.length ≤ 1000 := by decide) : PE X (.Tuple es x1 pos) (tLit t (.tuple ds)) :=
  (pe_tup h).weak fun σ H Q ⟨⟨o, ho⟩, h⟩ => ⟨⟨o, ho⟩, fun H1 vs s1 d1 => ⟨by rw [d1.len, sizeLine_eq]; omega, fun p hp => h _ _ (s1.trans (same_new hp)) (.tup upd_same (d1.kp (kp_same (same_new hp))))⟩⟩
theorem pl_lstL {ds : List PyData} (h : PA X es (tLits t ds)) (hz : ds.length ≤ 1000 := by decide) : PE X (.List es pos) (tLitL t ds) := by
  refine ⟨fun pins s σ H Q I hq => ?_⟩
  obtain ⟨ho, hq⟩ := hq
  refine wpAny_List_spliced (thn (h.run pos pins s σ H (fun vs H1 => Same H H1 ∧ DaAll t H1 vs ds) I ⟨ho, fun H1 vs s1 d1 => ⟨s1, d1⟩⟩) fun us s1 ⟨xs, H1, I1, r, sm, dd⟩ => ⟨by rw [← r.length, dd.len, sizeLine_eq]; omega, ?_⟩)
  have hf : H1 s1.heap.objs.size = none := I1.hok.fresh (Nat.le_refl _)
  refine ⟨.ref s1.heap.objs.size, upd H1 s1.heap.objs.size (.lst xs), I1.laid (t' := s1.toks) (fun b u e => Heap.get?_push_of_some _ e) (Nat.le_refl _) ?_, rfl, hq _ _ xs (sm.trans (same_new hf)) (Nat.ne_of_gt I1.big) upd_same (dd.kp (kp_same (same_new hf)))⟩
  exact ⟨by rw [dd.len, sizeLine_eq]; omega, us, 0, r, Heap.get?_push_size _ rfl⟩
theorem pl_lst {ds : List PyData} (h : PA X es (tLits t ds)) (hz : ds.length ≤ 1000 := by decide) : PE X (.List es pos) (tLit t (.list ds)) :=
  (pl_lstL h hz).weak fun σ H Q ⟨ho, h⟩ => ⟨ho, fun H1 l vs s1 n1 g1 d1 => h _ _ s1 (.lst g1 n1 d1)⟩
theorem pl_c {x : V} {d : PyData} (h : PE X e (tC x)) (m : ∀ H, Da t H x d) : PE X e (tLit t d) := h.weak fun σ H Q ⟨_, h⟩ => h H x (Same.refl H) (m H)
theorem pl_d0 : PE X (.Dict [] [] pos) (tLit t (.dict [])) :=
  pe_dnewK.weak fun σ H Q ⟨⟨o, ho⟩, h⟩ p hp => h _ _ (same_new hp) (.dct upd_same (fun e => by rw [e, ho] at hp; cases hp) .nil)
theorem pl_neg {i : Int} (h : PE X e (tC (.int i))) : PE X (.UnaryOp .USub e pos) (tLit t (.int (-i))) :=
  (pe_un un_neg h).weak fun σ H Q ⟨_, q⟩ => ⟨_, rfl, q H _ (Same.refl H) (.int _)⟩
theorem pl_pow {e2 : Expr} {i j : Int} (h : PE X e (tC (.int i))) (h2 : PE X e2 (tC (.int j))) (hc : CPow i j := by decide) : PE X (.BinOp e .Pow e2 pos) (tLit t (.int (i ^ j.toNat))) :=
  (pe_op op_pow h h2).weak fun σ H Q ⟨_, q⟩ => ⟨_, _, rfl, rfl, hc, q H _ (Same.refl H) (.int _)⟩
theorem pl_d1 {x : Str} {i : Int} {p1 p2 : Pos} {k1 k2} : PE X (.Dict [some (.Constant (.str x) k1 p1)] [.Constant (.int i) k2 p2] pos) (tLit t (.dict [(.str x, .int i)])) :=
  (pe_disp (pps_cons pe_str pe_int pps_nil) (by rfl) (by rfl) (fun z => by cases z) (by show 1 ≤ 15; decide)).weak fun σ H Q ⟨⟨o, ho⟩, h⟩ p hp => ⟨upd_same, [(.inr x, .int i)], rfl, by show 1 ≤ 15; decide, h _ _ (fun b o' e => by
    rw [upd_ne (ne_of_none e hp), upd_ne (ne_of_none e hp)]
    exact e) (.dct upd_same (fun e => by rw [e, ho] at hp; cases hp) (.cons (.int i) .nil))⟩
end
end L3

namespace L3
open PySem L2
section
variable {P : Program} {w : World} {K : PySem.W.Frag} {mg : Str → Option Value} {base : Heap}
abbrev s__law_odd : Stmt := topS 17
abbrev N__law_odd : List Str := ["_law_tape", "_law_some"]
theorem sc__law_odd : FnScope N__law_odd ["_law_tape"] (defScope s__law_odd) := ⟨rfl, rfl, rfl, by decide +kernel, rfl, by decide +kernel, by decide +kernel⟩
def oddA : List PyData := [.none, .bool true, .bool false, .int 0, .int 1, .int (-1), .int 7, .int (10 ^ 40), .str "", .str "a", .str "self", .str "data", .str "A", .str "a b", .str "whole", .tuple [], .list [], .dict [], .tuple [.str "a"]]
def oddB : List PyData := [.list [.str "a"], .tuple [.int 0], .tuple [.int 1, .int 2], .list [.int 0], .tuple [.tuple [.str "a"]], .dict [(.str "a", .int 1)], .tuple [.str "var", .str "a"], .tuple [.str "con", .str "whole"], .tuple [.str "name", .str "a"], .tuple [.none]]
def oddC : List PyData := [.tuple [.str "apply", .tuple [.str "con", .str "to"]], .tuple [.str "var", .int 1], .str "abcdefghi", .tuple [.int 1, .int 1], .tuple [.str "whole", .bool true], .list [.tuple []], .int 3, .tuple [.str "same", .tuple []]]
def oddD : List PyData := [.tuple [.str "given", .int 0, .tuple []], .tuple [.str "case", .str "a", .tuple []], .tuple [.str "whole", .int 1], .tuple [.str "hole"], .tuple [.str "definition", .str "a"], .dict []]
def odds : List PyData := oddA ++ oddB ++ oddC ++ oddD
theorem kp_ext {K : PySem.W.Frag} {t c : Addr} {b : Nat} {H H' : Hp} (e : Ext t H H') (T : Tape K H t c b) : Kp t H H' := by
  obtain ⟨_, _, _, h, _⟩ := T
  exact ⟨fun a xs g => e a _ (fun z => by rw [z, h] at g; cases g) g, fun a xs g => e a _ (fun z => by rw [z, h] at g; cases g) g, fun a kvs n g => e a _ n g⟩
def spOdd (K : PySem.W.Frag) : Sp := fun vs H Q _ => ∃ (t c : Addr) (b : Nat), vs = [.ref t] ∧ Tape K H t c (b + 1) ∧ ∀ (H' : Hp) (v : V) (d : PyData), Ext t H H' → Tape K H' t c b → Da t H' v d → d ∈ odds → Q v H'
theorem ok_odd {f : Addr} {fd : FuncData} (F : Fun K "_law_odd" "_law_odd" s__law_odd f fd) (D__law_pick : Kn P w K mg base 2 "_law_pick" ["_law_tape", "_law_items"] (spPick K)) : FnOk P w K mg base CX0 3 f fd ["_law_tape"] (spOdd K) := by
  refine F.ok sc__law_odd (fun vs H Q E h => ?_) (fun cdv A outer s H vs Q E hr h => ?_)
  · obtain ⟨t, c, b, rfl, _⟩ := h
    rfl
  · obtain ⟨t, c, b, rfl, T, k⟩ := h
    have hr__law_pick : Room 2 _ := hr
    refine ⟨_, (pss_cons (ps_set (i := 1) sc__law_odd.nd rfl (Or.inl rfl) (pl_lstL (t := t) (pl_cons (pl_c pe_non fun _ => .non) (pl_cons (pl_c pe_bl fun _ => .bl _) (pl_cons (pl_c pe_bl fun _ => .bl _) (pl_cons (pl_c pe_int fun _ => .int _) (pl_cons (pl_c pe_int fun _ => .int _) (pl_cons (pl_neg pe_int) (pl_cons (pl_c pe_int fun _ => .int _) (pl_cons (pl_pow pe_int pe_int ⟨by decide, by decide, by decide⟩) (pl_cons (pl_c pe_str fun _ => .str _) (pl_cons (pl_c pe_str fun _ => .str _) (pl_cons (pl_c pe_str fun _ => .str _) (pl_cons (pl_c pe_str fun _ => .str _) (pl_cons (pl_c pe_str fun _ => .str _) (pl_cons (pl_c pe_str fun _ => .str _) (pl_cons (pl_c pe_str fun _ => .str _) (pl_cons (pl_tup pl_nil) (pl_cons (pl_lst pl_nil) (pl_cons pl_d0 (pl_cons (pl_tup (pl_cons (pl_c pe_str fun _ => .str _) pl_nil)) pl_nil)))))))))))))))))))))
  (pss_cons (ps_set (i := 1) sc__law_odd.nd rfl (Or.inl rfl) (pe_op op_cat (pv 1) (pl_lstL (t := t) (pl_cons (pl_lst (pl_cons (pl_c pe_str fun _ => .str _) pl_nil)) (pl_cons (pl_tup (pl_cons (pl_c pe_int fun _ => .int _) pl_nil)) (pl_cons (pl_tup (pl_cons (pl_c pe_int fun _ => .int _) (pl_cons (pl_c pe_int fun _ => .int _) pl_nil))) (pl_cons (pl_lst (pl_cons (pl_c pe_int fun _ => .int _) pl_nil)) (pl_cons (pl_tup (pl_cons (pl_tup (pl_cons (pl_c pe_str fun _ => .str _) pl_nil)) pl_nil)) (pl_cons pl_d1 (pl_cons (pl_tup (pl_cons (pl_c pe_str fun _ => .str _) (pl_cons (pl_c pe_str fun _ => .str _) pl_nil))) (pl_cons (pl_tup (pl_cons (pl_c pe_str fun _ => .str _) (pl_cons (pl_c pe_str fun _ => .str _) pl_nil))) (pl_cons (pl_tup (pl_cons (pl_c pe_str fun _ => .str _) (pl_cons (pl_c pe_str fun _ => .str _) pl_nil))) (pl_cons (pl_tup (pl_cons (pl_c pe_non fun _ => .non) pl_nil)) pl_nil)))))))))))))
  (pss_cons (ps_set (i := 1) sc__law_odd.nd rfl (Or.inl rfl) (pe_op op_cat (pv 1) (pl_lstL (t := t) (pl_cons (pl_tup (pl_cons (pl_c pe_str fun _ => .str _) (pl_cons (pl_tup (pl_cons (pl_c pe_str fun _ => .str _) (pl_cons (pl_c pe_str fun _ => .str _) pl_nil))) pl_nil))) (pl_cons (pl_tup (pl_cons (pl_c pe_str fun _ => .str _) (pl_cons (pl_c pe_int fun _ => .int _) pl_nil))) (pl_cons (pl_c pe_str fun _ => .str _) (pl_cons (pl_tup (pl_cons (pl_c pe_int fun _ => .int _) (pl_cons (pl_c pe_int fun _ => .int _) pl_nil))) (pl_cons (pl_tup (pl_cons (pl_c pe_str fun _ => .str _) (pl_cons (pl_c pe_bl fun _ => .bl _) pl_nil))) (pl_cons (pl_lst (pl_cons (pl_tup pl_nil) pl_nil)) (pl_cons (pl_c pe_int fun _ => .int _) (pl_cons (pl_tup (pl_cons (pl_c pe_str fun _ => .str _) (pl_cons (pl_tup pl_nil) pl_nil))) pl_nil)))))))))))
  (pss_one (ps_ret (pe_kn D__law_pick hr__law_pick (pa_cons (pv 0) (pa_cons (pe_op op_cat (pv 1) (pl_lstL (t := t) (pl_cons (pl_tup (pl_cons (pl_c pe_str fun _ => .str _) (pl_cons (pl_c pe_int fun _ => .int _) (pl_cons (pl_tup pl_nil) pl_nil)))) (pl_cons (pl_tup (pl_cons (pl_c pe_str fun _ => .str _) (pl_cons (pl_c pe_str fun _ => .str _) (pl_cons (pl_tup pl_nil) pl_nil)))) (pl_cons (pl_tup (pl_cons (pl_c pe_str fun _ => .str _) (pl_cons (pl_c pe_int fun _ => .int _) pl_nil))) (pl_cons (pl_tup (pl_cons (pl_c pe_str fun _ => .str _) pl_nil)) (pl_cons (pl_tup (pl_cons (pl_c pe_str fun _ => .str _) (pl_cons (pl_c pe_str fun _ => .str _) pl_nil))) (pl_cons pl_d0 pl_nil)))))))) pa_nil)))))))), ?_⟩
    have hT : ∀ {H' : Hp}, Tape K H' t c (b + 1) → ∃ o, H' t = some o := fun T => by
      obtain ⟨_, _, _, h, _⟩ := T
      exact ⟨_, h⟩
    refine ⟨hT T, fun H1 l1 vs1 s1 n1 g1 d1 => ?_⟩
    have T1 := T.same s1
    refine ⟨_, rfl, hT T1, fun H2 l2 vs2 s2 n2 g2 d2 => ?_⟩
    refine ⟨l1, l2, vs1, vs2, rfl, rfl, s2 _ _ g1, g2, by rw [d1.len, d2.len, sizeLine_eq]; decide, fun p hp => ?_⟩
    have s3 := same_new (o := .lst (vs1 ++ vs2)) hp
    have d12 : DaAll t (upd H2 p (.lst (vs1 ++ vs2))) (vs1 ++ vs2) (oddA ++ oddB) := (DaAll.app (d1.kp (kp_same s2)) d2).kp (kp_same s3)
    have g3 : (upd H2 p (.lst (vs1 ++ vs2))) p = some (.lst (vs1 ++ vs2)) := upd_same
    have S3 := s1.trans (s2.trans s3)
    have T3 := T.same S3
    generalize upd H2 p (.lst (vs1 ++ vs2)) = H3 at d12 g3 S3 T3 ⊢
    refine ⟨_, rfl, hT T3, fun H4 l4 vs4 s4 n4 g4 d4 => ?_⟩
    refine ⟨p, l4, _, vs4, rfl, rfl, s4 _ _ g3, g4, by rw [d12.len, d4.len, sizeLine_eq]; decide, fun p5 hp5 => ?_⟩
    have s5 := same_new (o := .lst (vs1 ++ vs2 ++ vs4)) hp5
    have d5 : DaAll t (upd H4 p5 (.lst (vs1 ++ vs2 ++ vs4))) (vs1 ++ vs2 ++ vs4) (oddA ++ oddB ++ oddC) := (DaAll.app (d12.kp (kp_same s4)) d4).kp (kp_same s5)
    have g5 : (upd H4 p5 (.lst (vs1 ++ vs2 ++ vs4))) p5 = some (.lst (vs1 ++ vs2 ++ vs4)) := upd_same
    have S5 := S3.trans (s4.trans s5)
    have T5 := T.same S5
    generalize upd H4 p5 (.lst (vs1 ++ vs2 ++ vs4)) = H5 at d5 g5 S5 T5 ⊢
    refine ⟨_, rfl, _, rfl, hT T5, fun H6 l6 vs6 s6 n6 g6 d6 => ?_⟩
    refine ⟨p5, l6, _, vs6, rfl, rfl, s6 _ _ g5, g6, by rw [d5.len, d6.len, sizeLine_eq]; decide, fun p7 hp7 => ?_⟩
    have s7 := same_new (o := .lst (vs1 ++ vs2 ++ vs4 ++ vs6)) hp7
    have d7 : DaAll t (upd H6 p7 (.lst (vs1 ++ vs2 ++ vs4 ++ vs6))) (vs1 ++ vs2 ++ vs4 ++ vs6) odds := (DaAll.app (d5.kp (kp_same s6)) d6).kp (kp_same s7)
    have g7 : (upd H6 p7 (.lst (vs1 ++ vs2 ++ vs4 ++ vs6))) p7 = some (.lst (vs1 ++ vs2 ++ vs4 ++ vs6)) := upd_same
    have S7 := S5.trans (s6.trans s7)
    have T7 := T.same S7
    generalize upd H6 p7 (.lst (vs1 ++ vs2 ++ vs4 ++ vs6)) = H7 at d7 g7 S7 T7 ⊢
    refine ⟨t, c, p7, _, b, rfl, SqL.of g7, by rw [d7.len]; decide, by rw [d7.len]; decide, T7, fun H8 v e8 T8 hv => ?_⟩
    obtain ⟨d, hd, dv⟩ := d7.mem hv
    exact k H8 v d ((same_ext S7).trans e8) T8 (dv.kp (kp_ext e8 T7)) hd
end
end L3

/-! a value of any kind: its type; beside a text -/
namespace L3
open PySem PySem.Spec PyProof.Rows L2
open PySem.SeqAt
theorem dict_eq_declines_str (a : Addr) (es : Array DictEntry) (n : Nat) (dd : Option Addr) (sl : Array (Option Value)) (b : Str) (u : Tok) :
    Meets (Builtin.«dict.__eq__» ⟨[.ref a, .str b u], []⟩) (fun _ R s => s.heap.get? a = some { cls := .type "dict", dict := dd, data := .dict es n, slots := sl } ∧ R (.ok (.ret .notImplemented)) s) :=
  .of_wp fun prog w A R s h => by
    obtain ⟨hl, h⟩ := h
    have tA : s.TypeIs (.ref a) "dict" := ⟨_, hl, rfl⟩
    show wpAny _ _ (Builtin.Dict.dictSlotArgs "__eq__" ⟨[.ref a, .str b u], []⟩ >>= _) _ _ s
    refine wpAny_bind ?_
    unfold Builtin.Dict.dictSlotArgs
    refine wpAny_bind (wpAny_notOrdered_dict tA ?_)
    show wpAny _ _ (pure (Value.ref a, Value.str b u)) _ _ s
    refine wpAny_pure ?_
    refine wpAny_bind (wpAny_isInstance (T := "str") (typeIs_str s b u) F.sub_str_dict ?_)
    simp only [Bool.not_false, if_true]
    exact wpAny_bind (wpAny_rule (wpAny_pure ⟨_, rfl, h⟩))
theorem str_eq_declines_dict (b : Str) (u : Tok) (l : Addr) (c : Value) (es : Array DictEntry) (n : Nat) (dd : Option Addr) (sl : Array (Option Value)) :
    Meets (Builtin.«str.__eq__» ⟨[.str b u, .ref l], []⟩) (fun _ R s => s.heap.get? l = some { cls := c, dict := dd, data := .dict es n, slots := sl } ∧ R (.ok (.ret .notImplemented)) s) :=
  .of_wp fun prog w A R s h => by obtain ⟨hp, g, d, tk, os⟩ := s; obtain ⟨hl, h⟩ := h; wp_walk using wpAny_loadPart' hl, wpAny_load hl; exact ⟨_, rfl, h⟩
section
variable {A : Around} {s : Shared}
theorem rc_dict_str {l : Addr} {o : Obj} {es : Array DictEntry} {n : Nat} (b : Str) (u : Tok) (ho : s.heap.get? l = some o) (hc : o.cls = .type "dict") (hd : o.data = .dict es n) (hu : A.units < cLine) : RcAt A s (.ref l) (.str b u) false := fun prog w E Q h => by
  obtain ⟨cls, dd, data, sl⟩ := o
  simp only at hc hd
  subst hc hd
  exact rc_eq_decline_or (k := false) ⟨_, ho, rfl⟩ (typeIs_str s b u) (by decide) F.sub_str_dict F.slot_dict_eq F.slot_str_eq_refl
    (fun _ hq => call_meets F.slot_dict_eq ⟨_, ho, rfl⟩ F.entry_dict_eq (F.args_dict_eq_2 _ _) (dict_eq_declines_str l es n dd sl b u) ⟨ho, hq⟩)
    (fun _ hq => call_meets F.slot_str_eq_refl (typeIs_str s b u) F.entry_str_eq (F.args_str_eq_2 _ _) (str_eq_declines_dict b u l (.type "dict") es n dd sl) ⟨ho, hq⟩)
    (fun _ hq => wpAny_of_eq (rfl : isSame (.ref l) (.str b u) = pure false) hq) (.inr hu) h
end
/-- whether a value is this text -/
def isS (x : Str) : PyData → Bool
  | .str y => decide (y = x)
  | _ => false
def tyName : PyData → String
  | .none => "NoneType"
  | .bool _ => "bool"
  | .int _ => "int"
  | .str _ => "str"
  | .list _ => "list"
  | .tuple _ => "tuple"
  | .dict _ => "dict"
section
variable {X : Cx} {pins : List (Addr × Obj)} {σ : L2.St} {H : Hp} {s : Shared}
def rEqStr (t : Addr) : R2 := fun x y H Q => ∃ (d : PyData) (z : Str), y = .str z ∧ Da t H x d ∧ Q (.bl (isS z d)) H
theorem op_eqStr {t : Addr} (hu : X.A.units + 64 < cLine) : OpR X (compareOp .Eq) (rEqStr t) := by
  intro pins s σ H x y v u Q I rx ry h
  obtain ⟨d, z, rfl, hd, q⟩ := h
  obtain ⟨tk, rfl⟩ := (show ∃ k, u = Value.str z k from ry)
  have hu' : X.A.units < cLine := by omega
  have fin : ∀ b : Bool, b = isS z d → EP X pins σ Q (.bool b) s := fun b e => ⟨.bl b, H, I, rfl, by rw [e]; exact q⟩
  cases d with
  | none =>
    cases hd
    cases (show v = Value.none from rx)
    exact RcAt.none_str z tk _ _ _ _ (fin _ rfl)
  | bool b =>
    cases hd
    cases (show v = Value.bool b from rx)
    exact RcAt.bool_str b z tk _ _ _ _ (fin _ rfl)
  | int i =>
    cases hd
    obtain ⟨k, rfl⟩ := (show ∃ k, v = Value.int i k from rx)
    exact RcAt.int_str i k z tk _ _ _ _ (fin _ rfl)
  | str y =>
    cases hd
    obtain ⟨k, rfl⟩ := (show ∃ k, v = Value.str y k from rx)
    exact RcAt.str_str y k z tk _ _ _ _ (fin _ (str_beq y z))
  | list ds =>
    cases hd with
    | @lst a xs _ hs ns ha =>
      obtain rfl : v = Value.ref a := rx
      obtain ⟨its, rv, ⟨o, n, ho, hc, _, hd⟩, _⟩ := I.list (SqL.of hs)
      exact RcAt.list_str z tk ⟨o, ho, hc, n, hd⟩ hu' _ _ _ _ (fin _ rfl)
  | tuple ds =>
    cases hd with
    | @tup a xs _ hs ha =>
      obtain rfl : v = Value.ref a := rx
      obtain ⟨its, rv, ⟨o, ho, hc, n, hd⟩, _⟩ := I.tuple (SqT.of hs)
      exact RcAt.tuple_str z tk ⟨o, ho, hc, n, hd⟩ hu' _ _ _ _ (fin _ rfl)
  | dict ds =>
    cases hd with
    | @dct a kvs _ hs na ha =>
      obtain rfl : v = Value.ref a := rx
      obtain ⟨_, lo, vs, ra, da⟩ := (show ObjOk X.prog X.w H s.heap a (.dK kvs) from I.hok a _ hs)
      obtain ⟨ep, o, es, ho, hx, hdat, _, pr, _⟩ := da.dictAt
      exact rc_dict_str z tk ho hx.1 hdat hu' _ _ _ _ (fin _ rfl)
theorem Da.ty {K : PySem.W.Frag} {t : Addr} {v : V} {d : PyData} (h : Da t H v d) : TyX K H v (.type (tyName d)) := by
  cases d with
  | none => cases h; exact .base .non
  | bool b => cases h; exact .base (.bl b)
  | int i => cases h; exact .base (.int i)
  | str y => cases h; exact .base (.str y)
  | list ds =>
    cases h with
    | lst h1 _ _ => exact .base (.lst h1)
  | tuple ds =>
    cases h with
    | tup h1 _ => exact .base (.tup h1)
  | dict ds =>
    cases h with
    | dct h1 _ _ => exact .base (.dK h1)
def isStr : PyData → Bool
  | .str _ => true
  | _ => false
def isTup : PyData → Bool
  | .tuple _ => true
  | _ => false
theorem kit_str {K : PySem.W.Frag} (d : PyData) : PySem.W.kitOne K (.type (tyName d)) (.type "str") = some (isStr d) := by
  cases d with
  | none => exact kit_ty (show kitB "NoneType" "str" = some false by decide +kernel)
  | bool _ => exact kit_ty (show kitB "bool" "str" = some false by decide +kernel)
  | int _ => exact kit_ty (show kitB "int" "str" = some false by decide +kernel)
  | str _ => exact kit_ty (show kitB "str" "str" = some true by decide +kernel)
  | list _ => exact kit_ty (show kitB "list" "str" = some false by decide +kernel)
  | tuple _ => exact kit_ty (show kitB "tuple" "str" = some false by decide +kernel)
  | dict _ => exact kit_ty (show kitB "dict" "str" = some false by decide +kernel)
theorem kit_tup {K : PySem.W.Frag} (d : PyData) : PySem.W.kitOne K (.type (tyName d)) (.type "tuple") = some (isTup d) := by
  cases d with
  | none => exact kit_ty (show kitB "NoneType" "tuple" = some false by decide +kernel)
  | bool _ => exact kit_ty (show kitB "bool" "tuple" = some false by decide +kernel)
  | int _ => exact kit_ty (show kitB "int" "tuple" = some false by decide +kernel)
  | str _ => exact kit_ty (show kitB "str" "tuple" = some false by decide +kernel)
  | list _ => exact kit_ty (show kitB "list" "tuple" = some false by decide +kernel)
  | tuple _ => exact kit_ty (show kitB "tuple" "tuple" = some true by decide +kernel)
  | dict _ => exact kit_ty (show kitB "dict" "tuple" = some false by decide +kernel)
end
end L3

/-! names, wholes, texts among values of any kind -/
namespace L3
open PySem L2
theorem szl {n : Nat} (h : n ≤ 1000000) : n < sizeLine := Nat.lt_of_le_of_lt h (by decide)
structure Bl9 (mg : Str → Option Value) : Prop where
  isinstance : mg "isinstance" = none
  all : mg "all" = none
  str_ : mg "str" = none
  tuple : mg "tuple" = none
  bool : mg "bool" = none
  int : mg "int" = none
  ord : mg "ord" = none
  abs : mg "abs" = none
  max : mg "max" = none
def barL : List Str := ["data", "role", "case", "define", "derive", "picks", "above", "settles", "member", "as", "if", "given", "let", "and", "in", "match", "end"]
theorem pe_gc {X : Cx} {x : Str} {v : V} {pos : Pos} (hg : Gl X x) (h : ∃ u, X.mg x = some u ∧ RelV v u) (hd : (x == ("__debug__" : Str)) = false := by decide) : PE X (.Name x pos) (tC v) := by
  obtain ⟨u, e, r⟩ := h
  exact pe_glob hg e r hd
/-- a sign from a to z -/
def lo (c : Nat) : Bool := decide (97 ≤ c) && decide (c ≤ 122)
/-- 1 to 8 letters -/
def wok (x : Str) : Bool := decide (1 ≤ x.length) && decide (x.length ≤ 8) && x.cps.all lo
def isWordD : PyData → Bool
  | .str x => wok x
  | _ => false
def isNameD : PyData → Bool
  | .str x => wok x && !decide (x ∈ barL)
  | _ => false
def isIntD : PyData → Bool
  | .int _ => true
  | _ => false
def isWholeD : PyData → Bool
  | .int i => decide (-(10 ^ 30) ≤ i) && decide (i ≤ 10 ^ 30)
  | _ => false
/-- a sign that a text may have -/
def sgnT (c : Nat) : Bool := decide (32 ≤ c) && decide (c ≤ 126) && !decide (c = 37)
def isTextD : PyData → Bool
  | .str x => decide (x.length ≤ 200) && x.cps.all sgnT
  | _ => false
theorem lo_tab : ∀ c, c < 128 → (Unicode.isAlpha c && Unicode.isUpper c) = (decide (65 ≤ c) && decide (c ≤ 90)) ∧ Unicode.isAlpha c = (decide (65 ≤ c) && decide (c ≤ 90) || lo c) ∧ Unicode.isLower c = lo c ∧ (Unicode.isUpper c || Unicode.isTitle c) = (decide (65 ≤ c) && decide (c ≤ 90)) := by decide +kernel
theorem asc_low {x : Str} (h1 : 1 ≤ x.length) : (Txt.isascii x && (Txt.isalpha x && Txt.islower x)) = x.cps.all lo := by
  have hl : ∀ p : Nat → Bool, x.cps.all p = x.cps.toList.all p := fun p => (Array.all_toList).symm
  have hn : ∀ p : Nat → Bool, x.cps.any p = x.cps.toList.any p := fun p => (Array.any_toList).symm
  unfold Txt.isascii Txt.isalpha Txt.islower
  have e1 : decide (x.length > 0) = true := decide_eq_true h1
  rw [e1, hl, hl, hl, hn, hn]
  have h1 : 0 < x.cps.toList.length := by
    rw [Array.length_toList]
    exact h1
  generalize x.cps.toList = l at h1 ⊢
  rw [Bool.eq_iff_iff]
  simp only [Bool.true_and, Bool.and_eq_true, List.all_eq_true, List.any_eq_true, Bool.not_eq_true', List.any_eq_false, decide_eq_true_eq]
  constructor
  · rintro ⟨ha, hb, _, hc⟩ c m
    obtain ⟨_, t2, _, t4⟩ := lo_tab c (ha c m)
    have b := hb c m
    have u := hc c m
    rw [t4] at u
    rw [t2, Bool.or_eq_true] at b
    rcases b with b | b
    · exact absurd b u
    · exact b
  · intro h
    have small : ∀ c ∈ l, c < 128 := fun c m => by
      have := h c m
      unfold lo at this
      simp only [Bool.and_eq_true, decide_eq_true_eq] at this
      omega
    refine ⟨small, fun c m => ?_, ?_, fun c m => ?_⟩
    · rw [(lo_tab c (small c m)).2.1, h c m, Bool.or_true]
    · obtain ⟨c, m⟩ := List.exists_mem_of_length_pos h1
      exact ⟨c, m, by rw [(lo_tab c (small c m)).2.2.1]; exact h c m⟩
    · rw [(lo_tab c (small c m)).2.2.2]
      have := h c m
      unfold lo at this
      simp only [Bool.and_eq_true, decide_eq_true_eq] at this ⊢
      omega
end L3

/-! a tuple of anything beside a tuple of one text -/
namespace L3
open PySem PySem.Spec PyProof.Rows L2
open PySem.SeqAt
theorem eqAt_rc {A : Around} {s : Shared} {v : Value} {z : Str} {tk : Tok} {b : Bool} (hf : ∀ x y, v ≠ .float x y) (h : RcAt A s v (.str z tk) b) (e : v = .str z tk → b = true) : EqAt A s v (.str z tk) b := fun prog w E Q hq => by
  by_cases c : v = .str z tk
  · have eb := e c
    subst c eb
    exact EqAt.same _ prog w E Q hq
  · unfold eqBool
    refine wpAny_holding ?_
    refine wpAny_ite_split (fun hab => absurd (eq_of_beq hab) c) (fun _ => ?_)
    cases v with
    | float x y => exact absurd rfl (hf x y)
    | _ => exact wpAny_bind (h prog w E _ (wpAny_truthy_bool hq))
section
variable {X : Cx} {pins : List (Addr × Obj)} {σ : L2.St} {H : Hp} {s : Shared}
theorem rc_any_str {t : Addr} {A : Around} (I : Inv X pins σ H s) (hu' : A.units < cLine) {d : PyData} {x : V} {v : Value} {z : Str} {tk : Tok} (hd : Da t H x d) (rx : RelV x v) : RcAt A s v (.str z tk) (isS z d) ∧ (v = .str z tk → isS z d = true) ∧ (∀ x y, v ≠ .float x y) := by
  cases d with
  | none =>
    cases hd
    cases (show v = Value.none from rx)
    exact ⟨RcAt.none_str z tk, nofun, nofun⟩
  | bool b =>
    cases hd
    cases (show v = Value.bool b from rx)
    exact ⟨RcAt.bool_str b z tk, nofun, nofun⟩
  | int i =>
    cases hd
    obtain ⟨k, rfl⟩ := (show ∃ k, v = Value.int i k from rx)
    exact ⟨RcAt.int_str i k z tk, nofun, nofun⟩
  | str y =>
    cases hd
    obtain ⟨k, rfl⟩ := (show ∃ k, v = Value.str y k from rx)
    have e : isS z (.str y) = (y == z) := by
      show decide (y = z) = (y == z)
      rw [Bool.eq_iff_iff, decide_eq_true_eq, beq_iff_eq]
    rw [e]
    refine ⟨RcAt.str_str y k z tk, fun h => ?_, nofun⟩
    injection h with h _
    rw [h]
    exact beq_self_eq_true z
  | list ds =>
    cases hd with
    | @lst a xs _ hs ns ha =>
      obtain rfl : v = Value.ref a := rx
      obtain ⟨its, rv, ⟨o, n, ho, hc, _, hd⟩, _⟩ := I.list (SqL.of hs)
      exact ⟨RcAt.list_str z tk ⟨o, ho, hc, n, hd⟩ hu', nofun, nofun⟩
  | tuple ds =>
    cases hd with
    | @tup a xs _ hs ha =>
      obtain rfl : v = Value.ref a := rx
      obtain ⟨its, rv, ⟨o, ho, hc, n, hd⟩, _⟩ := I.tuple (SqT.of hs)
      exact ⟨RcAt.tuple_str z tk ⟨o, ho, hc, n, hd⟩ hu', nofun, nofun⟩
  | dict ds =>
    cases hd with
    | @dct a kvs _ hs na ha =>
      obtain rfl : v = Value.ref a := rx
      obtain ⟨_, lo, vs, ra, da⟩ := (show ObjOk X.prog X.w H s.heap a (.dK kvs) from I.hok a _ hs)
      obtain ⟨ep, o, es, ho, hx, hdat, _, pr, _⟩ := da.dictAt
      exact ⟨rc_dict_str z tk ho hx.1 hdat hu', nofun, nofun⟩
/-- one value, this text -/
def isOne (z : Str) : List PyData → Bool
  | [d] => isS z d
  | _ => false
def rEqOne (t : Addr) : R2 := fun x y H Q => ∃ (a b : Addr) (ds : List PyData) (z : Str), x = .ref a ∧ y = .ref b ∧ Da t H (.ref a) (.tuple ds) ∧ H b = some (.tup [.str z]) ∧ Q (.bl (isOne z ds)) H
theorem op_eqOne {t : Addr} (hu : X.A.units + 64 < cLine) : OpR X (compareOp .Eq) (rEqOne t) := by
  intro pins s σ H x y v u Q I rx ry h
  obtain ⟨a, b, ds, z, rfl, rfl, hd, hb, q⟩ := h
  obtain rfl : v = Value.ref a := rx
  obtain rfl : u = Value.ref b := ry
  cases hd with
  | @tup _ xs _ ha da =>
    obtain ⟨its, rv, ⟨o, ho, hc, n, hd⟩, _⟩ := I.tuple (SqT.of ha)
    obtain ⟨its2, rv2, ⟨o2, ho2, hc2, n2, hd2⟩, _⟩ := I.tuple (SqT.of hb)
    obtain ⟨u2, rfl, r2⟩ := vals1 rv2
    obtain ⟨tk, rfl⟩ := (show ∃ k, u2 = Value.str z k from r2)
    have fin : ∀ b : Bool, b = isOne z ds → EP X pins σ Q (.bool b) s := fun b e => ⟨.bl b, H, I, rfl, by rw [e]; exact q⟩
    cases da with
    | nil =>
      cases rv
      exact RcAt.tuples (e := fun _ => true) ⟨o, ho, hc, n, hd⟩ ⟨o2, ho2, hc2, n2, hd2⟩ (by omega) (fun j h1 h2 => absurd h1 (by simp)) _ _ _ _ (fin _ rfl)
    | @cons v1 vs1 d ds' q1 t1 =>
      cases rv with
      | @cons _ u1 _ us1 r1 rr =>
        obtain ⟨c1, c2, c3⟩ := rc_any_str (A := X.A.in1) (z := z) (tk := tk) I (by show X.A.units + 1 < cLine; omega) q1 r1
        refine RcAt.tuples (e := fun _ => isS z d) ⟨o, ho, hc, n, hd⟩ ⟨o2, ho2, hc2, n2, hd2⟩ (by omega) (fun j h1 h2 => ?_) _ _ _ _ (fin _ ?_)
        · obtain rfl : j = 0 := by
            have : j < 1 := h2
            omega
          exact eqAt_rc c3 c1 c2
        · have l1 := t1.len
          have l2 := rr.length
          cases t1 with
          | nil =>
            cases rr
            show (isS z d && true && true) = isS z d
            simp
          | cons _ _ =>
            cases rr
            show (_ && _) = false
            simp
end
end L3

namespace L3
open PySem L2
structure Mn (K : PySem.W.Frag) (w : World) (mg : Str → Option Value) (bA : Addr) (es : Array DictEntry) (nb : Nat) : Prop where
  LONGEST : ∃ u, mg "LONGEST" = some u ∧ RelV (.int 8) u
  BARRED : ∃ u, mg "BARRED" = some u ∧ RelV (.ref bA) u
  kd : KDict K w bA es nb
  has : ∀ z : Str, ∃ r, PySem.W.nsIn K bA z = some r ∧ r.isSome = decide (z ∈ barL)
theorem lo_abc (c : Nat) : lo c = decide (c ∈ ("abcdefghijklmnopqrstuvwxyz" : Str).cps.toList) := by
  by_cases h : c < 123
  · exact (show ∀ c, c < 123 → lo c = decide (c ∈ ("abcdefghijklmnopqrstuvwxyz" : Str).cps.toList) by decide +kernel) c h
  · have e : lo c = false := by
      unfold lo
      rw [decide_eq_false (by omega : ¬ c ≤ 122), Bool.and_false]
    rw [e, eq_comm, decide_eq_false_iff_not]
    intro m
    have := (show ∀ c ∈ ("abcdefghijklmnopqrstuvwxyz" : Str).cps.toList, c < 123 by decide +kernel) c m
    omega
theorem wok_abc (x : Str) : wok x = (decide (1 ≤ x.length) && decide (x.length ≤ 8) && x.cps.toList.all fun c => decide (c ∈ ("abcdefghijklmnopqrstuvwxyz" : Str).cps.toList)) := by
  unfold wok
  rw [← Array.all_toList, show lo = fun c => decide (c ∈ ("abcdefghijklmnopqrstuvwxyz" : Str).cps.toList) from funext lo_abc]
section
variable {P : Program} {w : World} {K : PySem.W.Frag} {mg : Str → Option Value} {base : Heap} {bA : Addr} {es : Array DictEntry} {nb : Nat}
abbrev s_is_word : Stmt := topS 3
abbrev N_is_word : List Str := ["value"]
theorem sc_is_word : FnScope N_is_word ["value"] (defScope s_is_word) := ⟨rfl, rfl, rfl, by decide +kernel, rfl, by decide +kernel, by decide +kernel⟩
def spWord : Sp := fun vs H Q _ => ∃ (t : Addr) (v : V) (d : PyData), vs = [v] ∧ Da t H v d ∧ (∀ x, d = .str x → x.length ≤ 100) ∧ ∀ H', Same H H' → Q (.bl (isWordD d)) H'
theorem ok_word {f : Addr} {fd : FuncData} (F : Fun K "is_word" "is_word" s_is_word f fd) (B : Bl mg) (B9 : Bl9 mg) (M : Mn K w mg bA es nb) : FnOk P w K mg base CX0 1 f fd ["value"] spWord := by
  refine F.ok sc_is_word (fun vs H Q E h => ?_) (fun cdv A outer s H vs Q E hr h => ?_)
  · obtain ⟨t, v, d, rfl, _⟩ := h
    rfl
  · obtain ⟨t, v, d, rfl, hd, hx, k0⟩ := h
    have k := k0 H (Same.refl H)
    refine ⟨_, (pss_cons (ps_if (PW.pt (pw_or (pt_not (pt_val (pe_callB call_isi (by rfl) B9.isinstance PyProof.Rows.boot_isinstance (pa_cons (pv 0) (pa_cons (pe_bltn (v := .ty "str") (by rfl) B9.str_ (by decide +kernel) rfl) pa_nil))))) (pw_or1 (pt_not (pt_chain op_le op_le pe_int (pe_callB call_len (by rfl) B.len PySem.boot_len (pa_cons (pv 0) pa_nil)) (pe_gc (by rfl) M.LONGEST))))))
  (pss_one (ps_ret pe_bl))
  pss_nil)
  (pss_one (ps_ret (pe_and (pe_bm0 PySem.F.plainAttrs_str PySem.F.slot_str_isascii PySem.F.type_str_isascii mt_isascii (pv 0)) (pe_and (pe_bm0 PySem.F.plainAttrs_str PySem.F.slot_str_isalpha PySem.F.type_str_isalpha mt_isalpha (pv 0)) (pe_one (pe_bm0 PySem.F.plainAttrs_str PySem.F.slot_str_islower PySem.F.type_str_islower mt_islower (pv 0)))))))), ?_⟩
    refine ⟨_, rfl, v, .ty "str", .type (tyName d), .type "str", isStr d, rfl, .ty "str", hd.ty, kit_str d, _, rfl, ?_⟩
    cases hs : isStr d with
    | false =>
      have e : isWordD d = false := by cases d <;> first | rfl | cases hs
      rw [e] at k
      refine iT rfl ?_
      exact iT rfl k
    | true =>
      obtain ⟨x, rfl⟩ : ∃ x, d = .str x := by
        cases d with
        | str x => exact ⟨x, rfl⟩
        | _ => cases hs
      cases hd
      have lx := hx x rfl
      refine iF rfl ?_
      refine ⟨_, rfl, .str x, x.length, rfl, ⟨by rw [sizeLine_eq]; omega, rfl⟩, _, _, rfl, rfl, _, rfl, ?_⟩
      by_cases h1 : (1 : Int) ≤ (x.length : Int)
      · refine iT (decide_eq_true h1) ?_
        refine ⟨_, _, rfl, rfl, _, rfl, ?_⟩
        by_cases h2 : (x.length : Int) ≤ 8
        · refine iF (by rw [decide_eq_true h2]; rfl) ?_
          have ew : isWordD (.str x) = (Txt.isascii x && (Txt.isalpha x && Txt.islower x)) := by
            rw [asc_low (by omega)]
            show wok x = _
            unfold wok
            rw [decide_eq_true (by omega : 1 ≤ x.length), decide_eq_true (by omega : x.length ≤ 8)]
            rfl
          rw [ew] at k
          refine ⟨_, rfl, rfl, x, rfl, rfl, trivial, _, rfl, ?_⟩
          cases h3 : Txt.isascii x with
          | false =>
            rw [h3] at k
            exact iF rfl k
          | true =>
            rw [h3] at k
            refine iT rfl ?_
            refine ⟨_, rfl, rfl, x, rfl, rfl, trivial, _, rfl, ?_⟩
            cases h4 : Txt.isalpha x with
            | false =>
              rw [h4] at k
              exact iF rfl k
            | true =>
              rw [h4] at k
              refine iT rfl ?_
              exact ⟨_, rfl, rfl, x, rfl, rfl, trivial, k⟩
        · refine iT (by rw [decide_eq_false h2]; rfl) ?_
          have e : isWordD (.str x) = false := by
            show wok x = false
            unfold wok
            rw [decide_eq_false (by omega : ¬ x.length ≤ 8)]
            simp
          rw [e] at k
          exact k
      · refine iF (decide_eq_false h1) ?_
        have e : isWordD (.str x) = false := by
          show wok x = false
          unfold wok
          rw [decide_eq_false (by omega : ¬ 1 ≤ x.length)]
          rfl
        rw [e] at k
        exact ⟨_, rfl, iT rfl k⟩
/-! ### names -/
abbrev s_is_name : Stmt := topS 4
abbrev N_is_name : List Str := ["value"]
theorem sc_is_name : FnScope N_is_name ["value"] (defScope s_is_name) := ⟨rfl, rfl, rfl, by decide +kernel, rfl, by decide +kernel, by decide +kernel⟩
def spName : Sp := fun vs H Q _ => ∃ (t : Addr) (v : V) (d : PyData), vs = [v] ∧ Da t H v d ∧ (∀ x, d = .str x → x.length ≤ 100) ∧ ∀ H', Same H H' → Q (.bl (isNameD d)) H'
theorem ok_name {f : Addr} {fd : FuncData} (F : Fun K "is_name" "is_name" s_is_name f fd) (M : Mn K w mg bA es nb) (D_is_word : Kn P w K mg base 1 "is_word" ["value"] spWord) : FnOk P w K mg base CX0 2 f fd ["value"] spName := by
  refine F.ok sc_is_name (fun vs H Q E h => ?_) (fun cdv A outer s H vs Q E hr h => ?_)
  · obtain ⟨t, v, d, rfl, _⟩ := h
    rfl
  · obtain ⟨t, v, d, rfl, hd, hx, k0⟩ := h
    have hr_is_word : Room 1 _ := hr
    refine ⟨_, (pss_one (ps_ret (pe_and (pe_kn D_is_word hr_is_word (pa_cons (pv 0) pa_nil)) (pe_one (pe_cmpR (op_notIn_kd M.kd) (pv 0) (pe_gc (by rfl) M.BARRED) (by rfl)))))), ?_⟩
    refine ⟨_, rfl, t, v, d, rfl, hd, hx, fun H1 s1 => ?_⟩
    have k := k0 H1 s1
    refine ⟨_, rfl, ?_⟩
    cases hw : isWordD d with
    | false =>
      have e : isNameD d = false := by
        cases d with
        | str x =>
          have hw' : wok x = false := hw
          show (wok x && _) = false
          rw [hw']
          rfl
        | _ => rfl
      rw [e] at k
      exact iF rfl k
    | true =>
      obtain ⟨x, rfl⟩ : ∃ x, d = .str x := by
        cases d with
        | str x => exact ⟨x, rfl⟩
        | _ => cases hw
      cases hd
      refine iT rfl ?_
      obtain ⟨r, er, hr2⟩ := M.has x
      refine ⟨_, rfl, x, r, rfl, rfl, er, ?_⟩
      have hw' : wok x = true := hw
      have e : isNameD (.str x) = !r.isSome := by
        show (wok x && _) = _
        rw [hw', hr2]
        rfl
      rw [e] at k
      exact k
/-! ### leaves, kinds -/
def isLeafD : List PyData → Bool
  | [a, b] => (isS "var" a || isS "con" a) && isNameD b
  | _ => false
/-- every text that is looked at is short -/
def sOk : PyData → Bool
  | .str x => decide (x.length ≤ 100)
  | _ => true
abbrev s_is_leaf : Stmt := topS 7
abbrev N_is_leaf : List Str := ["value"]
theorem sc_is_leaf : FnScope N_is_leaf ["value"] (defScope s_is_leaf) := ⟨rfl, rfl, rfl, by decide +kernel, rfl, by decide +kernel, by decide +kernel⟩
def spLeaf : Sp := fun vs H Q _ => ∃ (t : Addr) (v : V) (ds : List PyData), vs = [v] ∧ Da t H v (.tuple ds) ∧ (∀ e ∈ ds, ∀ x, e = .str x → x.length ≤ 100) ∧ ∀ H', Same H H' → Q (.bl (isLeafD ds)) H'
theorem ok_leaf {f : Addr} {fd : FuncData} (F : Fun K "is_leaf" "is_leaf" s_is_leaf f fd) (B : Bl mg) (D_is_name : Kn P w K mg base 2 "is_name" ["value"] spName) : FnOk P w K mg base CX0 3 f fd ["value"] spLeaf := by
  refine F.ok sc_is_leaf (fun vs H Q E h => ?_) (fun cdv A outer s H vs Q E hr h => ?_)
  · obtain ⟨t, v, ds, rfl, _⟩ := h
    rfl
  · obtain ⟨t, v, ds, rfl, hd, hx, k⟩ := h
    have hr_is_name : Room 2 _ := hr
    have hu64 := hr.units
    refine ⟨_, (pss_one (ps_ret (pe_and (pe_cmpR op_eq (pe_callB call_len (by rfl) B.len PySem.boot_len (pa_cons (pv 0) pa_nil)) pe_int (nomark _)) (pe_and (pe_or (pe_cmpR (op_eqStr (t := t) hu64) (pe_ix ix_tup (pv 0) pe_int (fun _ _ => rfl)) pe_str (nomark _)) (pe_one (pe_cmpR (op_eqStr (t := t) hu64) (pe_ix ix_tup (pv 0) pe_int (fun _ _ => rfl)) pe_str (nomark _)))) (pe_one (pe_kn D_is_name hr_is_name (pa_cons (pe_ix ix_tup (pv 0) pe_int (fun _ _ => rfl)) pa_nil))))))), ?_⟩
    cases hd with
    | @tup a xs _ ga da =>
      have le := da.len
      refine ⟨_, rfl, .ref a, xs.length, rfl, .inr ⟨xs, SqT.of ga, rfl⟩, ?_⟩
      refine ⟨rfl, _, rfl, ?_⟩
      by_cases h2 : ds.length = 2
      · match ds, h2, da, hx, k with
        | [d1, d2], _, da, hx, k =>
          cases da with
          | @cons v1 _ _ _ q1 t1 =>
            cases t1 with
            | @cons v2 _ _ _ q2 t2 =>
              cases t2
              refine iT rfl ?_
              have fin : ∀ c : Bool, c = (isS "var" d1 || isS "con" d1) → (c = true → ∀ H', Same H H' → Q (.bl (isNameD d2)) H') ∧ (c = false → Q (.bl false) H) := fun c e => ⟨fun z H' s' => by
                have this : Q (.bl ((isS "var" d1 || isS "con" d1) && isNameD d2)) H' := k H' s'
                rw [← e, z] at this
                exact this, fun z => by
                have this : Q (.bl ((isS "var" d1 || isS "con" d1) && isNameD d2)) H := k H (Same.refl H)
                rw [← e, z] at this
                exact this⟩
              refine ⟨_, rfl, a, _, 0, _, rfl, rfl, SqT.of ga, rfl, d1, _, rfl, q1, _, rfl, ?_⟩
              have cal := fun (z : (isS "var" d1 || isS "con" d1) = true) => (⟨_, rfl, a, _, 1, _, rfl, rfl, SqT.of ga, rfl, t, v2, d2, rfl, q2, fun x e => hx d2 (by simp) x e, (fin _ rfl).1 z⟩ : tCall spName [] E0 (tCons (tOp (rIxT K) (tVar 0) (tC (V.int 1))) tNil) [some (V.ref a)] H Q)
              cases h3 : isS "var" d1 with
              | true =>
                exact ⟨_, rfl, iT rfl (cal (by rw [h3]; rfl))⟩
              | false =>
                refine iF rfl ?_
                refine ⟨_, rfl, a, _, 0, _, rfl, rfl, SqT.of ga, rfl, d1, _, rfl, q1, _, rfl, ?_⟩
                cases h4 : isS "con" d1 with
                | true => exact iT rfl (cal (by rw [h4]; simp))
                | false => exact iF rfl ((fin _ rfl).2 (by rw [h3, h4]; rfl))
      · have e0 : isLeafD ds = false := by
          match ds, h2 with
          | [], _ => rfl
          | [_], _ => rfl
          | [_, _], h2 => exact absurd rfl h2
          | _ :: _ :: _ :: _, _ => rfl
        rw [e0] at k
        refine iF (decide_eq_false fun z => h2 (by rw [← le]; exact Int.ofNat.inj (V.int.inj z))) ?_
        exact k H (Same.refl H)
mutual
def isKindD : PyData → Bool
  | .tuple ds => isKindL ds
  | _ => false
def isKindL : List PyData → Bool
  | [h, a, b] => isS "apply" h && isKindD a && isKindD b
  | ds => isLeafD ds
end
end
end L3

set_option maxRecDepth 900000
namespace L3
open PySem L2
mutual
def psz : PyData → Nat
  | .tuple ds => 1 + pszL ds
  | _ => 1
def pszL : List PyData → Nat
  | [] => 0
  | d :: ds => psz d + pszL ds
end
mutual
/-- texts are short, all can be shown -/
def okD : PyData → Bool
  | .str x => decide (x.length ≤ 100) && PyData.strOk x
  | .tuple ds => okL ds
  | .int i => decide (i.natAbs.log2 < 1920)
  | .list ds => PyData.showableAll ds
  | .dict kvs => PyData.showableKv kvs
  | .none => true
  | .bool _ => true
def okL : List PyData → Bool
  | [] => true
  | d :: ds => okD d && okL ds
end
theorem psz_pos (d : PyData) : 1 ≤ psz d := by
  cases d <;> simp only [psz] <;> omega
theorem pszL_app : ∀ (a b : List PyData), pszL (a ++ b) = pszL a + pszL b
  | [], b => by simp [pszL]
  | d :: a, b => by simp only [List.cons_append, pszL, pszL_app a b]; omega
theorem pszL_len : ∀ (a : List PyData), a.length ≤ pszL a
  | [] => Nat.le_refl _
  | d :: a => by
    have := psz_pos d
    have := pszL_len a
    simp only [List.length_cons, pszL]
    omega
theorem okL_mem : ∀ {ds : List PyData} {d : PyData}, okL ds = true → d ∈ ds → okD d = true
  | e :: ds, d, h, hd => by
    simp only [okL, Bool.and_eq_true] at h
    rcases List.mem_cons.mp hd with rfl | hd
    · exact h.1
    · exact okL_mem h.2 hd
theorem okL_app : ∀ (a b : List PyData), okL (a ++ b) = (okL a && okL b)
  | [], b => by simp [okL]
  | d :: a, b => by simp only [List.cons_append, okL, okL_app a b, Bool.and_assoc]
theorem okD_str {x : Str} (h : okD (.str x) = true) : x.length ≤ 100 := by
  simp only [okD, Bool.and_eq_true, decide_eq_true_eq] at h
  exact h.1
theorem okD_sign {x : Str} (h : okD (.str x) = true) : PyData.strOk x = true := by
  simp only [okD, Bool.and_eq_true] at h
  exact h.2
theorem daAll_last {t : Addr} {H : Hp} {d : PyData} : ∀ {ds : List PyData} {vs : List V}, DaAll t H vs (ds ++ [d]) → ∃ vs0 v, vs = vs0 ++ [v] ∧ DaAll t H vs0 ds ∧ Da t H v d
  | [], _, h => by
    cases h with
    | cons h1 h2 =>
      cases h2
      exact ⟨[], _, rfl, .nil, h1⟩
  | e :: ds, _, h => by
    cases h with
    | cons h1 h2 =>
      obtain ⟨vs0, v, rfl, g1, g2⟩ := daAll_last (ds := ds) h2
      exact ⟨_, v, rfl, .cons h1 g1, g2⟩
theorem isKindL_three (h a b : PyData) : isKindL [h, a, b] = (isS "apply" h && isKindD a && isKindD b) := by
  simp only [isKindL]
theorem isKindL_else {ds : List PyData} (h : ds.length ≠ 3) : isKindL ds = isLeafD ds := by
  match ds, h with
  | [], _ => simp only [isKindL]
  | [_], _ => simp only [isKindL]
  | [_, _], _ => simp only [isKindL]
  | [_, _, _], h => exact absurd rfl h
  | _ :: _ :: _ :: _ :: _, _ => simp only [isKindL]
theorem isKindD_not {d : PyData} (h : isTup d = false) : isKindD d = false := by
  cases d with
  | tuple ds => cases h
  | _ => simp only [isKindD]
section
variable {P : Program} {w : World} {K : PySem.W.Frag} {mg : Str → Option Value} {base : Heap} {bA : Addr}
abbrev s_is_kind : Stmt := topS 6
abbrev N_is_kind : List Str := ["value", "waiting", "part"]
theorem sc_is_kind : FnScope N_is_kind ["value"] (defScope s_is_kind) := ⟨rfl, rfl, rfl, by decide +kernel, rfl, by decide +kernel, by decide +kernel⟩
def spKind : Sp := fun vs H Q _ => ∃ (t : Addr) (v : V) (d : PyData), vs = [v] ∧ Da t H v d ∧ okD d = true ∧ psz d ≤ 900000 ∧ ∀ H', Same H H' → Q (.bl (isKindD d)) H'
theorem ok_kind {f : Addr} {fd : FuncData} (F : Fun K "is_kind" "is_kind" s_is_kind f fd) (B : Bl mg) (B9 : Bl9 mg) (D_is_leaf : Kn P w K mg base 3 "is_leaf" ["value"] spLeaf) : FnOk P w K mg base CX0 4 f fd ["value"] spKind := by
  refine F.ok sc_is_kind (fun vs H Q E h => ?_) (fun cdv A outer s H vs Q E hr h => ?_)
  · obtain ⟨t, v, d, rfl, _⟩ := h
    rfl
  · obtain ⟨t, v, d, rfl, hd, hok, hsz, k⟩ := h
    have hr_is_leaf : Room 3 _ := hr
    have hu64 := hr.units
    refine ⟨_, (pss_cons (ps_set (i := 1) sc_is_kind.nd rfl (Or.inl rfl) (pe_lst (pa_cons (pv 0) pa_nil)))
  (pss_cons (ps_while PassesOwn.never (pt_truth (pv 1) (by intro _; rfl))
  (pss_cons (ps_set (i := 2) sc_is_kind.nd rfl (Or.inl rfl) (pe_bm0 PySem.F.plainAttrs_list PySem.F.slot_list_pop PySem.F.type_list_pop mt_pop (pv 1)))
  (pss_cons (ps_if (pt_not (pt_val (pe_callB call_isi (by rfl) B9.isinstance PyProof.Rows.boot_isinstance (pa_cons (pv 2) (pa_cons (pe_bltn (v := .ty "tuple") (by rfl) B9.tuple (by decide +kernel) rfl) pa_nil)))))
  (pss_one (ps_ret pe_bl))
  pss_nil)
  (pss_one (ps_if (PW.pt (pw_and (pt_cmpR op_eq (pe_callB call_len (by rfl) B.len PySem.boot_len (pa_cons (pv 2) pa_nil)) pe_int (nomark _)) (pw_and1 (pt_cmpR (op_eqStr (t := t) hu64) (pe_ix ix_tup (pv 2) pe_int (fun _ _ => rfl)) pe_str (nomark _)))))
  (pss_cons (ps_expr (pe_bm PySem.F.plainAttrs_list PySem.F.slot_list_append PySem.F.type_list_append mt_append (pv 1) (pa_cons (pe_ix ix_tup (pv 2) pe_int (fun _ _ => rfl)) pa_nil)))
  (pss_one (ps_expr (pe_bm PySem.F.plainAttrs_list PySem.F.slot_list_append PySem.F.type_list_append mt_append (pv 1) (pa_cons (pe_ix ix_tup (pv 2) pe_int (fun _ _ => rfl)) pa_nil)))))
  (pss_one (ps_if (pt_not (pt_val (pe_kn D_is_leaf hr_is_leaf (pa_cons (pv 2) pa_nil))))
  (pss_one (ps_ret pe_bl))
  pss_nil)))))))
  (pss_one (ps_ret pe_bl)))), ?_⟩
    refine ⟨_, rfl, slz rfl, fun lw hlw => ?_⟩
    have s1 : Same H (upd H lw (.lst [v])) := same_new hlw
    have g1 : (upd H lw (.lst [v])) lw = some (.lst [v]) := upd_same
    generalize upd H lw (.lst [v]) = H1 at s1 g1 ⊢
    refine ⟨fun m σ H' => ∃ (ds : List PyData) (vs : List V) (v3 : Option V), σ = [some v, some (.ref lw), v3] ∧ Same H H' ∧ H' lw = some (.lst vs) ∧ DaAll t H vs ds ∧ okL ds = true ∧ m = pszL ds ∧ pszL ds ≤ 900000 ∧ ds.all isKindD = isKindD d, ⟨pszL [d], [d], [v], none, rfl, s1, g1, .cons hd .nil, by simp only [okL, hok]; rfl, rfl, by simpa [pszL] using hsz, by simp⟩, ?_⟩
    rintro m σ H2 ⟨ds, vs, v3, rfl, s2, g2, da, ho, rfl, hz, hk⟩
    refine ⟨_, rfl, _, .inl ⟨vs, SqL.of g2, rfl⟩, ?_⟩
    rcases List.eq_nil_or_concat ds with rfl | ⟨ds0, d1, rfl⟩
    · cases da
      refine iteF ?_
      have e : isKindD d = true := by rw [← hk]; rfl
      rw [e] at k
      exact k H2 s2
    · rw [List.concat_eq_append] at *
      obtain ⟨vs0, v1, rfl, da0, dv⟩ := daAll_last da
      have hne : (!(vs0 ++ [v1]).isEmpty) = true := by cases vs0 <;> rfl
      refine iT hne ?_
      refine ⟨fun σ' H' => ∃ (ds : List PyData) (vs : List V) (v3 : Option V), σ' = [some v, some (.ref lw), v3] ∧ Same H H' ∧ H' lw = some (.lst vs) ∧ DaAll t H vs ds ∧ okL ds = true ∧ pszL ds < pszL (ds0 ++ [d1]) ∧ pszL ds ≤ 900000 ∧ ds.all isKindD = isKindD d, ?_, ?_⟩
      · rintro σ' H' ⟨ds, vs, v3, e1, e2, e3, e4, e5, e6, e7, e8⟩
        exact ⟨pszL ds, e6, ds, vs, v3, e1, e2, e3, e4, e5, rfl, e7, e8⟩
      · have lz : pszL (ds0 ++ [d1]) = pszL ds0 + psz d1 := by rw [pszL_app]; simp [pszL]
        have hp1 := psz_pos d1
        rw [okL_app, Bool.and_eq_true] at ho
        obtain ⟨ho0, ho1⟩ := ho
        have ho1 : okD d1 = true := okL_mem ho1 (List.mem_singleton.mpr rfl)
        rw [List.all_append] at hk
        have hk : (ds0.all isKindD && isKindD d1) = isKindD d := by rw [← hk]; simp
        have S3 : Same H (upd H2 lw (.lst vs0)) := fun b o z => by
          rw [upd_ne (ne_of_none z hlw)]
          exact s2 _ _ z
        refine ⟨_, rfl, .inl ⟨rfl, _, SqL.of g2⟩, lw, vs0 ++ [v1], v1, rfl, rfl, g2, by simp, ?_⟩
        rw [List.dropLast_concat]
        have g3 : (upd H2 lw (.lst vs0)) lw = some (.lst vs0) := upd_same
        generalize upd H2 lw (.lst vs0) = H3 at S3 g3 ⊢
        have dv3 := dv.kp (kp_same S3)
        refine ⟨_, rfl, v1, .ty "tuple", .type (tyName d1), .type "tuple", isTup d1, rfl, .ty "tuple", dv3.ty, kit_tup d1, ?_⟩
        refine ⟨_, rfl, ?_⟩
        cases ht : isTup d1 with
        | false =>
          have e : isKindD d = false := by rw [← hk, isKindD_not ht, Bool.and_false]
          rw [e] at k
          exact k H3 S3
        | true =>
          obtain ⟨es, rfl⟩ : ∃ es, d1 = .tuple es := by
            cases d1 with
            | tuple es => exact ⟨es, rfl⟩
            | _ => cases ht
          cases id dv with
          | @tup a xs _ ga0 daa0 =>
            have ga : H3 a = some (.tup xs) := S3 _ _ ga0
            have le := daa0.len
            refine iF rfl ?_
            refine ⟨_, rfl, .ref a, xs.length, rfl, .inr ⟨xs, SqT.of ga, rfl⟩, ?_⟩
            have ho2 : okL es = true := by simpa only [okD] using ho1
            have ps : psz (.tuple es) = 1 + pszL es := by simp only [psz]
            refine ⟨rfl, _, rfl, ?_⟩
            by_cases h3 : es.length = 3
            · match es, h3, daa0, ho2, dv, dv3, hk, ps, lz with
              | [d1, d2, d3], _, daa0, ho2, dv, dv3, hk, ps, lz =>
                cases daa0 with
                | @cons v1 _ _ _ q1 t1 =>
                  cases t1 with
                  | @cons v2 _ _ _ q2 t2 =>
                    cases t2 with
                    | @cons v3' _ _ _ q3 t3 =>
                      cases t3
                      refine iT rfl ?_
                      refine ⟨_, rfl, a, _, 0, _, rfl, rfl, SqT.of ga, rfl, d1, _, rfl, q1.kp (kp_same S3), _, rfl, ?_⟩
                      have e3 := isKindL_three d1 d2 d3
                      cases hap : isS "apply" d1 with
                      | false =>
                        have eL : isKindL [d1, d2, d3] = isLeafD [d1, d2, d3] := by
                          rw [e3, hap]
                          rfl
                        generalize hes : [d1, d2, d3] = es at daa0 ho2 dv dv3 hk ps lz hz eL ⊢
                        refine iF rfl ?_
                        refine ⟨_, rfl, t, .ref a, es, rfl, dv3, fun e he x ex => okD_str (by rw [← ex]; exact okL_mem ho2 he), fun H4 s4 => ⟨_, rfl, ?_⟩⟩
                        cases hlf : isLeafD es with
                        | false =>
                          have e : isKindD d = false := by
                            rw [← hk, show isKindD (.tuple es) = isKindL es by simp only [isKindD], eL, hlf, Bool.and_false]
                          rw [e] at k
                          exact k H4 (S3.trans s4)
                        | true =>
                          refine iF rfl ?_
                          exact ⟨ds0, vs0, _, rfl, S3.trans s4, s4 _ _ g3, da0, ho0, by rw [lz]; omega, by rw [lz] at hz; omega, by rw [← hk, show isKindD (.tuple es) = isKindL es by simp only [isKindD], eL, hlf, Bool.and_true]⟩
                      | true =>
                        refine iT rfl ?_
                        have lv0 : vs0.length ≤ 900000 := by
                          have := pszL_len ds0
                          rw [da0.len]
                          omega
                        refine ⟨_, rfl, .inl ⟨rfl, _, SqL.of g3⟩, _, rfl, _, _, 1, _, rfl, rfl, SqT.of ga, rfl, lw, _, _, rfl, rfl, g3, szl (by omega), ?_⟩
                        have S8 : Same H (upd H3 lw (.lst (vs0 ++ [v2]))) := fun b o zz => by
                          rw [upd_ne (ne_of_none zz hlw)]
                          exact S3 _ _ zz
                        have g8 : (upd H3 lw (.lst (vs0 ++ [v2]))) lw = some (.lst (vs0 ++ [v2])) := upd_same
                        generalize upd H3 lw (.lst (vs0 ++ [v2])) = H4 at S8 g8 ⊢
                        refine ⟨_, rfl, .inl ⟨rfl, _, SqL.of g8⟩, _, rfl, _, _, 2, _, rfl, rfl, SqT.of (S8 _ _ ga0), rfl, lw, _, _, rfl, rfl, g8, szl (by rw [List.length_append, List.length_singleton]; omega), ?_⟩
                        have pl : pszL [d1, d2, d3] = psz d1 + (psz d2 + psz d3) := by simp only [pszL]; omega
                        have hp2 := psz_pos d1
                        have ok3 : okD d2 = true ∧ okD d3 = true := ⟨okL_mem ho2 (by simp), okL_mem ho2 (by simp)⟩
                        have ln : pszL (ds0 ++ [d2] ++ [d3]) = pszL ds0 + psz d2 + psz d3 := by rw [pszL_app, pszL_app]; simp only [pszL]; omega
                        refine ⟨ds0 ++ [d2] ++ [d3], vs0 ++ [v2] ++ [v3'], _, rfl, fun b o zz => ?_, upd_same, (da0.app (.cons q2 .nil)).app (.cons q3 .nil), ?_, by rw [lz, ln, ps, pl]; omega, by rw [ln]; rw [lz, ps, pl] at hz; omega, ?_⟩
                        · rw [upd_ne (ne_of_none zz hlw)]
                          exact S8 _ _ zz
                        · rw [okL_app, okL_app, ho0]
                          simp only [okL, ok3.1, ok3.2]
                          rfl
                        · rw [← hk, show isKindD (.tuple [d1, d2, d3]) = isKindL [d1, d2, d3] by simp only [isKindD], e3, hap, List.all_append, List.all_append]
                          simp [Bool.and_assoc]
            · have eL := isKindL_else h3
              refine iF (decide_eq_false fun z => h3 (by rw [← le]; exact Int.ofNat.inj (V.int.inj z))) ?_
              refine iF rfl ?_
              refine ⟨_, rfl, t, .ref a, es, rfl, dv3, fun e he x ex => okD_str (by rw [← ex]; exact okL_mem ho2 he), fun H4 s4 => ⟨_, rfl, ?_⟩⟩
              cases hlf : isLeafD es with
              | false =>
                have e : isKindD d = false := by
                  rw [← hk, show isKindD (.tuple es) = isKindL es by simp only [isKindD], eL, hlf, Bool.and_false]
                rw [e] at k
                exact k H4 (S3.trans s4)
              | true =>
                refine iF rfl ?_
                exact ⟨ds0, vs0, _, rfl, S3.trans s4, s4 _ _ g3, da0, ho0, by rw [lz]; omega, by rw [lz] at hz; omega, by rw [← hk, show isKindD (.tuple es) = isKindL es by simp only [isKindD], eL, hlf, Bool.and_true]⟩
end
end L3

/-! the pieces of a kind's text; unlike kinds have unlike texts -/
namespace L3
open PySem L2 TL
def isFun : Kd → Bool
  | .app (.app (.con c) _) _ => decide (c = "to")
  | _ => false
def isApp : Kd → Bool
  | .app _ _ => true
  | _ => false
def atomT : Kd → Str
  | .var x => "'" ++ x
  | .con x => x
  | .app _ _ => ""
/-- rows of pieces, in groups -/
inductive Row where
  | nil
  | atom (x : Str) (r : Row)
  | grp (i : Row) (r : Row)
def Row.flat : Row → List Str
  | .nil => []
  | .atom x r => x :: r.flat
  | .grp i r => ("(" : Str) :: (i.flat ++ (")" : Str) :: r.flat)
def Row.app : Row → Row → Row
  | .nil, t => t
  | .atom x r, t => .atom x (r.app t)
  | .grp i r, t => .grp i (r.app t)
def Row.ok : Row → Prop
  | .nil => True
  | .atom x r => x ≠ "(" ∧ x ≠ ")" ∧ r.ok
  | .grp i r => i.ok ∧ r.ok
/-- no arrow but in groups -/
def Row.low : Row → Prop
  | .nil => True
  | .atom x r => x ≠ "->" ∧ r.low
  | .grp _ r => r.low
theorem Row.flat_app : ∀ (a b : Row), (a.app b).flat = a.flat ++ b.flat
  | .nil, b => rfl
  | .atom x r, b => by simp only [Row.app, Row.flat, Row.flat_app r b, List.cons_append]
  | .grp i r, b => by simp only [Row.app, Row.flat, Row.flat_app r b, List.cons_append, List.append_assoc]
theorem Row.ok_app : ∀ {a b : Row}, a.ok → b.ok → (a.app b).ok
  | .nil, b, _, h => h
  | .atom x r, b, h, g => ⟨h.1, h.2.1, Row.ok_app h.2.2 g⟩
  | .grp i r, b, h, g => ⟨h.1, Row.ok_app h.2 g⟩
theorem Row.low_app : ∀ {a b : Row}, a.low → b.low → (a.app b).low
  | .nil, b, _, h => h
  | .atom x r, b, h, g => ⟨h.1, Row.low_app h.2 g⟩
  | .grp i r, b, h, g => Row.low_app (a := r) h g
theorem Row.low_of_app : ∀ {a b : Row}, (a.app b).low → b.low
  | .nil, b, h => h
  | .atom x r, b, h => Row.low_of_app (a := r) h.2
  | .grp i r, b, h => Row.low_of_app (a := r) h
def Cls (l : List Str) : Prop := l = [] ∨ ∃ r, l = (")" : Str) :: r
theorem Row.flat_inj : ∀ {a b : Row} {r s : List Str}, a.ok → b.ok → Cls r → Cls s → a.flat ++ r = b.flat ++ s → a = b ∧ r = s
  | .nil, .nil, r, s, _, _, _, _, h => ⟨rfl, h⟩
  | .nil, .atom x b, r, s, _, hb, hr, _, h => by
    have h : r = x :: (b.flat ++ s) := h
    rcases hr with rfl | ⟨q, rfl⟩
    · cases h
    · exact absurd (List.cons.inj h).1.symm hb.2.1
  | .nil, .grp i b, r, s, _, hb, hr, _, h => by
    have h : r = ("(" : Str) :: (i.flat ++ (")" : Str) :: b.flat ++ s) := h
    rcases hr with rfl | ⟨q, rfl⟩
    · cases h
    · exact absurd (List.cons.inj h).1 (by decide +kernel)
  | .atom x a, .nil, r, s, ha, _, _, hs, h => by
    have h : x :: (a.flat ++ r) = s := h
    rcases hs with rfl | ⟨q, rfl⟩
    · cases h
    · exact absurd (List.cons.inj h).1 ha.2.1
  | .grp i a, .nil, r, s, ha, _, _, hs, h => by
    have h : ("(" : Str) :: (i.flat ++ (")" : Str) :: a.flat ++ r) = s := h
    rcases hs with rfl | ⟨q, rfl⟩
    · cases h
    · exact absurd (List.cons.inj h).1 (by decide +kernel)
  | .atom x a, .atom y b, r, s, ha, hb, hr, hs, h => by
    have h : x :: (a.flat ++ r) = y :: (b.flat ++ s) := h
    obtain ⟨e1, e2⟩ := List.cons.inj h
    obtain ⟨e3, e4⟩ := Row.flat_inj ha.2.2 hb.2.2 hr hs e2
    exact ⟨by rw [e1, e3], e4⟩
  | .atom x a, .grp i b, r, s, ha, hb, hr, hs, h => by
    have h : x :: (a.flat ++ r) = ("(" : Str) :: (i.flat ++ (")" : Str) :: b.flat ++ s) := h
    exact absurd (List.cons.inj h).1 ha.1
  | .grp i a, .atom y b, r, s, ha, hb, hr, hs, h => by
    have h : ("(" : Str) :: (i.flat ++ (")" : Str) :: a.flat ++ r) = y :: (b.flat ++ s) := h
    exact absurd (List.cons.inj h).1.symm hb.1
  | .grp i a, .grp j b, r, s, ha, hb, hr, hs, h => by
    have h : ("(" : Str) :: (i.flat ++ (")" : Str) :: a.flat ++ r) = ("(" : Str) :: (j.flat ++ (")" : Str) :: b.flat ++ s) := h
    have h := (List.cons.inj h).2
    rw [List.append_assoc, List.append_assoc] at h
    obtain ⟨e1, e2⟩ := Row.flat_inj ha.1 hb.1 (.inr ⟨_, rfl⟩) (.inr ⟨_, rfl⟩) h
    obtain ⟨e3, e4⟩ := Row.flat_inj ha.2 hb.2 hr hs (List.cons.inj e2).2
    exact ⟨by rw [e1, e3], e4⟩
/-- one piece or one group -/
def Row.one : Row → Prop
  | .atom _ .nil => True
  | .grp _ .nil => True
  | _ => False
theorem Row.one_inj : ∀ {a b t u : Row}, t.one → u.one → a.app t = b.app u → a = b ∧ t = u
  | .nil, .nil, t, u, _, _, h => ⟨rfl, h⟩
  | .nil, .atom y b, t, u, ht, hu, h => by
    have h : t = .atom y (b.app u) := h
    rw [h] at ht
    cases b <;> cases u <;> first | exact ht.elim | exact hu.elim
  | .nil, .grp y b, t, u, ht, hu, h => by
    have h : t = .grp y (b.app u) := h
    rw [h] at ht
    cases b <;> cases u <;> first | exact ht.elim | exact hu.elim
  | .atom y a, .nil, t, u, ht, hu, h => by
    have h : .atom y (a.app t) = u := h
    rw [← h] at hu
    cases a <;> cases t <;> first | exact ht.elim | exact hu.elim
  | .grp y a, .nil, t, u, ht, hu, h => by
    have h : .grp y (a.app t) = u := h
    rw [← h] at hu
    cases a <;> cases t <;> first | exact ht.elim | exact hu.elim
  | .atom x a, .atom y b, t, u, ht, hu, h => by
    obtain ⟨e1, e2⟩ := Row.atom.inj (show Row.atom x (a.app t) = .atom y (b.app u) from h)
    obtain ⟨e3, e4⟩ := Row.one_inj ht hu e2
    exact ⟨by rw [e1, e3], e4⟩
  | .grp x a, .grp y b, t, u, ht, hu, h => by
    obtain ⟨e1, e2⟩ := Row.grp.inj (show Row.grp x (a.app t) = .grp y (b.app u) from h)
    obtain ⟨e3, e4⟩ := Row.one_inj ht hu e2
    exact ⟨by rw [e1, e3], e4⟩
  | .atom x a, .grp y b, t, u, ht, hu, h => by
    cases (show Row.atom x (a.app t) = .grp y (b.app u) from h)
  | .grp x a, .atom y b, t, u, ht, hu, h => by
    cases (show Row.grp x (a.app t) = .atom y (b.app u) from h)
theorem Row.arrow_inj : ∀ {a b t u : Row}, a.low → b.low → a.app (.atom "->" t) = b.app (.atom "->" u) → a = b ∧ t = u
  | .nil, .nil, t, u, _, _, h => ⟨rfl, (Row.atom.inj h).2⟩
  | .nil, .atom y b, t, u, _, hb, h => absurd (Row.atom.inj (show Row.atom "->" t = .atom y _ from h)).1.symm hb.1
  | .nil, .grp y b, t, u, ht, hu, h => by cases (show Row.atom "->" t = .grp y _ from h)
  | .atom y a, .nil, t, u, ha, _, h => absurd (Row.atom.inj (show Row.atom y _ = .atom "->" u from h)).1 ha.1
  | .grp y a, .nil, t, u, ht, hu, h => by cases (show Row.grp y _ = .atom "->" u from h)
  | .atom x a, .atom y b, t, u, ha, hb, h => by
    obtain ⟨e1, e2⟩ := Row.atom.inj (show Row.atom x (a.app _) = .atom y (b.app _) from h)
    obtain ⟨e3, e4⟩ := Row.arrow_inj ha.2 hb.2 e2
    exact ⟨by rw [e1, e3], e4⟩
  | .grp x a, .grp y b, t, u, ha, hb, h => by
    obtain ⟨e1, e2⟩ := Row.grp.inj (show Row.grp x (a.app _) = .grp y (b.app _) from h)
    obtain ⟨e3, e4⟩ := Row.arrow_inj (a := a) (b := b) ha hb e2
    exact ⟨by rw [e1, e3], e4⟩
  | .atom x a, .grp y b, t, u, _, _, h => by cases (show Row.atom x (a.app _) = .grp y (b.app _) from h)
  | .grp x a, .atom y b, t, u, _, _, h => by cases (show Row.grp x (a.app _) = .atom y (b.app _) from h)
/-! ### rows of kinds -/
def wrL (k : Kd) (r : Row) : Row := if isFun k then .grp r .nil else r
def wrT (k : Kd) (r : Row) : Row := if isApp k then .grp r .nil else r
def rows : Kd → Row
  | .var x => .atom (atomT (.var x)) .nil
  | .con x => .atom x .nil
  | .app (.app (.con c) a) b =>
    if c = "to" then (wrL a (rows a)).app (.atom "->" (rows b)) else ((Row.atom c .nil).app (wrT a (rows a))).app (wrT b (rows b))
  | .app f b => (wrL f (rows f)).app (wrT b (rows b))
theorem rows_fun (a b : Kd) : rows (.app (.app (.con "to") a) b) = (wrL a (rows a)).app (.atom "->" (rows b)) := by
  rw [rows, if_pos rfl]
theorem rows_app {f b : Kd} (h : isFun (.app f b) = false) : rows (.app f b) = (wrL f (rows f)).app (wrT b (rows b)) := by
  match f, h with
  | .var x, _ => rfl
  | .con x, _ => rfl
  | .app (.var x) a, _ => rfl
  | .app (.app c d) a, _ => rfl
  | .app (.con c) a, h =>
    have hc : ¬ c = "to" := of_decide_eq_false h
    have e0 : rows (.app (.con c) a) = (Row.atom c .nil).app (wrT a (rows a)) := rfl
    rw [rows, if_neg hc, e0]
    rfl
theorem isFun_of {k : Kd} (h : isFun k = true) : ∃ a b, k = .app (.app (.con "to") a) b := by
  match k, h with
  | .app (.app (.con c) a) b, h =>
    have hc : c = "to" := of_decide_eq_true h
    exact ⟨a, b, by rw [hc]⟩
/-! ### of words -/
/-- all names are words -/
def Kd.wk : Kd → Prop
  | .var x => Wok x
  | .con x => Wok x
  | .app a b => a.wk ∧ b.wk
theorem Kd.fit_wk : ∀ {k : Kd} {n : Nat}, Kd.fit n k → k.wk
  | .var x, n, h => by cases n <;> exact h
  | .con x, n, h => by cases n <;> exact h
  | .app a b, n, h => by
    obtain ⟨m, rfl, h1, h2⟩ := Kd.fit_app h
    exact ⟨Kd.fit_wk h1, Kd.fit_wk h2⟩
/-- signs of a name: from a to z -/
theorem wok_not {x y : Str} {c : Nat} (h : Wok x) (hc : c ∈ y.cps.toList) (hn : ¬ (97 ≤ c ∧ c ≤ 122)) : x ≠ y := fun e => hn (h.2.2 c (by rw [e]; exact hc))
theorem tick_toList (x : Str) : (("'" : Str) ++ x).cps.toList = 39 :: x.cps.toList := by
  show (("'" : Str).cps ++ x.cps).toList = _
  rw [Array.toList_append]
  rfl
theorem tick_not {x y : Str} {d : Nat} {l : List Nat} (hy : y.cps.toList = d :: l) (hd : d ≠ 39) : ("'" : Str) ++ x ≠ y := fun e => by
  have := tick_toList x
  rw [e, hy] at this
  exact hd (List.cons.inj this).1
theorem tick_inj {x y : Str} (h : ("'" : Str) ++ x = ("'" : Str) ++ y) : x = y := by
  have h1 := tick_toList x
  rw [h, tick_toList y] at h1
  have h2 := (List.cons.inj h1).2
  obtain ⟨⟨a⟩⟩ := x
  obtain ⟨⟨b⟩⟩ := y
  simp only at h2
  rw [h2]
theorem tick_con {x y : Str} (h : Wok y) : ("'" : Str) ++ x ≠ y := fun e => by
  have h1 := tick_toList x
  rw [e] at h1
  have := h.2.2 39 (by rw [h1]; exact List.mem_cons_self)
  omega
theorem rows_ok : ∀ (k : Kd), k.wk → (rows k).ok
  | .var x, h => ⟨tick_not (d := 40) (l := []) (by decide +kernel) (by decide), tick_not (d := 41) (l := []) (by decide +kernel) (by decide), trivial⟩
  | .con x, h => ⟨wok_not h (c := 40) (by decide +kernel) (by decide), wok_not h (c := 41) (by decide +kernel) (by decide), trivial⟩
  | .app f b, h => by
    have wl : ∀ {k : Kd}, (rows k).ok → (wrL k (rows k)).ok := fun {k} g => by
      unfold wrL
      split
      · exact ⟨g, trivial⟩
      · exact g
    have wt : ∀ {k : Kd}, (rows k).ok → (wrT k (rows k)).ok := fun {k} g => by
      unfold wrT
      split
      · exact ⟨g, trivial⟩
      · exact g
    cases hf : isFun (.app f b) with
    | true =>
      obtain ⟨a, b', e⟩ := isFun_of hf
      obtain ⟨rfl, rfl⟩ := Kd.app.inj e
      rw [rows_fun]
      exact Row.ok_app (wl (rows_ok a h.1.2)) ⟨by decide +kernel, by decide +kernel, rows_ok b h.2⟩
    | false =>
      rw [rows_app hf]
      exact Row.ok_app (wl (rows_ok f h.1)) (wt (rows_ok b h.2))
theorem wrT_one {k : Kd} : (wrT k (rows k)).one := by
  unfold wrT
  cases k with
  | var x => exact trivial
  | con x => exact trivial
  | app a b => exact trivial
theorem rows_low : ∀ (k : Kd), k.wk → isFun k = false → (rows k).low
  | .var x, h, _ => ⟨tick_not (d := 45) (l := [62]) (by decide +kernel) (by decide), trivial⟩
  | .con x, h, _ => ⟨wok_not h (c := 45) (by decide +kernel) (by decide), trivial⟩
  | .app f b, h, hf => by
    rw [rows_app hf]
    refine Row.low_app ?_ ?_
    · unfold wrL
      cases hg : isFun f with
      | true => exact trivial
      | false => exact rows_low f h.1 hg
    · cases b with
      | var x => exact ⟨tick_not (d := 45) (l := [62]) (by decide +kernel) (by decide), trivial⟩
      | con x => exact ⟨wok_not h.2 (c := 45) (by decide +kernel) (by decide), trivial⟩
      | app c d => exact trivial
theorem wrL_low {k : Kd} (h : k.wk) : (wrL k (rows k)).low := by
  unfold wrL
  cases hg : isFun k with
  | true => exact trivial
  | false => exact rows_low k h hg
theorem fun_high {a b : Kd} : ¬ (rows (.app (.app (.con "to") a) b)).low := fun h => by
  rw [rows_fun] at h
  exact (Row.low_of_app h).1 rfl
theorem wrL_ne {k : Kd} : wrL k (rows k) ≠ .nil := by
  intro e
  unfold wrL at e
  cases hg : isFun k with
  | true => rw [hg] at e; cases e
  | false =>
    rw [hg] at e
    have e : rows k = .nil := e
    cases k with
    | var x => cases e
    | con x => cases e
    | app f b =>
      rw [rows_app hg] at e
      have : ∀ r t : Row, t.one → r.app t ≠ .nil := fun r t ht z => by cases r <;> cases t <;> first | exact ht | cases z
      exact this _ _ wrT_one e
theorem grp_app {f b : Kd} {r : Row} (hf : isFun (.app f b) = false) : rows (.app f b) ≠ .grp r .nil := fun e => by
  rw [rows_app hf] at e
  have h0 := wrL_ne (k := f)
  have h1 := wrT_one (k := b)
  revert e h0 h1
  generalize wrL f (rows f) = x
  generalize wrT b (rows b) = y
  intro e h0 h1
  cases x with
  | nil => exact h0 rfl
  | atom _ x => cases e
  | grp _ x =>
    have e := (Row.grp.inj (show Row.grp _ (x.app y) = .grp r .nil from e)).2
    cases x <;> cases y <;> first | exact h1 | cases e
theorem app_two {r t : Row} (h : r ≠ .nil) (g : t ≠ .nil) : (∀ x, r.app t ≠ .atom x .nil) ∧ (∀ i, r.app t ≠ .grp i .nil) := by
  have key : ∀ q : Row, q.app t ≠ .nil := fun q e => by
    cases q with
    | nil => exact g e
    | atom x q => cases e
    | grp x q => cases e
  cases r with
  | nil => exact absurd rfl h
  | atom x r => exact ⟨fun y e => key r (Row.atom.inj (show Row.atom x (r.app t) = .atom y .nil from e)).2, fun i e => by cases (show Row.atom x (r.app t) = .grp i .nil from e)⟩
  | grp x r => exact ⟨fun y e => (by cases (show Row.grp x (r.app t) = .atom y .nil from e)), fun i e => key r (Row.grp.inj (show Row.grp x (r.app t) = .grp i .nil from e)).2⟩
theorem one_ne {t : Row} (h : t.one) : t ≠ .nil := fun e => by rw [e] at h; exact h
theorem rows_two (f b : Kd) : (∀ x, rows (.app f b) ≠ .atom x .nil) ∧ (isFun (.app f b) = false → ∀ i, rows (.app f b) ≠ .grp i .nil) := by
  cases hf : isFun (.app f b) with
  | true =>
    obtain ⟨a, b', e⟩ := isFun_of hf
    obtain ⟨rfl, rfl⟩ := Kd.app.inj e
    rw [rows_fun]
    exact ⟨(app_two wrL_ne (fun z => by cases z)).1, fun z => by cases z⟩
  | false =>
    rw [rows_app hf]
    have := app_two (wrL_ne (k := f)) (one_ne (wrT_one (k := b)))
    exact ⟨this.1, fun _ => this.2⟩
def ksz : Kd → Nat
  | .app a b => 1 + ksz a + ksz b
  | _ => 1
theorem rows_injN : ∀ (n : Nat) (k l : Kd), ksz k ≤ n → k.wk → l.wk → rows k = rows l → k = l
  | 0, k, _, h, _, _, _ => by cases k <;> simp [ksz] at h
  | n + 1, .var x, .var y, _, _, _, e => by rw [tick_inj (Row.atom.inj e).1]
  | n + 1, .var x, .con y, _, _, h, e => absurd (Row.atom.inj e).1 (tick_con h)
  | n + 1, .con x, .var y, _, h, _, e => absurd (Row.atom.inj e).1.symm (tick_con h)
  | n + 1, .con x, .con y, _, _, _, e => by rw [(Row.atom.inj e).1]
  | n + 1, .var x, .app f b, _, _, _, e => absurd e.symm ((rows_two f b).1 _)
  | n + 1, .con x, .app f b, _, _, _, e => absurd e.symm ((rows_two f b).1 _)
  | n + 1, .app f b, .var x, _, _, _, e => absurd e ((rows_two f b).1 _)
  | n + 1, .app f b, .con x, _, _, _, e => absurd e ((rows_two f b).1 _)
  | n + 1, .app f b, .app g c, hn, h, h', e => by
    have ih := rows_injN n
    have hn : 1 + ksz f + ksz b ≤ n + 1 := hn
    have wl : ∀ {k l : Kd}, ksz k ≤ n → k.wk → l.wk → wrL k (rows k) = wrL l (rows l) → k = l := fun {k l} hk h1 h2 e => by
      unfold wrL at e
      cases hkf : isFun k with
      | true =>
        cases hlf : isFun l with
        | true =>
          rw [hkf, hlf] at e
          exact ih _ _ hk h1 h2 (Row.grp.inj e).1
        | false =>
          rw [hkf, hlf] at e
          have e : Row.grp (rows k) .nil = rows l := e
          match l, hlf, e with
          | .app u v, hlf, e => exact absurd e.symm ((rows_two u v).2 hlf _)
      | false =>
        cases hlf : isFun l with
        | true =>
          rw [hkf, hlf] at e
          have e : rows k = Row.grp (rows l) .nil := e
          match k, hkf, e with
          | .app u v, hkf, e => exact absurd e ((rows_two u v).2 hkf _)
        | false =>
          rw [hkf, hlf] at e
          exact ih _ _ hk h1 h2 e
    have wt : ∀ {k l : Kd}, ksz k ≤ n → k.wk → l.wk → wrT k (rows k) = wrT l (rows l) → k = l := fun {k l} hk h1 h2 e => by
      unfold wrT at e
      cases k with
      | app a1 a2 =>
        cases l with
        | app b1 b2 => exact ih _ _ hk h1 h2 (Row.grp.inj e).1
        | var y => cases e
        | con y => cases e
      | var x =>
        cases l with
        | app b1 b2 => cases e
        | var y => exact ih _ _ hk h1 h2 e
        | con y => exact ih _ _ hk h1 h2 e
      | con x =>
        cases l with
        | app b1 b2 => cases e
        | var y => exact ih _ _ hk h1 h2 e
        | con y => exact ih _ _ hk h1 h2 e
    cases hf : isFun (.app f b) with
    | true =>
      obtain ⟨a1, b1, e1⟩ := isFun_of hf
      obtain ⟨rfl, rfl⟩ := Kd.app.inj e1
      cases hg : isFun (.app g c) with
      | true =>
        obtain ⟨a2, b2, e2⟩ := isFun_of hg
        obtain ⟨rfl, rfl⟩ := Kd.app.inj e2
        rw [rows_fun, rows_fun] at e
        obtain ⟨z1, z2⟩ := Row.arrow_inj (wrL_low h.1.2) (wrL_low h'.1.2) e
        have hs : ksz (.app (.con "to") a1) = 1 + 1 + ksz a1 := rfl
        rw [wl (by omega) h.1.2 h'.1.2 z1, ih _ _ (by omega) h.2 h'.2 z2]
      | false => exact absurd (by rw [e]; exact rows_low _ h' hg) fun_high
    | false =>
      cases hg : isFun (.app g c) with
      | true =>
        obtain ⟨a2, b2, e2⟩ := isFun_of hg
        obtain ⟨rfl, rfl⟩ := Kd.app.inj e2
        exact absurd (by rw [← e]; exact rows_low _ h hf) fun_high
      | false =>
        rw [rows_app hf, rows_app hg] at e
        obtain ⟨z1, z2⟩ := Row.one_inj wrT_one wrT_one e
        rw [wl (by omega) h.1 h'.1 z1, wt (by omega) h.2 h'.2 z2]
theorem rows_inj {k l : Kd} (hk : k.wk) (hl : l.wk) (e : rows k = rows l) : k = l := rows_injN _ k l (Nat.le_refl _) hk hl e
/-! ### texts -/
def pcs (k : Kd) : List Str := (rows k).flat
def txt (k : Kd) : Str := Txt.join " " (pcs k)
theorem pcs_inj {k l : Kd} (hk : k.wk) (hl : l.wk) (e : pcs k = pcs l) : k = l :=
  rows_inj hk hl (Row.flat_inj (rows_ok k hk) (rows_ok l hl) (.inl rfl) (.inl rfl) (by rw [List.append_nil, List.append_nil]; exact e)).1
theorem pcs_ne (k : Kd) : pcs k ≠ [] := by
  unfold pcs
  intro e
  have : rows k = .nil := by
    cases hr : rows k with
    | nil => rfl
    | atom x r => rw [hr] at e; cases e
    | grp x r => rw [hr] at e; cases e
  cases k with
  | var x => cases this
  | con x => cases this
  | app f b =>
    have hw := wrL_ne (k := .app f b)
    unfold wrL at hw
    cases hf : isFun (.app f b) with
    | true =>
      obtain ⟨a1, b1, e1⟩ := isFun_of hf
      obtain ⟨rfl, rfl⟩ := Kd.app.inj e1
      rw [rows_fun] at this
      have h0 := wrL_ne (k := a1)
      revert this h0
      generalize wrL a1 (rows a1) = r
      intro this h0
      cases r <;> first | exact h0 rfl | cases this
    | false => rw [hf] at hw; exact hw this
/-- no piece has a space -/
def Row.sp : Row → Prop
  | .nil => True
  | .atom x r => 32 ∉ tl x ∧ r.sp
  | .grp i r => i.sp ∧ r.sp
theorem Row.sp_app : ∀ {a b : Row}, a.sp → b.sp → (a.app b).sp
  | .nil, b, _, h => h
  | .atom x r, b, h, g => ⟨h.1, Row.sp_app h.2 g⟩
  | .grp i r, b, h, g => ⟨h.1, Row.sp_app h.2 g⟩
theorem Row.sp_flat : ∀ {a : Row}, a.sp → ∀ p ∈ a.flat, 32 ∉ tl p
  | .nil, _, p, hp => by cases hp
  | .atom x r, h, p, hp => by
    rcases List.mem_cons.mp hp with rfl | hp
    · exact h.1
    · exact Row.sp_flat h.2 p hp
  | .grp i r, h, p, hp => by
    rcases List.mem_cons.mp hp with rfl | hp
    · decide +kernel
    · rcases List.mem_append.mp hp with hp | hp
      · exact Row.sp_flat h.1 p hp
      · rcases List.mem_cons.mp hp with rfl | hp
        · decide +kernel
        · exact Row.sp_flat h.2 p hp
theorem wok_sp {x : Str} (h : Wok x) : 32 ∉ tl x := fun hc => by
  have := h.2.2 32 hc
  omega
theorem rows_sp : ∀ (k : Kd), k.wk → (rows k).sp
  | .var x, h => ⟨fun hc => by
    have hc : 32 ∈ (("'" : Str) ++ x).cps.toList := hc
    rw [tick_toList] at hc
    rcases List.mem_cons.mp hc with e | hc
    · cases e
    · exact wok_sp h hc, trivial⟩
  | .con x, h => ⟨wok_sp h, trivial⟩
  | .app f b, h => by
    have wl : ∀ {k : Kd}, (rows k).sp → (wrL k (rows k)).sp := fun {k} g => by
      unfold wrL
      split
      · exact ⟨g, trivial⟩
      · exact g
    have wt : ∀ {k : Kd}, (rows k).sp → (wrT k (rows k)).sp := fun {k} g => by
      unfold wrT
      split
      · exact ⟨g, trivial⟩
      · exact g
    cases hf : isFun (.app f b) with
    | true =>
      obtain ⟨a, b', e⟩ := isFun_of hf
      obtain ⟨rfl, rfl⟩ := Kd.app.inj e
      rw [rows_fun]
      exact Row.sp_app (wl (rows_sp a h.1.2)) ⟨by decide +kernel, rows_sp b h.2⟩
    | false =>
      rw [rows_app hf]
      exact Row.sp_app (wl (rows_sp f h.1)) (wt (rows_sp b h.2))
theorem txt_inj {k l : Kd} (hk : k.wk) (hl : l.wk) : txt k = txt l ↔ k = l := by
  constructor
  · intro e
    have a := split_join (y := " ") (s := 32) (S := []) (by decide +kernel) (by decide +kernel) (pcs_ne k) (Row.sp_flat (rows_sp k hk))
    have b := split_join (y := " ") (s := 32) (S := []) (by decide +kernel) (by decide +kernel) (pcs_ne l) (Row.sp_flat (rows_sp l hl))
    have e : Txt.join " " (pcs k) = Txt.join " " (pcs l) := e
    rw [e] at a
    exact pcs_inj hk hl (a.symm.trans b)
  · intro e
    rw [e]
end L3

/-! list(reversed(t)) of a tuple -/
namespace L3
open PySem PySem.Spec PyProof.Rows L2 RT
theorem nolen_rt : typeLookup (.type "reversed") "__len__" = pure none := by rw [typeLookup_type, builtinLookup_eq_fast]; kernel_rfl
theorem hint_rt : typeLookup (.type "reversed") "__length_hint__" = pure (some (.builtin "reversed.__length_hint__")) := by rw [typeLookup_type, builtinLookup_eq_fast]; kernel_rfl
theorem walks_rt {prog : Program} {w : World} {A : Around} (hh : A.handled = none) (I t : Addr) (hne : t ≠ I) (items : Array Value) (hn : items.size ≤ sizeLine) :
    Walks prog w A I [I, t] [I] items.size (fun i v => items[items.size - 1 - i]? = some v) (fun i h => i ≤ items.size ∧ IsRt h I t ((items.size : Int) - 1 - (i : Int)) ∧ IsTup h t items) where
  sub := fun b hb => by simp at hb; simp [hb]
  frame := fun _ _ _ x hk => ⟨x.1, x.2.1.at fun o e => hk I (by simp) o e, by
    obtain ⟨o, ho, r⟩ := x.2.2
    exact ⟨o, hk t (by simp) o ho, r⟩⟩
  item := fun i s Q E hi x hQ => by
    have e : (items.size : Int) - 1 - (i : Int) = ((items.size - 1 - i : Nat) : Int) := by omega
    have hit := x.2.1
    rw [e] at hit
    have hx : items[items.size - 1 - i]? = some (items[items.size - 1 - i]'(by omega)) := Array.getElem?_eq_getElem (by omega)
    refine next_rt_item hit x.2.2 hx hn fun h' hit' hs' => ?_
    have e2 : ((items.size - 1 - i : Nat) : Int) - 1 = (items.size : Int) - 1 - ((i + 1 : Nat) : Int) := by omega
    rw [e2] at hit'
    refine hQ _ h' (s.toks + 1) hx ⟨hi, hit', ?_⟩ fun b o hb eo => hs'.extBut b o (fun h => hb (by simp [h])) eo
    obtain ⟨o, ho, r⟩ := x.2.2
    exact ⟨o, (hs'.2 t hne).trans ho, r⟩
  done := fun s Q E x hQ => by
    have e : (items.size : Int) - 1 - (items.size : Int) = -1 := by omega
    have hit := x.2.1
    rw [e] at hit
    exact next_rt_end hh hit fun h' he' => hQ h' s.toks fun b o hb eo => he' b o (fun h => hb (by simp [h])) eo
  self := fun _ _ _ _ x hQ => iter_rt x.2.1 hQ
theorem asInt_int (n : Int) (tk : Nat) : asInt? (Value.int n tk) = pure (some n) := rfl
theorem slot_rt_hint : Slot "reversed" "__length_hint__" "reversed.__length_hint__" :=
  .of (owner := "reversed") (n := "__length_hint__") (by rw [typeLookup_type, builtinLookup_eq_fast]; kernel_rfl) (by decide +kernel) (by decide +kernel) (by decide +kernel)
    (by first | exact .inl (by decide +kernel) | exact .inr (by decide +kernel)) (by rw [isSubtype_type]; kernel_rfl)
theorem entry_rt_hint : entryFor table "reversed.__length_hint__" = some Builtin.«reversed.__length_hint__» := entryFor_of_tree (by kernel_rfl)
theorem args_rt_hint (a : Value) : argsOk "reversed.__length_hint__" ⟨[a], []⟩ := by
  unfold argsOk; rw [signature?_of (id := "reversed.__length_hint__") (n := ['_', '_', 't', 'n', 'i', 'h', '_', 'h', 't', 'g', 'n', 'e', 'l', '_', '_']) (o := ['d', 'e', 's', 'r', 'e', 'v', 'e', 'r']) (by kernel_rfl) owner_rt]; kernel_rfl
section
variable {prog : Program} {w : World} {A : Around} {E : Value → Shared → Prop} {s : Shared}
theorem hint_rt_call {it t : Addr} {items : Array Value} {Q : Value → Shared → Prop} (hit : IsRt s.heap it t ((items.size : Int) - 1)) (ht : IsTup s.heap t items) (hn : items.size ≤ sizeLine)
    (q : ∀ tk tk', Q (.int (items.size : Int) tk) { s with toks := tk' }) : wpAny (model prog w) A (call (.builtin "reversed.__length_hint__") [.ref it]) Q E s := by
  obtain ⟨o, ho, hc, hd⟩ := id hit
  have hn' := hn
  rw [sizeLine_eq] at hn'
  refine wpAny_call_entry slot_rt_hint hit.typeIs entry_rt_hint ?_ (args_rt_hint _)
  unfold Builtin.«reversed.__length_hint__»
  refine wpAny_bind (wpAny_of_eq (a := Value.ref it) rfl ?_)
  try dsimp only
  refine wpAny_bind (wpAny_field ho hd (x := .ref t) rfl ?_)
  rw [if_neg (show ¬ ((Value.ref t == Value.none) = true) from Bool.false_ne_true)]
  try dsimp only
  refine wpAny_bind (len_tuple ht (by omega) ?_)
  refine wpAny_bind (wpAny_of_eq (a := some ((items.size : Nat) : Int)) rfl ?_)
  try dsimp only
  refine wpAny_bind (wpAny_field (s := { s with toks := s.toks + 1 + 1 }) ho hd (x := rawInt ((items.size : Int) - 1)) rfl ?_)
  show wpAny _ _ (if ((items.size : Nat) : Int) < (items.size : Int) - 1 + 1 then _ else _) _ _ _
  rw [if_neg (by omega)]
  unfold retInt
  refine wpAny_bind (wpAny_mkInt ?_)
  refine wpAny_pure ⟨_, rfl, ?_⟩
  rw [show (items.size : Int) - 1 + 1 = (items.size : Int) by omega]
  exact q _ _
theorem call_list_rt {it t : Addr} {items : Array Value} {Q : Value → Shared → Prop} (hh : A.handled = none) (hit : IsRt s.heap it t ((items.size : Int) - 1)) (ht : IsTup s.heap t items) (hne : t ≠ it) (hn : items.size ≤ sizeLine)
    (q : ∀ h' tk acc c, (∀ b o, b ≠ it → s.heap.get? b = some o → h'.get? b = some o) → h'.get? s.heap.objs.size = some { cls := .type "list", dict := none, data := .seq acc c, slots := #[] } → ItemsOf (fun i v => items[items.size - 1 - i]? = some v) acc items.size →
      Q (.ref s.heap.objs.size) { s with heap := h', toks := tk }) : wpAny (model prog w) A (call (.type "list") [.ref it]) Q E s := by
  have W := (walks_rt (prog := prog) (w := w) (A := A.in1.in1) hh it t hne items hn).toS
  obtain ⟨oi, hoi, _⟩ := id hit
  obtain ⟨ot, hot, _⟩ := id ht
  have zlt : it < s.heap.objs.size := Heap.lt_size hoi
  have tlt : t < s.heap.objs.size := Heap.lt_size hot
  refine callType_codes (Q₁ := fun obj s' => obj = .ref s.heap.objs.size ∧ s' = { s with heap := s.heap.push { cls := .type "list", data := .seq #[] } }) PySem.F.called_list (PySem.F.typeCall_list_1 _) PySem.F.entry_list_init (code_list_new _ ⟨rfl, rfl⟩) ?_
  rintro obj s' ⟨rfl, rfl⟩
  have at0 : (s.heap.push { cls := .type "list", data := .seq #[] }).get? s.heap.objs.size = some { cls := .type "list", data := .seq #[] } := Heap.get?_push_size _ rfl
  refine ⟨⟨_, at0, rfl⟩, PySem.F.args_list_init_2 _ _, ?_⟩
  show wpAny _ A.in1.in1 (do let old ← Builtin.List.listItems (.ref s.heap.objs.size); Builtin.List.listUpdate (.ref s.heap.objs.size) (fun _ => #[]); letGo old.toList.reverse; Builtin.List.listExtendWith (.ref s.heap.objs.size) (.ref it) .none) _ _ _
  refine wpAny_bind ?_
  unfold Builtin.List.listItems
  refine wpAny_bind (wpAny_seqItems at0 rfl (wpAny_pure ?_))
  show wpAny _ A.in1.in1 (updateSeq s.heap.objs.size (fun _ => #[]) >>= fun _ => letGo (#[] : Array Value).toList.reverse >>= fun _ => Builtin.List.listExtendWith (.ref s.heap.objs.size) (.ref it) .none) _ _ _
  refine wpAny_bind (wpAny_updateSeq at0 rfl (wpAny_bind (wpAny_letGo ?_)))
  have at1 := Heap.get?_update_self (Obj.mapSeq (fun _ => (#[] : Array Value))) at0 rfl
  have k1 : ∀ b o, s.heap.get? b = some o → ((s.heap.push { cls := .type "list", data := .seq #[] }).update s.heap.objs.size (Obj.mapSeq (fun _ => (#[] : Array Value)))).get? b = some o :=
    fun b o e => (Heap.get?_update_other _ _ (Nat.ne_of_gt (Heap.lt_size e))).trans (Heap.get?_push_of_some _ e)
  generalize (s.heap.push { cls := .type "list", data := .seq #[] }).update s.heap.objs.size (Obj.mapSeq (fun _ => (#[] : Array Value))) = g1 at at1 k1 ⊢
  have hit1 : IsRt g1 it t ((items.size : Int) - 1) := hit.at fun o e => k1 _ o e
  have ht1 : IsTup g1 t items := by
    obtain ⟨o, ho, r⟩ := ht
    exact ⟨o, k1 _ _ ho, r⟩
  have isz : ({ s with heap := g1 } : Shared).TypeIs (.ref it) "reversed" := IsRt.typeIs (s := { s with heap := g1 }) hit1
  have nsame : Builtin.List.listSameRef (.ref s.heap.objs.size) (.ref it) = false := by simp [Builtin.List.listSameRef, Nat.ne_of_gt zlt]
  have zz : (Value.type "reversed" == Value.type "list") = false := by decide
  have zt : (Value.type "reversed" == Value.type "tuple") = false := by decide
  unfold Builtin.List.listExtendWith
  refine wpAny_bind (wpAny_typeOf isz ?_)
  simp only [nsame, zz, zt, Bool.or_false, Bool.false_eq_true, if_false]
  refine wpAny_bind (iter_rt (s := { s with heap := g1 }) hit1 (wpAny_bind (wpAny_holding ?_)))
  unfold Builtin.List.listLengthHint
  refine wpAny_bind (wpAny_specialOf isz nolen_rt ?_)
  show wpAny _ A.in1.in1 (specialOf (Value.ref it) (Str.ofString "__length_hint__") >>= _) _ _ _
  refine wpAny_bind (wpAny_specialOf isz hint_rt ?_)
  generalize hid : ("reversed.__length_hint__" : String) = id0
  wp_delta
  rw [show splitId id0 = some ("reversed", "__length_hint__") from by subst hid; decide +kernel]
  subst hid
  refine wpAny_bind (wpAny_isInstance (b := true) isz (by rw [isSubtype_type]; kernel_rfl) ?_)
  rw [if_neg (by decide)]
  try dsimp only
  rw [if_neg (by decide +kernel)]
  refine wpAny_bind (wpAny_rule ?_)
  refine wpAny_bind (wpAny_of_eq (slot_rt_hint.bind _) ?_)
  try dsimp only
  refine wpAny_bind (wpAny_attempt (hint_rt_call (s := { s with heap := g1 }) hit1 ht1 hn fun tk tk' => ?_))
  try dsimp only
  have hS : ∀ (g2 : Heap) (c : Nat) (tk2 : Nat), (∀ b o, s.heap.get? b = some o → g2.get? b = some o) → g2.get? s.heap.objs.size = some { cls := .type "list", dict := none, data := .seq #[] c, slots := #[] } →
      codeAny (model prog w) A.in1 (.builtin "list.extend.loop" ⟨[.ref s.heap.objs.size, .ref it, .none], []⟩) (wants (fun r s₂ => r = Value.none ∧ Q (Value.ref s.heap.objs.size) s₂) E) { s with heap := g2, toks := tk2 } := by
    intro g2 c tk2 k2 at2
    have e0 : ((items.size : Nat) : Int) - 1 - ((0 : Nat) : Int) = (items.size : Int) - 1 := by omega
    refine codeAny_extend_loopS W hn _ ?_ .none items.size 0 { s with heap := g2, toks := tk2 } #[] c rfl (Nat.zero_le _) ⟨Nat.zero_le _, by rw [e0]; exact hit.at fun o e => k2 _ o e, by
      obtain ⟨o, ho, r⟩ := ht
      exact ⟨o, k2 _ _ ho, r⟩⟩ at2 (ItemsOf.nil _) fun s' acc' c' hm hS' hacc => ?_
    · simp only [List.mem_cons, List.not_mem_nil, or_false, not_or]
      exact ⟨Nat.ne_of_gt zlt, Nat.ne_of_gt tlt⟩
    · refine ⟨rfl, ?_⟩
      rw [Moved.eq_with hm]
      refine q s'.heap s'.toks acc' c' (fun b o hb e => hm.heap b o (fun hmem => ?_) (k2 _ _ e)) hS' hacc
      rcases List.mem_cons.mp hmem with e' | hmem
      · exact absurd (Heap.lt_size e) (by rw [e']; exact Nat.lt_irrefl _)
      · exact hb (List.mem_singleton.mp hmem)
  have hz0 : 0 ≤ (items.size : Int) := by omega
  have hz1 : (items.size : Int) < 2 ^ 63 := by
    rw [sizeLine_eq] at hn
    omega
  have hz2 : (items.size : Int).toNat ≤ sizeLine := by
    rw [Int.toNat_natCast]
    exact hn
  generalize ((items.size : Nat) : Int) = z at hz0 hz1 hz2 ⊢
  refine wpAny_bind (wpAny_of_eq (asInt_int z tk) ?_)
  try dsimp only
  rw [if_neg (by
    have : Builtin.List.listFitsIndex z = true := by
      unfold Builtin.List.listFitsIndex
      simp only [Bool.and_eq_true, decide_eq_true_eq]
      omega
    rw [this]; decide), if_neg (by omega), if_neg (by
    unfold Builtin.List.listTooLong
    simp only [decide_eq_true_eq]
    omega)]
  refine wpAny_pure ?_
  split
  · refine wpAny_bind (wpAny_rule (wpAny_bind ?_))
    show wpAny _ A.in1.in1 (updateSeq s.heap.objs.size (·.push .none) >>= fun _ => updateSeq s.heap.objs.size (·.pop)) _ _ _
    refine wpAny_bind (wpAny_updateSeq at1 rfl ?_)
    have at2 := Heap.get?_update_self (Obj.mapSeq (·.push Value.none)) at1 rfl
    refine wpAny_updateSeq (hz := by seq_fits) at2 rfl ?_
    have at3 := Heap.get?_update_self (Obj.mapSeq (·.pop)) at2 rfl
    refine wpAny_pure ⟨plainId_quiet F.plain_extend_loop _, ?_⟩
    refine hS _ _ tk' (fun b o e => ?_) at3
    have nb := Nat.ne_of_gt (Heap.lt_size e)
    exact (Heap.get?_update_other _ _ nb).trans ((Heap.get?_update_other _ _ nb).trans (k1 b o e))
  · refine wpAny_pure ⟨plainId_quiet F.plain_extend_loop _, ?_⟩
    exact hS g1 _ tk' k1 at1
end
/-- list(reversed(t)), t a tuple -/
def tListRevT (K : PySem.W.Frag) (te : TE) : TE := fun σ H Q => te σ H fun v H1 => ∃ (a : Addr) (xs : List V), v = .ref a ∧ SqT K H1 a xs ∧ ∀ q, H1 q = none → Q (.ref q) (upd H1 q (.lst xs.reverse))
theorem pe_listRevT {X : Cx} {e : Expr} {te : TE} {p p2 pos pos2 : Pos} (hc : X.calm = true) (hg : Gl X "list") (hm : X.mg "list" = none) (hg2 : Gl X "reversed") (hm2 : X.mg "reversed" = none) (he : PE X e te)
    (hs : starEach [e] X.env = (false, eval e X.env) :: starEach [] X.env := by rfl)
    (hs2 : starEach [.Call (.Name "reversed" p2) [e] [] pos2] X.env = (false, eval (.Call (.Name "reversed" p2) [e] [] pos2) X.env) :: starEach [] X.env := by rfl) :
    PE X (.Call (.Name "list" p) [.Call (.Name "reversed" p2) [e] [] pos2] [] pos) (tListRevT X.K te) := by
  refine ⟨fun pins s σ H Q I h => ?_⟩
  refine Call_ (ld_blt I hg hm (show bootBuiltins "list" = some (Value.type "list") by decide +kernel) (PyProof.Rows.callWith_type1 (args_cons (Call_ (ld_blt I hg2 hm2 PyProof.Rows.boot_reversed (PyProof.Rows.callWith_type1 (args_cons (thn (he.run pins s σ H _ I h) fun u s1 ⟨v, H1, I1, r1, q1⟩ => args_nil ?_) hs) hs rfl))) hs2) hs2 rfl))
  obtain ⟨a, xs, ev, hq, q⟩ := q1
  subst ev
  obtain rfl : u = Value.ref a := r1
  obtain ⟨its, rv, p', hz⟩ := I1.tuple hq
  have hl := rv.length
  have hn63 := line63
  have hn : its.toArray.size ≤ sizeLine := by rw [List.size_toArray, ← rv.length]; exact hz
  refine call_reversed_tup p' (fun A E Q k => len_tuple p' (by simp only [List.size_toArray] <;> omega) k) (args_nil ?_)
  have k0 : ∀ b o, s1.heap.get? b = some o → (s1.heap.push (rtObj a ((its.toArray.size : Int) - 1))).get? b = some o := fun b o e => Heap.get?_push_of_some _ e
  obtain ⟨ol, hol, _⟩ := id p'
  have hne : a ≠ s1.heap.objs.size := Nat.ne_of_lt (Heap.lt_size hol)
  refine call_list_rt (s := { s1 with heap := s1.heap.push (rtObj a ((its.toArray.size : Int) - 1)), toks := s1.toks + 1 + 1 }) (I1.ok.hd hc) ⟨_, Heap.get?_push_size _ rfl, rfl, rfl⟩ (by
    obtain ⟨o, ho, r⟩ := p'
    exact ⟨o, k0 _ _ ho, r⟩) hne hn fun h' tk acc c hk at' hi => ?_
  have kk : ∀ b o, s1.heap.get? b = some o → h'.get? b = some o := fun b o e => hk b o (Nat.ne_of_lt (Heap.lt_size e)) (k0 b o e)
  have le : s1.heap.objs.size ≤ (s1.heap.push (rtObj a ((its.toArray.size : Int) - 1))).objs.size := by
    have z : (s1.heap.push (rtObj a ((its.toArray.size : Int) - 1))).get? s1.heap.objs.size = some (rtObj a ((its.toArray.size : Int) - 1)) := Heap.get?_push_size _ rfl
    exact Nat.le_of_lt (Heap.lt_size z)
  exact ⟨.ref _, upd H1 _ (.lst xs.reverse), I1.laid (t' := tk) kk le (show ObjOk X.prog X.w _ h' _ (.lst xs.reverse) from ⟨by rw [List.length_reverse]; exact hz, acc.toList, c, vals_rev rv hi, by rw [Array.toArray_toList]; exact at'⟩), rfl, q _ (I1.hok.fresh le)⟩
end L3

/-! list(reversed(l)) of a list -/
namespace L3
open PySem PySem.Spec PyProof.Rows L2 RT
section
variable {prog : Program} {w : World} {A : Around} {E : Value → Shared → Prop} {s : Shared}
theorem call_list_lri {it t : Addr} {items : Array Value} {Q : Value → Shared → Prop} (hh : A.handled = none) (hit : s.heap.IsRevIter it t ((items.size : Int) - 1)) (ht : s.heap.IsList t items) (hne : t ≠ it) (hn : items.size ≤ sizeLine)
    (q : ∀ h' tk acc c, (∀ b o, b ≠ it → s.heap.get? b = some o → h'.get? b = some o) → h'.get? s.heap.objs.size = some { cls := .type "list", dict := none, data := .seq acc c, slots := #[] } → ItemsOf (fun i v => items[items.size - 1 - i]? = some v) acc items.size →
      Q (.ref s.heap.objs.size) { s with heap := h', toks := tk }) : wpAny (model prog w) A (call (.type "list") [.ref it]) Q E s := by
  have W := (Walks.listRev (prog := prog) (w := w) (A := A.in1.in1) hh it t hne items).toS
  obtain ⟨oi, hoi, _⟩ := id hit
  obtain ⟨ot, hot, _⟩ := id ht
  have zlt : it < s.heap.objs.size := Heap.lt_size hoi
  have tlt : t < s.heap.objs.size := Heap.lt_size hot
  refine callType_codes (Q₁ := fun obj s' => obj = .ref s.heap.objs.size ∧ s' = { s with heap := s.heap.push { cls := .type "list", data := .seq #[] } }) PySem.F.called_list (PySem.F.typeCall_list_1 _) PySem.F.entry_list_init (code_list_new _ ⟨rfl, rfl⟩) ?_
  rintro obj s' ⟨rfl, rfl⟩
  have at0 : (s.heap.push { cls := .type "list", data := .seq #[] }).get? s.heap.objs.size = some { cls := .type "list", data := .seq #[] } := Heap.get?_push_size _ rfl
  refine ⟨⟨_, at0, rfl⟩, PySem.F.args_list_init_2 _ _, ?_⟩
  show wpAny _ A.in1.in1 (do let old ← Builtin.List.listItems (.ref s.heap.objs.size); Builtin.List.listUpdate (.ref s.heap.objs.size) (fun _ => #[]); letGo old.toList.reverse; Builtin.List.listExtendWith (.ref s.heap.objs.size) (.ref it) .none) _ _ _
  refine wpAny_bind ?_
  unfold Builtin.List.listItems
  refine wpAny_bind (wpAny_seqItems at0 rfl (wpAny_pure ?_))
  show wpAny _ A.in1.in1 (updateSeq s.heap.objs.size (fun _ => #[]) >>= fun _ => letGo (#[] : Array Value).toList.reverse >>= fun _ => Builtin.List.listExtendWith (.ref s.heap.objs.size) (.ref it) .none) _ _ _
  refine wpAny_bind (wpAny_updateSeq at0 rfl (wpAny_bind (wpAny_letGo ?_)))
  have at1 := Heap.get?_update_self (Obj.mapSeq (fun _ => (#[] : Array Value))) at0 rfl
  have k1 : ∀ b o, s.heap.get? b = some o → ((s.heap.push { cls := .type "list", data := .seq #[] }).update s.heap.objs.size (Obj.mapSeq (fun _ => (#[] : Array Value)))).get? b = some o :=
    fun b o e => (Heap.get?_update_other _ _ (Nat.ne_of_gt (Heap.lt_size e))).trans (Heap.get?_push_of_some _ e)
  generalize (s.heap.push { cls := .type "list", data := .seq #[] }).update s.heap.objs.size (Obj.mapSeq (fun _ => (#[] : Array Value))) = g1 at at1 k1 ⊢
  have hit1 : g1.IsRevIter it t ((items.size : Int) - 1) := hit.at fun o e => k1 _ o e
  have ht1 : g1.IsList t items := by
    obtain ⟨o, ho, r⟩ := ht
    exact ⟨o, k1 _ _ ho, r⟩
  have isz : ({ s with heap := g1 } : Shared).TypeIs (.ref it) "list_reverseiterator" := Heap.IsRevIter.typeIs (s := { s with heap := g1 }) hit1
  have nsame : Builtin.List.listSameRef (.ref s.heap.objs.size) (.ref it) = false := by simp [Builtin.List.listSameRef, Nat.ne_of_gt zlt]
  have zz : (Value.type "list_reverseiterator" == Value.type "list") = false := by decide
  have zt : (Value.type "list_reverseiterator" == Value.type "tuple") = false := by decide
  unfold Builtin.List.listExtendWith
  refine wpAny_bind (wpAny_typeOf isz ?_)
  simp only [nsame, zz, zt, Bool.or_false, Bool.false_eq_true, if_false]
  refine wpAny_bind (wpAny_pyIter_revIter (s := { s with heap := g1 }) hit1 (wpAny_bind (wpAny_holding ?_)))
  unfold Builtin.List.listLengthHint
  refine wpAny_bind (wpAny_specialOf isz nolen_lri ?_)
  show wpAny _ A.in1.in1 (specialOf (Value.ref it) (Str.ofString "__length_hint__") >>= _) _ _ _
  refine wpAny_bind (wpAny_specialOf isz hint_lri ?_)
  generalize hid : ("list_reverseiterator.__length_hint__" : String) = id0
  wp_delta
  rw [show splitId id0 = some ("list_reverseiterator", "__length_hint__") from by subst hid; decide +kernel]
  subst hid
  refine wpAny_bind (wpAny_isInstance (b := true) isz (by rw [isSubtype_type]; kernel_rfl) ?_)
  refine wpAny_pure ?_
  rw [if_neg (by decide)]
  have e0 : ((items.size : Nat) : Int) - 1 - ((0 : Nat) : Int) = (items.size : Int) - 1 := by omega
  refine wpAny_pure ⟨plainId_quiet F.plain_extend_loop _, codeAny_extend_loopS W hn _ ?_ .none items.size 0 { s with heap := g1 } #[] _ rfl (Nat.zero_le _) ⟨Nat.zero_le _, by rw [e0]; exact hit1, ht1⟩ at1 (ItemsOf.nil _) fun s' acc' c' hm hS' hacc => ?_⟩
  · simp only [List.mem_cons, List.not_mem_nil, or_false, not_or]
    exact ⟨Nat.ne_of_gt zlt, Nat.ne_of_gt tlt⟩
  · refine ⟨rfl, ?_⟩
    rw [Moved.eq_with hm]
    refine q s'.heap s'.toks acc' c' (fun b o hb e => hm.heap b o (fun hmem => ?_) (k1 _ _ e)) hS' hacc
    rcases List.mem_cons.mp hmem with e' | hmem
    · exact absurd (Heap.lt_size e) (by rw [e']; exact Nat.lt_irrefl _)
    · exact hb (List.mem_singleton.mp hmem)
end
def tListRev (K : PySem.W.Frag) (te : TE) : TE := fun σ H Q => te σ H fun v H1 => ∃ (a : Addr) (xs : List V), v = .ref a ∧ SqL K H1 a xs ∧ ∀ q, H1 q = none → Q (.ref q) (upd H1 q (.lst xs.reverse))
theorem pe_listRev {X : Cx} {e : Expr} {te : TE} {p p2 pos pos2 : Pos} (hc : X.calm = true) (hg : Gl X "list") (hm : X.mg "list" = none) (hg2 : Gl X "reversed") (hm2 : X.mg "reversed" = none) (he : PE X e te)
    (hs : starEach [e] X.env = (false, eval e X.env) :: starEach [] X.env := by rfl)
    (hs2 : starEach [.Call (.Name "reversed" p2) [e] [] pos2] X.env = (false, eval (.Call (.Name "reversed" p2) [e] [] pos2) X.env) :: starEach [] X.env := by rfl) :
    PE X (.Call (.Name "list" p) [.Call (.Name "reversed" p2) [e] [] pos2] [] pos) (tListRev X.K te) := by
  refine ⟨fun pins s σ H Q I h => ?_⟩
  refine Call_ (ld_blt I hg hm (show bootBuiltins "list" = some (Value.type "list") by decide +kernel) (PyProof.Rows.callWith_type1 (args_cons (Call_ (ld_blt I hg2 hm2 PyProof.Rows.boot_reversed (PyProof.Rows.callWith_type1 (args_cons (thn (he.run pins s σ H _ I h) fun u s1 ⟨v, H1, I1, r1, q1⟩ => args_nil ?_) hs) hs rfl))) hs2) hs2 rfl))
  obtain ⟨a, xs, ev, hq, q⟩ := q1
  subst ev
  obtain rfl : u = Value.ref a := r1
  obtain ⟨its, rv, p', hz⟩ := I1.list hq
  have hl := rv.length
  have hn : its.toArray.size ≤ sizeLine := by rw [List.size_toArray, ← rv.length]; exact hz
  refine call_reversed_list p'.isList (args_nil ?_)
  have k0 : ∀ b o, s1.heap.get? b = some o → (s1.heap.push (revObj a ((its.toArray.size : Int) - 1))).get? b = some o := fun b o e => Heap.get?_push_of_some _ e
  have hl' := p'.isList
  obtain ⟨ol, hol, _⟩ := id hl'
  have hne : a ≠ s1.heap.objs.size := Nat.ne_of_lt (Heap.lt_size hol)
  refine call_list_lri (s := { s1 with heap := s1.heap.push (revObj a ((its.toArray.size : Int) - 1)) }) (I1.ok.hd hc) ⟨_, Heap.get?_push_size _ rfl, rfl, rfl⟩ (hl'.push _) hne hn fun h' tk acc c hk at' hi => ?_
  have kk : ∀ b o, s1.heap.get? b = some o → h'.get? b = some o := fun b o e => hk b o (Nat.ne_of_lt (Heap.lt_size e)) (k0 b o e)
  have le : s1.heap.objs.size ≤ (s1.heap.push (revObj a ((its.toArray.size : Int) - 1))).objs.size := by
    have z : (s1.heap.push (revObj a ((its.toArray.size : Int) - 1))).get? s1.heap.objs.size = some (revObj a ((its.toArray.size : Int) - 1)) := Heap.get?_push_size _ rfl
    exact Nat.le_of_lt (Heap.lt_size z)
  exact ⟨.ref _, upd H1 _ (.lst xs.reverse), I1.laid (t' := tk) kk le (show ObjOk X.prog X.w _ h' _ (.lst xs.reverse) from ⟨by rw [List.length_reverse]; exact hz, acc.toList, c, vals_rev rv hi, by rw [Array.toArray_toList]; exact at'⟩), rfl, q _ (I1.hok.fresh le)⟩
end L3

namespace L3
open PySem L2
structure Bl5 (mg : Str → Option Value) : Prop where
  reversed : mg "reversed" = none
/-- what a kind begins with, and the parts behind it -/
def spine : Kd → List Kd → Kd × List Kd
  | .app f x, ps => spine f (x :: ps)
  | k, ps => (k, ps)
theorem spine_app : ∀ (k : Kd) (ps : List Kd), spine k ps = ((spine k []).1, (spine k []).2 ++ ps)
  | .var x, ps => rfl
  | .con x, ps => rfl
  | .app f x, ps => by
    show spine f (x :: ps) = ((spine f [x]).1, (spine f [x]).2 ++ ps)
    rw [spine_app f (x :: ps), spine_app f [x]]
    simp
theorem spine_len : ∀ (k : Kd) (ps : List Kd), (spine k ps).2.length ≤ ksz k + ps.length
  | .var x, ps => Nat.le_add_left _ _
  | .con x, ps => Nat.le_add_left _ _
  | .app f x, ps => by
    have := spine_len f (x :: ps)
    show (spine f (x :: ps)).2.length ≤ 1 + ksz f + ksz x + ps.length
    rw [List.length_cons] at this
    omega
section
variable {P : Program} {w : World} {K : PySem.W.Frag} {mg : Str → Option Value} {base : Heap}
abbrev s_spine_of : Stmt := topS 8
abbrev N_spine_of : List Str := ["kind", "parts", "head"]
theorem sc_spine_of : FnScope N_spine_of ["kind"] (defScope s_spine_of) := ⟨rfl, rfl, rfl, by decide +kernel, rfl, by decide +kernel, by decide +kernel⟩
def spSpine : Sp := fun vs H Q _ => ∃ (v : V) (k : Kd), vs = [v] ∧ KdAt H v k ∧ ksz k ≤ 100000 ∧ ∀ (H' : Hp) (p l : Addr) (vh : V) (ps : List V), Same H H' → H l = none → H' p = some (.tup [vh, .ref l]) → KdAt H' vh (spine k []).1 → H' l = some (.lst ps) → KdsAt H' ps (spine k []).2 → Q (.ref p) H'
theorem ok_spine {f : Addr} {fd : FuncData} (F : Fun K "spine_of" "spine_of" s_spine_of f fd) (B : Bl mg) (B5 : Bl5 mg) : FnOk P w K mg base CX0 1 f fd ["kind"] spSpine := by
  refine F.ok sc_spine_of (fun vs H Q E h => ?_) (fun cdv A outer s H vs Q E hr h => ?_)
  · obtain ⟨v, k, rfl, _⟩ := h
    rfl
  · obtain ⟨v, k0, rfl, hk, hz, k⟩ := h
    refine ⟨_, (pss_cons (ps_set (i := 1) sc_spine_of.nd rfl (Or.inl rfl) (pe_lst pa_nil))
  (pss_cons (ps_set (i := 2) sc_spine_of.nd rfl (Or.inl rfl) (pv 0))
  (pss_cons (ps_while PassesOwn.never (pt_cmpR op_eq (pe_ix ix_tup (pv 2) pe_int (fun _ _ => rfl)) pe_str (nomark _))
  (pss_cons (ps_set (i := 1) sc_spine_of.nd rfl (Or.inl rfl) (pe_op op_cat (pe_lst (pa_cons (pe_ix ix_tup (pv 2) pe_int (fun _ _ => rfl)) pa_nil)) (pv 1)))
  (pss_one (ps_set (i := 2) sc_spine_of.nd rfl (Or.inl rfl) (pe_ix ix_tup (pv 2) pe_int (fun _ _ => rfl))))))
  (pss_one (ps_ret (pe_tup (pa_cons (pv 2) (pa_cons (pv 1) pa_nil)))))))), ?_⟩
    refine ⟨slz rfl, fun lw hlw => ?_⟩
    have s1 : Same H (upd H lw (.lst [])) := same_new hlw
    have g1 : (upd H lw (.lst [])) lw = some (.lst []) := upd_same
    generalize upd H lw (.lst []) = H1 at s1 g1 ⊢
    refine ⟨_, rfl, ?_⟩
    refine ⟨fun m σ H' => ∃ (kd : Kd) (vh : V) (st : List Kd) (vs : List V) (lw : Addr), σ = [some v, some (.ref lw), some vh] ∧ Same H H' ∧ H lw = none ∧ H' lw = some (.lst vs) ∧ KdAt H' vh kd ∧ KdsAt H' vs st ∧ m = ksz kd ∧ st.length + ksz kd ≤ 100000 ∧ spine kd st = spine k0 [], ⟨ksz k0, k0, v, [], [], lw, rfl, s1, hlw, g1, KdAt.tups (same_tups s1) hk, .nil, rfl, by simpa using hz, rfl⟩, ?_⟩
    clear hlw s1 g1
    rintro m σ H2 ⟨kd, vh, st, vs, lw, rfl, s2, hlw, g2, hh, hs, rfl, hsz, e0⟩
    have kk : isApp kd = false → ∀ p, H2 p = none → Q (.ref p) (upd H2 p (.tup [vh, .ref lw])) := fun na p hp => by
      have e1 : (spine k0 []) = (kd, st) := by
        rw [← e0]
        cases kd with
        | app a b => cases na
        | var x => rfl
        | con x => rfl
      have sp := same_new (o := .tup [vh, .ref lw]) hp
      refine k _ p lw vh vs (s2.trans sp) hlw upd_same ?_ (sp _ _ g2) ?_
      · rw [e1]
        exact KdAt.tups (same_tups sp) hh
      · rw [e1]
        exact KdsAt.tups (same_tups sp) hs
    cases kd with
    | app a b =>
      obtain ⟨p, u, z, rfl, hp, hu1, hz1⟩ := id hh
      refine ⟨_, rfl, _, _, _, _, rfl, rfl, SqT.of hp, rfl, rfl, _, rfl, iT tg_aa ?_⟩
      refine ⟨fun σ' H' => ∃ (kd : Kd) (vh : V) (st : List Kd) (vs : List V) (lw : Addr), σ' = [some v, some (.ref lw), some vh] ∧ Same H H' ∧ H lw = none ∧ H' lw = some (.lst vs) ∧ KdAt H' vh kd ∧ KdsAt H' vs st ∧ ksz kd < ksz (.app a b) ∧ st.length + ksz kd ≤ 100000 ∧ spine kd st = spine k0 [], ?_, ?_⟩
      · rintro σ' H' ⟨kd, vh, st, vs, lw, e1, e2, e3, e4, e5, e6, e7, e8, e9⟩
        exact ⟨ksz kd, e7, kd, vh, st, vs, lw, e1, e2, e3, e4, e5, e6, rfl, e8, e9⟩
      · have hsz' : st.length + (1 + ksz a + ksz b) ≤ 100000 := hsz
        refine ⟨_, rfl, _, _, _, _, rfl, rfl, SqT.of hp, rfl, slz rfl, fun q hq => ?_⟩
        refine ⟨_, rfl, q, lw, [z], vs, rfl, rfl, upd_same, by rw [upd_ne (ne_of_none g2 hq)]; exact g2, Nat.le_of_lt (szl (by rw [Paired.length hs, List.length_singleton]; omega)), fun q2 hq2 => ?_⟩
        have S3 := (same_new hq).trans (same_new (o := .lst ([z] ++ vs)) hq2)
        have n2 : H q2 = none := (s2.trans (same_new hq)).free hq2
        have g3 : (upd (upd H2 q (.lst [z])) q2 (.lst ([z] ++ vs))) q2 = some (.lst ([z] ++ vs)) := upd_same
        generalize upd (upd H2 q (.lst [z])) q2 (.lst ([z] ++ vs)) = H3 at S3 g3 ⊢
        have tu := same_tups S3
        refine ⟨_, rfl, _, _, _, _, rfl, rfl, SqT.of (tu _ _ hp), rfl, ?_⟩
        exact ⟨a, u, b :: st, [z] ++ vs, q2, rfl, s2.trans S3, n2, g3, KdAt.tups tu hu1, .cons (KdAt.tups tu hz1) (KdsAt.tups tu hs), by show ksz a < 1 + ksz a + ksz b; omega, by rw [List.length_cons]; omega, e0⟩
    | var x =>
      obtain ⟨p, rfl, hp⟩ := id hh
      refine ⟨_, rfl, _, _, _, _, rfl, rfl, SqT.of hp, rfl, rfl, _, rfl, iF tg_va ?_⟩
      exact ⟨_, rfl, _, rfl, slz rfl, fun p hp => kk rfl p hp⟩
    | con x =>
      obtain ⟨p, rfl, hp⟩ := id hh
      refine ⟨_, rfl, _, _, _, _, rfl, rfl, SqT.of hp, rfl, rfl, _, rfl, iF tg_ca ?_⟩
      exact ⟨_, rfl, _, rfl, slz rfl, fun p hp => kk rfl p hp⟩
/-! ### arrows -/
/-- what a kind begins with is the con to -/
def isTo : Kd → Bool
  | .con c => decide (c = "to")
  | _ => false
theorem eq_to (k : Kd) : decide (k = .con "to") = isTo k := by
  cases k with
  | con c => 
    show _ = decide (c = "to")
    rw [decide_eq_decide]
    exact ⟨fun e => Kd.con.inj e, fun e => by rw [e]⟩
  | var x => exact decide_eq_false (by intro z; cases z)
  | app a b => exact decide_eq_false (by intro z; cases z)
theorem spine_app1 (f x : Kd) : spine (.app f x) [] = ((spine f []).1, (spine f []).2 ++ [x]) := spine_app f [x]
theorem spine_snd_nil {k : Kd} (h : (spine k []).2 = []) : (spine k []).1 = k ∧ isApp k = false := by
  cases k with
  | var x => exact ⟨rfl, rfl⟩
  | con x => exact ⟨rfl, rfl⟩
  | app f x =>
    rw [spine_app1] at h
    simp at h
theorem isFun_spine (k : Kd) : isFun k = (isTo (spine k []).1 && decide ((spine k []).2.length = 2)) := by
  cases k with
  | var x => rfl
  | con x =>
    show false = (_ && false)
    rw [Bool.and_false]
  | app f b =>
    rw [spine_app1]
    cases f with
    | var x => rfl
    | con x =>
      show false = (_ && false)
      rw [Bool.and_false]
    | app g a =>
      rw [spine_app1]
      cases g with
      | var x => rfl
      | con c =>
        show decide (c = "to") = (decide (c = "to") && true)
        rw [Bool.and_true]
      | app g2 a2 =>
        rw [spine_app1]
        show false = (_ && decide (((((spine g2 []).2 ++ [a2]) ++ [a]) ++ [b]).length = 2))
        rw [decide_eq_false (by simp only [List.length_append, List.length_singleton]; omega), Bool.and_false]
theorem spine_fit : ∀ {k : Kd} {n : Nat}, Kd.fit n k → Kd.fit n (spine k []).1 ∧ ∀ x ∈ (spine k []).2, ∃ m, m < n ∧ Kd.fit m x
  | .var x, n, h => ⟨h, fun x hx => by cases hx⟩
  | .con x, n, h => ⟨h, fun x hx => by cases hx⟩
  | .app f b, n, h => by
    obtain ⟨m, rfl, h1, h2⟩ := Kd.fit_app h
    obtain ⟨a1, a2⟩ := spine_fit h1
    rw [spine_app1]
    refine ⟨Kd.fit_mono (Nat.le_succ m) a1, fun x hx => ?_⟩
    rcases List.mem_append.mp hx with hx | hx
    · obtain ⟨j, hj, g⟩ := a2 x hx
      exact ⟨j, by omega, g⟩
    · rw [List.mem_singleton.mp hx]
      exact ⟨m, by omega, h2⟩
theorem ksz_fit : ∀ {k : Kd} {n : Nat}, Kd.fit n k → ksz k < 2 ^ (n + 1)
  | .var x, n, _ => by
    have : 2 ^ 1 ≤ 2 ^ (n + 1) := Nat.pow_le_pow_right (by decide) (by omega)
    show 1 < _
    omega
  | .con x, n, _ => by
    have : 2 ^ 1 ≤ 2 ^ (n + 1) := Nat.pow_le_pow_right (by decide) (by omega)
    show 1 < _
    omega
  | .app f b, n, h => by
    obtain ⟨m, rfl, h1, h2⟩ := Kd.fit_app h
    have a := ksz_fit h1
    have b := ksz_fit h2
    show 1 + ksz _ + ksz _ < 2 ^ (m + 1 + 1)
    rw [Nat.pow_succ 2 (m + 1)]
    omega
theorem ksz_10 {k : Kd} {n : Nat} (h : Kd.fit n k) (hn : n ≤ 12) : ksz k ≤ 8192 := by
  have a := ksz_fit h
  have : 2 ^ (n + 1) ≤ 2 ^ 13 := Nat.pow_le_pow_right (by decide) (by omega)
  omega
theorem wok_to : Wok "to" := ⟨by decide +kernel, by decide +kernel, by decide +kernel⟩
theorem fit_con {n : Nat} {c : Str} (h : Wok c) : Kd.fit n (.con c) := by cases n <;> exact h
abbrev s_is_arrow : Stmt := topS 9
abbrev N_is_arrow : List Str := ["kind", "head", "parts"]
theorem sc_is_arrow : FnScope N_is_arrow ["kind"] (defScope s_is_arrow) := ⟨rfl, rfl, rfl, by decide +kernel, rfl, by decide +kernel, by decide +kernel⟩
def spArr (n : Nat) : Sp := fun vs H Q _ => ∃ (v : V) (k : Kd), vs = [v] ∧ KdAt H v k ∧ Kd.fit n k ∧ n ≤ 12 ∧ ∀ (H' : Hp), Same H H' → Q (.bl (isFun k)) H'
theorem ok_arr {n : Nat} {f : Addr} {fd : FuncData} (F : Fun K "is_arrow" "is_arrow" s_is_arrow f fd) (B : Bl mg) (D_spine_of : Kn P w K mg base 1 "spine_of" ["kind"] spSpine) : FnOk P w K mg base CX0 2 f fd ["kind"] (spArr n) := by
  refine F.ok sc_is_arrow (fun vs H Q E h => ?_) (fun cdv A outer s H vs Q E hr h => ?_)
  · obtain ⟨v, k, rfl, _⟩ := h
    rfl
  · obtain ⟨v, k0, rfl, hk, hf, hn, k⟩ := h
    have hr_spine_of : Room 1 _ := hr
    have hu64 := hr.units
    have hz := ksz_10 hf hn
    refine ⟨_, (pss_cons (ps_asg (pe_kn D_spine_of hr_spine_of (pa_cons (pv 0) pa_nil)) (pg_tup (by rfl) (pgs_cons (pg_name (i := 1) sc_is_arrow.nd rfl (Or.inl rfl)) (pgs_cons (pg_name (i := 2) sc_is_arrow.nd rfl (Or.inl rfl)) pgs_nil))))
  (pss_one (ps_ret (pe_and (pe_cmpR (op_eqD hu64) (pv 1) (pe_tup (pa_cons pe_str (pa_cons pe_str pa_nil))) (nomark _)) (pe_one (pe_cmpR op_eq (pe_callB call_len (by rfl) B.len PySem.boot_len (pa_cons (pv 2) pa_nil)) pe_int (nomark _))))))), ?_⟩
    refine ⟨_, rfl, v, k0, rfl, hk, by omega, fun H1 p l vh ps s1 _ g1 hh gl hs => ?_⟩
    refine ⟨p, _, rfl, SqT.of g1, rfl, _, _, rfl, _, _, rfl, rfl, _, rfl, slz rfl, fun q hq => ?_⟩
    have sq : Same H1 (upd H1 q (.tup [.str "con", .str "to"])) := same_new hq
    have vq : KdAt (upd H1 q (.tup [.str "con", .str "to"])) (.ref q) (.con "to") := ⟨q, rfl, upd_same⟩
    generalize upd H1 q (.tup [.str "con", .str "to"]) = H2 at sq vq ⊢
    refine ⟨_, _, (KdAt.tups (same_tups sq) hh).dp, vq.dp, Kd.shaped (spine_fit hf).1 (by omega), Kd.shaped (n := 0) (fit_con wok_to) (by decide), _, rfl, ?_⟩
    rw [Kd.eqv, eq_to]
    rw [isFun_spine] at k
    cases ht : isTo (spine k0 []).1 with
    | false =>
      rw [ht] at k
      exact iF rfl (k H2 (s1.trans sq))
    | true =>
      rw [ht] at k
      refine iT rfl ?_
      refine ⟨_, rfl, .ref l, ps.length, rfl, .inl ⟨ps, SqL.of (sq _ _ gl), rfl⟩, rfl, ?_⟩
      have e : decide (V.int (ps.length : Int) = .int 2) = (true && decide ((spine k0 []).2.length = 2)) := by
        rw [Bool.true_and, decide_eq_decide, Paired.length hs]
        exact ⟨fun z => Int.ofNat.inj (V.int.inj z), fun z => by rw [z]; rfl⟩
      rw [e]
      exact k H2 (s1.trans sq)
end
end L3

/-! pieces joined; pieces by what a kind begins with -/
namespace L3
open PySem L2 TL
def jn (l : List Str) : Str := Txt.join " " l
theorem jn_one (x : Str) : jn [x] = x := by
  unfold jn
  rw [join_eq]
  rfl
theorem jn_cons (x : Str) {l : List Str} (h : l ≠ []) : jn (x :: l) = x ++ " " ++ jn l := by
  unfold jn
  rw [join_eq, join_eq]
  cases l with
  | nil => exact absurd rfl h
  | cons y r => rfl
theorem str_assoc (a b c : Str) : a ++ b ++ c = a ++ (b ++ c) := PySem.Str.append_assoc a b c
theorem jn_app : ∀ {l m : List Str}, l ≠ [] → m ≠ [] → jn (l ++ m) = jn l ++ " " ++ jn m
  | [], m, h, _ => absurd rfl h
  | [x], m, _, hm => by rw [jn_one]; exact jn_cons x hm
  | x :: y :: l, m, _, hm => by
    show jn (x :: (y :: l ++ m)) = _
    rw [jn_cons x (by simp), jn_app (l := y :: l) (by simp) hm, jn_cons x (l := y :: l) (by simp)]
    simp only [str_assoc]
theorem jn_flat : ∀ {ls : List (List Str)}, (∀ l ∈ ls, l ≠ []) → jn ls.flatten = jn (ls.map jn)
  | [], _ => rfl
  | [l], _ => by
    show jn (l ++ []) = jn [jn l]
    rw [List.append_nil, jn_one]
  | l :: m :: r, h => by
    have hm : (m :: r).flatten ≠ [] := by
      show m ++ r.flatten ≠ []
      intro e
      exact h m (by simp) (List.append_eq_nil_iff.mp e).1
    show jn (l ++ (m :: r).flatten) = jn (jn l :: (m :: r).map jn)
    rw [jn_app (h l (by simp)) hm, jn_flat (ls := m :: r) fun x hx => h x (List.mem_cons_of_mem _ hx), jn_cons _ (by simp)]
def plen (l : List Str) : Nat := (l.map (·.length)).sum + l.length
theorem plen_app (l m : List Str) : plen (l ++ m) = plen l + plen m := by
  unfold plen
  rw [List.map_append, List.sum_append, List.length_append]
  omega
theorem plen_cons (x : Str) (m : List Str) : plen (x :: m) = x.length + 1 + plen m := by
  unfold plen
  rw [List.map_cons, List.sum_cons, List.length_cons]
  omega
theorem jn_len : ∀ {l : List Str}, l ≠ [] → (jn l).length + 1 = plen l
  | [], h => absurd rfl h
  | [x], _ => by rw [jn_one, plen_cons]; rfl
  | x :: y :: l, _ => by
    rw [jn_cons x (by simp), plen_cons, ← jn_len (l := y :: l) (by simp), PySem.Str.length_append, PySem.Str.length_append]
    show x.length + 1 + _ + 1 = _
    omega
def pL (k : Kd) : List Str := (wrL k (rows k)).flat
def pT (k : Kd) : List Str := (wrT k (rows k)).flat
theorem pL_eq (k : Kd) : pL k = if isFun k then ("(" : Str) :: (pcs k ++ [(")" : Str)]) else pcs k := by
  unfold pL wrL
  cases isFun k <;> rfl
theorem pT_eq (k : Kd) : pT k = if isApp k then ("(" : Str) :: (pcs k ++ [(")" : Str)]) else pcs k := by
  unfold pT wrT
  cases isApp k <;> rfl
theorem pL_ne (k : Kd) : pL k ≠ [] := by
  rw [pL_eq]
  cases isFun k with
  | true => exact fun z => by cases z
  | false => exact pcs_ne k
theorem pT_ne (k : Kd) : pT k ≠ [] := by
  rw [pT_eq]
  cases isApp k with
  | true => exact fun z => by cases z
  | false => exact pcs_ne k
def pA (a b : Kd) : List Str := pL a ++ ("->" : Str) :: pcs b
theorem pA_ne (a b : Kd) : pA a b ≠ [] := fun e => pL_ne a (List.append_eq_nil_iff.mp e).1
theorem pcs_fun (a b : Kd) : pcs (.app (.app (.con "to") a) b) = pA a b := by
  unfold pcs pA pL
  rw [rows_fun, Row.flat_app]
  rfl
theorem pcs_app {f b : Kd} (h : isFun (.app f b) = false) : pcs (.app f b) = pL f ++ pT b := by
  unfold pcs pL pT
  rw [rows_app h, Row.flat_app]
theorem plen_pcs : ∀ (k : Kd), k.wk → plen (pcs k) ≤ 20 * ksz k
  | .var x, h => by
    show plen [("'" : Str) ++ x] ≤ 20 * 1
    rw [plen_cons, PySem.Str.length_append]
    have := h.2.1
    show 1 + x.length + 1 + 0 ≤ _
    omega
  | .con x, h => by
    show plen [x] ≤ 20 * 1
    rw [plen_cons]
    have := h.2.1
    show x.length + 1 + 0 ≤ _
    omega
  | .app f b, h => by
    have wr : ∀ (c : Bool) (l : List Str), plen (if c then ("(" : Str) :: (l ++ [(")" : Str)]) else l) ≤ plen l + 4 := fun c l => by
      cases c with
      | true =>
        show plen (("(" : Str) :: (l ++ [(")" : Str)])) ≤ _
        rw [plen_cons, plen_app, plen_cons]
        show 1 + 1 + (plen l + (1 + 1 + 0)) ≤ _
        omega
      | false => exact Nat.le_add_right _ _
    cases hf : isFun (.app f b) with
    | true =>
      obtain ⟨a, b', e⟩ := isFun_of hf
      obtain ⟨rfl, rfl⟩ := Kd.app.inj e
      have h1 := plen_pcs a h.1.2
      have h2 := plen_pcs b h.2
      have h3 := wr (isFun a) (pcs a)
      rw [pcs_fun]
      unfold pA
      rw [plen_app, plen_cons, pL_eq]
      show _ + (2 + 1 + _) ≤ 20 * (1 + (1 + 1 + ksz a) + ksz b)
      omega
    | false =>
      have h1 := plen_pcs f h.1
      have h2 := plen_pcs b h.2
      have h3 := wr (isFun f) (pcs f)
      have h4 := wr (isApp b) (pcs b)
      rw [pcs_app hf, plen_app, pL_eq, pT_eq]
      show _ ≤ 20 * (1 + ksz f + ksz b)
      omega
theorem lit_open : ("( " : Str) = ("(" : Str) ++ " " := by decide +kernel
theorem lit_shut : (" )" : Str) = (" " : Str) ++ ")" := by decide +kernel
theorem lit_arr : (" -> " : Str) = (" " : Str) ++ "->" ++ " " := by decide +kernel
theorem jn_paren {l : List Str} (h : l ≠ []) : ("( " : Str) ++ jn l ++ " )" = jn (("(" : Str) :: (l ++ [(")" : Str)])) := by
  rw [jn_cons _ (by simp), jn_app h (by simp), jn_one, lit_open, lit_shut]
  simp only [str_assoc]
theorem jn_arrow (a b : Kd) : jn (pL a) ++ " -> " ++ txt b = jn (pA a b) := by
  unfold pA
  rw [jn_app (pL_ne a) (by simp), jn_cons _ (pcs_ne b), lit_arr]
  show _ = jn (pL a) ++ " " ++ ("->" ++ " " ++ txt b)
  simp only [str_assoc]
end L3

namespace L3
open PySem L2
theorem pcs_spine_else : ∀ (k : Kd), (isTo (spine k []).1 = false ∨ (spine k []).2.length < 2) → pcs k = atomT (spine k []).1 :: ((spine k []).2.map pT).flatten
  | .var x, _ => rfl
  | .con x, _ => rfl
  | .app f b, h => by
    have hk : isFun (.app f b) = false := by
      rw [isFun_spine]
      rcases h with h | h
      · rw [h, Bool.false_and]
      · rw [decide_eq_false (by omega), Bool.and_false]
    rw [spine_app1] at h ⊢
    have h' : isTo (spine f []).1 = false ∨ (spine f []).2.length + 1 < 2 := by
      rcases h with h | h
      · exact .inl h
      · refine .inr ?_
        rw [List.length_append] at h
        exact h
    have hf : isFun f = false := by
      rw [isFun_spine]
      rcases h' with h | h
      · rw [h, Bool.false_and]
      · rw [decide_eq_false (by omega), Bool.and_false]
    have ih := pcs_spine_else f (h'.imp id (by omega))
    rw [pcs_app hk, pL_eq, hf, if_neg (by decide), ih]
    simp
theorem pcs_spine_to : ∀ (k a b : Kd) (r : List Kd), isTo (spine k []).1 = true → (spine k []).2 = a :: b :: r → pcs k = (if r = [] then pA a b else ("(" : Str) :: (pA a b ++ [(")" : Str)])) ++ (r.map pT).flatten
  | .var x, a, b, r, _, h => by cases h
  | .con x, a, b, r, _, h => by cases h
  | .app f x, a, b, r, ht, h => by
    rw [spine_app1] at h ht
    have ht : isTo (spine f []).1 = true := ht
    have h : (spine f []).2 ++ [x] = a :: b :: r := h
    rcases List.eq_nil_or_concat r with rfl | ⟨r0, y, rfl⟩
    · have e : (spine f []).2 ++ [x] = [a] ++ [b] := h
      obtain ⟨e1, e2⟩ := List.append_inj' e rfl
      obtain rfl : x = b := (List.cons.inj e2).1
      cases f with
      | var z => cases e1
      | con z => cases e1
      | app g y =>
        rw [spine_app1] at e1 ht
        have e1 : (spine g []).2 ++ [y] = [] ++ [a] := e1
        obtain ⟨e3, e4⟩ := List.append_inj' e1 rfl
        obtain rfl : y = a := (List.cons.inj e4).1
        obtain ⟨e5, e6⟩ := spine_snd_nil e3
        rw [e5] at ht
        have : g = .con "to" := by
          rw [← eq_to] at ht
          exact of_decide_eq_true ht
        subst this
        rw [pcs_fun]
        simp
    · rw [List.concat_eq_append] at h ⊢
      have e : (spine f []).2 ++ [x] = (a :: b :: r0) ++ [y] := h
      obtain ⟨e1, e2⟩ := List.append_inj' e rfl
      obtain rfl : x = y := (List.cons.inj e2).1
      have hk : isFun (.app f x) = false := by
        rw [isFun_spine, spine_app1, e1, decide_eq_false (by simp), Bool.and_false]
      have ih := pcs_spine_to f a b r0 ht e1
      have hf : isFun f = decide (r0 = []) := by
        rw [isFun_spine, ht, e1]
        cases r0 <;> simp
      rw [pcs_app hk, pL_eq, hf, ih]
      cases r0 with
      | nil => simp
      | cons z r0 => simp
theorem fn_falseN {P : Program} {w : World} {K : PySem.W.Frag} {mg : Str → Option Value} {base : Heap} {f : Addr} {fd : FuncData} {ps : List Str} {k : Nat} : FnOk P w K mg base CX0 k f fd ps (fun _ _ _ _ => False) :=
  ⟨fun _ _ _ _ h => h.elim, fun _ _ _ _ _ _ _ _ _ _ _ _ _ h => h.elim⟩
theorem cut_two (a b : V) (r : List V) : cutV (a :: b :: r) (some 2) none = r := by
  unfold cutV
  simp [HT.sIx]
theorem spine_head : ∀ (k : Kd) (ps : List Kd), isApp (spine k ps).1 = false
  | .var x, ps => rfl
  | .con x, ps => rfl
  | .app f x, ps => spine_head f (x :: ps)
theorem isFun_app {k : Kd} (h : isFun k = true) : isApp k = true := by
  obtain ⟨a, b, rfl⟩ := isFun_of h
  rfl
theorem txt_len {k : Kd} {n : Nat} (h : Kd.fit n k) (hn : n ≤ 12) : (txt k).length ≤ 163840 := by
  have h1 := plen_pcs k (Kd.fit_wk h)
  have h2 := jn_len (pcs_ne k)
  have h3 := ksz_10 h hn
  have h2 : (txt k).length + 1 = plen (pcs k) := h2
  omega
section
variable {P : Program} {w : World} {K : PySem.W.Frag} {mg : Str → Option Value} {base : Heap}
def spTxt (n : Nat) : Sp := fun vs H Q _ => ∃ (v : V) (k : Kd), vs = [v] ∧ KdAt H v k ∧ Kd.fit n k ∧ n ≤ 12 ∧ ∀ (H' : Hp), Same H H' → Q (.str (txt k)) H'
abbrev s_arrow_text : Stmt := topS 11
abbrev N_arrow_text : List Str := ["left", "right", "side"]
theorem sc_arrow_text : FnScope N_arrow_text ["left", "right"] (defScope s_arrow_text) := ⟨rfl, rfl, rfl, by decide +kernel, rfl, by decide +kernel, by decide +kernel⟩
abbrev s_part_text : Stmt := topS 12
abbrev N_part_text : List Str := ["kind"]
theorem sc_part_text : FnScope N_part_text ["kind"] (defScope s_part_text) := ⟨rfl, rfl, rfl, by decide +kernel, rfl, by decide +kernel, by decide +kernel⟩
abbrev s_text_of : Stmt := topS 10
abbrev N_text_of : List Str := ["kind", "head", "parts", "first", "sign", "part"]
theorem sc_text_of : FnScope N_text_of ["kind"] (defScope s_text_of) := ⟨rfl, rfl, rfl, by decide +kernel, rfl, by decide +kernel, by decide +kernel⟩
def spArrT (n : Nat) : Sp := fun vs H Q _ => ∃ (v1 v2 : V) (a b : Kd), vs = [v1, v2] ∧ KdAt H v1 a ∧ KdAt H v2 b ∧ Kd.fit n a ∧ Kd.fit n b ∧ n ≤ 12 ∧ ∀ (H' : Hp), Same H H' → Q (.str (jn (pA a b))) H'
def spPartT (n : Nat) : Sp := fun vs H Q _ => ∃ (v : V) (k : Kd), vs = [v] ∧ KdAt H v k ∧ Kd.fit n k ∧ n ≤ 12 ∧ ∀ (H' : Hp), Same H H' → Q (.str (jn (pT k))) H'
theorem ok_arrT {n : Nat} {f : Addr} {fd : FuncData} (F : Fun K "arrow_text" "arrow_text" s_arrow_text f fd) (D_is_arrow : Kn P w K mg base 2 "is_arrow" ["kind"] (spArr n)) (D_text_of : Kn P w K mg base (2 * n + 3) "text_of" ["kind"] (spTxt n)) : FnOk P w K mg base CX0 (2 * n + 4) f fd ["left", "right"] (spArrT n) := by
  refine F.ok sc_arrow_text (fun vs H Q E h => ?_) (fun cdv A outer s H vs Q E hr h => ?_)
  · obtain ⟨v1, v2, a, b, rfl, _⟩ := h
    rfl
  · obtain ⟨v1, v2, a, b, rfl, h1, h2, f1, f2, hn, k⟩ := h
    have hr_text_of : Room (2 * n + 3) _ := hr
    have hr_is_arrow : Room 2 _ := hr.mono (by omega)
    have l1 := txt_len f1 hn
    have l2 := txt_len f2 hn
    refine ⟨_, (pss_cons (ps_set (i := 2) sc_arrow_text.nd rfl (Or.inl rfl) (pe_kn D_text_of hr_text_of (pa_cons (pv 0) pa_nil)))
  (pss_cons (ps_if (pt_val (pe_kn D_is_arrow hr_is_arrow (pa_cons (pv 0) pa_nil)))
  (pss_one (ps_set (i := 2) sc_arrow_text.nd rfl (Or.inl rfl) (pe_op op_add_str (pe_op op_add_str pe_str (pv 2)) pe_str)))
  pss_nil)
  (pss_one (ps_ret (pe_op op_add_str (pe_op op_add_str (pv 2) pe_str) (pe_kn D_text_of hr_text_of (pa_cons (pv 1) pa_nil))))))), ?_⟩
    refine ⟨_, rfl, v1, a, rfl, h1, f1, hn, fun H1 s1 => ?_⟩
    refine ⟨_, rfl, v1, a, rfl, KdAt.tups (same_tups s1) h1, f1, hn, fun H2 s2 => ?_⟩
    refine ⟨_, rfl, ?_⟩
    have S2 := s1.trans s2
    cases hf : isFun a with
    | true =>
      refine iT rfl ?_
      refine ⟨_, rfl, _, _, rfl, rfl, Nat.le_of_lt (szl (by show 2 + _ ≤ _; omega)), _, _, rfl, rfl, Nat.le_of_lt (szl (by rw [PySem.Str.length_append]; show 2 + _ + 2 ≤ _; omega)), ?_⟩
      have e : ("( " : Str) ++ txt a ++ " )" = jn (pL a) := by
        rw [pL_eq, hf, if_pos rfl]
        exact jn_paren (pcs_ne a)
      rw [e]
      have lz : (jn (pL a)).length ≤ 163844 := by
        rw [← e, PySem.Str.length_append, PySem.Str.length_append]
        show 2 + _ + 2 ≤ _
        omega
      refine ⟨_, rfl, _, _, rfl, rfl, Nat.le_of_lt (szl (by show _ + 4 ≤ _; omega)), _, rfl, v2, b, rfl, KdAt.tups (same_tups S2) h2, f2, hn, fun H3 s3 => ⟨_, _, rfl, rfl, Nat.le_of_lt (szl (by rw [PySem.Str.length_append]; show _ + 4 + _ ≤ _; omega)), ?_⟩⟩
      rw [jn_arrow]
      exact k H3 (S2.trans s3)
    | false =>
      refine iF rfl ?_
      have e : txt a = jn (pL a) := by
        rw [pL_eq, hf]
        rfl
      rw [e]
      have lz : (jn (pL a)).length ≤ 163844 := by
        rw [← e]
        omega
      refine ⟨_, rfl, _, _, rfl, rfl, Nat.le_of_lt (szl (by show _ + 4 ≤ _; omega)), _, rfl, v2, b, rfl, KdAt.tups (same_tups S2) h2, f2, hn, fun H3 s3 => ⟨_, _, rfl, rfl, Nat.le_of_lt (szl (by rw [PySem.Str.length_append]; show _ + 4 + _ ≤ _; omega)), ?_⟩⟩
      rw [jn_arrow]
      exact k H3 (S2.trans s3)
theorem ok_partT {n : Nat} {f : Addr} {fd : FuncData} (F : Fun K "part_text" "part_text" s_part_text f fd) (D_text_of : Kn P w K mg base (2 * n + 3) "text_of" ["kind"] (spTxt n)) : FnOk P w K mg base CX0 (2 * n + 4) f fd ["kind"] (spPartT n) := by
  refine F.ok sc_part_text (fun vs H Q E h => ?_) (fun cdv A outer s H vs Q E hr h => ?_)
  · obtain ⟨v, k0, rfl, _⟩ := h
    rfl
  · obtain ⟨v, k0, rfl, h1, f1, hn, k⟩ := h
    have hr_text_of : Room (2 * n + 3) _ := hr
    have l1 := txt_len f1 hn
    refine ⟨_, (pss_cons (ps_if (pt_cmpR op_eq (pe_ix ix_tup (pv 0) pe_int (fun _ _ => rfl)) pe_str (nomark _))
  (pss_one (ps_ret (pe_op op_add_str (pe_op op_add_str pe_str (pe_kn D_text_of hr_text_of (pa_cons (pv 0) pa_nil))) pe_str)))
  pss_nil)
  (pss_one (ps_ret (pe_kn D_text_of hr_text_of (pa_cons (pv 0) pa_nil))))), ?_⟩
    have e0 : ∀ c, isApp k0 = c → jn (pT k0) = if c then ("( " : Str) ++ txt k0 ++ " )" else txt k0 := fun c e => by
      rw [pT_eq, e]
      cases c with
      | true => exact (jn_paren (pcs_ne k0)).symm
      | false => rfl
    cases k0 with
    | app a b =>
      obtain ⟨p, u, z, rfl, hp, _, _⟩ := id h1
      refine ⟨_, rfl, _, _, _, _, rfl, rfl, SqT.of hp, rfl, rfl, _, rfl, iT tg_aa ?_⟩
      refine ⟨_, rfl, _, _, rfl, h1, f1, hn, fun H1 s1 => ⟨_, _, rfl, rfl, Nat.le_of_lt (szl (by show 2 + _ ≤ _; omega)), _, _, rfl, rfl, Nat.le_of_lt (szl (by rw [PySem.Str.length_append]; show 2 + _ + 2 ≤ _; omega)), ?_⟩⟩
      rw [e0 true rfl] at k
      exact k H1 s1
    | var x =>
      obtain ⟨p, rfl, hp⟩ := id h1
      refine ⟨_, rfl, _, _, _, _, rfl, rfl, SqT.of hp, rfl, rfl, _, rfl, iF tg_va ?_⟩
      rw [e0 false rfl] at k
      exact ⟨_, rfl, _, _, rfl, h1, f1, hn, k⟩
    | con x =>
      obtain ⟨p, rfl, hp⟩ := id h1
      refine ⟨_, rfl, _, _, _, _, rfl, rfl, SqT.of hp, rfl, rfl, _, rfl, iF tg_ca ?_⟩
      rw [e0 false rfl] at k
      exact ⟨_, rfl, _, _, rfl, h1, f1, hn, k⟩
def spPrev (f : Nat → Sp) : Nat → Sp
  | 0 => fun _ _ _ _ => False
  | n + 1 => f n
theorem pl_plen (l : List Str) : (l.map (·.length)).sum + l.length * (" " : Str).length = plen l := by
  unfold plen
  rw [show (" " : Str).length = 1 by decide +kernel, Nat.mul_one]
theorem empty_app (x : Str) : ("" : Str) ++ x = x := by
  show (⟨#[] ++ x.cps⟩ : Str) = x
  rw [Array.empty_append]
/-- the texts of the parts -/
theorem comp_ok {n : Nat} {v vh : V} {l lq : Addr} {a3 a4 a5 : Option V} {xs : List V} {ks : List Kd} {H : Hp} {Q : VK} (gq : H lq = some (.lst xs)) (hk : KdsAt H xs ks) (hf : ∀ x ∈ ks, ∃ m, m < n ∧ Kd.fit m x) (hn : n ≤ 12) (hl : ks.length ≤ 900000)
    (k : ∀ H' D, Same H H' → H' D = some (.lst ((ks.map fun x => jn (pT x)).map V.str)) → Q (.ref D) H') : tLc (fun _ H R => R (Itl K lq) H) (gName 5) tYes (tCall (spPrev spPartT n) [] E0 (tCons (tVar 5) tNil)) [5] [some v, some vh, some (.ref l), a3, a4, a5] H Q := by
  refine fun D hD => lc_it walk_list (fun i H' => Same H H' ∧ H' D = some (.lst (((ks.take i).map fun x => jn (pT x)).map V.str))) ⟨same_new hD, upd_same⟩ (fun i H' _ h => SqL.of (h.1 _ _ gq)) ?_ ?_
  · rintro i y H1 H2 hi ⟨s1, g1⟩ ⟨rfl, ey⟩
    obtain ⟨ky, hky, hy⟩ := paired_get hk ey
    have hm : ky ∈ ks := List.mem_of_getElem? hky
    obtain ⟨m, hmn, fm⟩ := hf ky hm
    obtain ⟨n', rfl⟩ : ∃ n', n = n' + 1 := ⟨n - 1, by omega⟩
    refine ⟨rfl, ?_⟩
    refine ⟨_, rfl, y, ky, rfl, KdAt.tups (same_tups s1) hy, Kd.fit_mono (by omega) fm, by omega, fun H3 s3 => ?_⟩
    refine ⟨_, s3 _ _ g1, szl (by rw [List.length_map, List.length_map, List.length_take]; omega), fun b o e => ?_, ?_⟩
    · rw [upd_ne (ne_of_none e hD)]
      exact s3 _ _ (s1 _ _ e)
    · rw [upd_same, List.take_add_one, hky, List.map_append, List.map_append]
      rfl
  · rintro H1 ⟨s1, g1⟩
    have e : ks.take xs.length = ks := by rw [Paired.length hk, List.take_length]
    rw [e] at g1
    exact k H1 D s1 g1
theorem ok_txt {n : Nat} {f : Addr} {fd : FuncData} (F : Fun K "text_of" "text_of" s_text_of f fd) (B : Bl mg) (D_spine_of : Kn P w K mg base 1 "spine_of" ["kind"] spSpine) (D_arrow_text : Kn P w K mg base (2 * n + 2) "arrow_text" ["left", "right"] (spPrev spArrT n)) (D_part_text : Kn P w K mg base (2 * n + 2) "part_text" ["kind"] (spPrev spPartT n)) : FnOk P w K mg base CX0 (2 * n + 3) f fd ["kind"] (spTxt n) := by
  refine F.ok sc_text_of (fun vs H Q E h => ?_) (fun cdv A outer s H vs Q E hr h => ?_)
  · obtain ⟨v, k0, rfl, _⟩ := h
    rfl
  · obtain ⟨v, k0, rfl, h1, f1, hn, k⟩ := h
    have hr_arrow_text : Room (2 * n + 2) _ := hr
    have hr_part_text : Room (2 * n + 2) _ := hr
    have hr_spine_of : Room 1 _ := hr.mono (by omega)
    have hu64 := hr.units
    have l1 := txt_len f1 hn
    have hz := ksz_10 f1 hn
    have hsl := spine_len k0 []
    obtain ⟨sf1, sf2⟩ := spine_fit f1
    have hsl' : (spine k0 []).2.length ≤ ksz k0 := by simpa using hsl
    have hna := spine_head k0 []
    refine ⟨_, (pss_cons (ps_asg (pe_kn D_spine_of hr_spine_of (pa_cons (pv 0) pa_nil)) (pg_tup (by rfl) (pgs_cons (pg_name (i := 1) sc_text_of.nd rfl (Or.inl rfl)) (pgs_cons (pg_name (i := 2) sc_text_of.nd rfl (Or.inl rfl)) pgs_nil))))
  (pss_cons (ps_if (PW.pt (pw_and (pt_cmpR (op_eqD hu64) (pv 1) (pe_tup (pa_cons pe_str (pa_cons pe_str pa_nil))) (nomark _)) (pw_and1 (pt_cmpR op_ge (pe_callB call_len (by rfl) B.len PySem.boot_len (pa_cons (pv 2) pa_nil)) pe_int (nomark _)))))
  (pss_cons (ps_set (i := 3) sc_text_of.nd rfl (Or.inl rfl) (pe_kn D_arrow_text hr_arrow_text (pa_cons (pe_ix ix_list (pv 2) pe_int (fun _ _ => rfl)) (pa_cons (pe_ix ix_list (pv 2) pe_int (fun _ _ => rfl)) pa_nil))))
  (pss_cons (ps_if (pt_cmpR op_eq (pe_callB call_len (by rfl) B.len PySem.boot_len (pa_cons (pv 2) pa_nil)) pe_int (nomark _))
  (pss_one (ps_ret (pv 3)))
  pss_nil)
  (pss_one (ps_ret (pe_join pe_str (pe_op op_cat (pe_lst (pa_cons (pe_op op_add_str (pe_op op_add_str pe_str (pv 3)) pe_str) pa_nil)) (pe_lc (own := [("part", 5)]) rfl sc_text_of.nd (pi_list (pe_slice sl_list (pv 2) (po_some pe_int) po_none)) (blkOk_by (N := N_text_of) (sc := (defScope s_text_of)) (own := [("part", 5)]) (by decide +kernel)) (fun _ _ _ _ _ => (pg_name (i := 5) sc_text_of.nd rfl (Or.inl rfl))) (fun _ _ _ _ _ => pts_nil) (fun _ _ _ _ _ => (pe_kn D_part_text hr_part_text (pa_cons (pv 5) pa_nil))))))))))
  pss_nil)
  (pss_cons (ps_set (i := 4) sc_text_of.nd rfl (Or.inl rfl) (pe_ifExp (pt_cmpR op_eq (pe_ix ix_tup (pv 1) pe_int (fun _ _ => rfl)) pe_str (nomark _)) pe_str pe_str))
  (pss_one (ps_ret (pe_join pe_str (pe_op op_cat (pe_lst (pa_cons (pe_op op_add_str (pv 4) (pe_ix ix_tup (pv 1) pe_int (fun _ _ => rfl))) pa_nil)) (pe_lc (own := [("part", 5)]) rfl sc_text_of.nd (pi_list (pv 2)) (blkOk_by (N := N_text_of) (sc := (defScope s_text_of)) (own := [("part", 5)]) (by decide +kernel)) (fun _ _ _ _ _ => (pg_name (i := 5) sc_text_of.nd rfl (Or.inl rfl))) (fun _ _ _ _ _ => pts_nil) (fun _ _ _ _ _ => (pe_kn D_part_text hr_part_text (pa_cons (pv 5) pa_nil))))))))))), ?_⟩
    refine ⟨_, rfl, v, k0, rfl, h1, by omega, fun H1 p l vh ps s1 _ g1 hh gl hs => ?_⟩
    refine ⟨p, _, rfl, SqT.of g1, rfl, _, _, rfl, _, _, rfl, rfl, ?_⟩
    have el := pcs_spine_else k0
    have to := pcs_spine_to k0
    generalize hsp : (spine k0 []).1 = hd at *
    generalize hsq : (spine k0 []).2 = kps at *
    refine ⟨_, rfl, slz rfl, fun q hq => ?_⟩
    have sq : Same H1 (upd H1 q (.tup [.str "con", .str "to"])) := same_new hq
    have vq : KdAt (upd H1 q (.tup [.str "con", .str "to"])) (.ref q) (.con "to") := ⟨q, rfl, upd_same⟩
    generalize upd H1 q (.tup [.str "con", .str "to"]) = H2 at sq vq ⊢
    have S2 := s1.trans sq
    have hh2 := KdAt.tups (same_tups sq) hh
    have hs2 := KdsAt.tups (same_tups sq) hs
    have gl2 := sq _ _ gl
    refine ⟨_, _, hh2.dp, vq.dp, Kd.shaped sf1 (by omega), Kd.shaped (n := 0) (fit_con wok_to) (by decide), _, rfl, ?_⟩
    rw [Kd.eqv, eq_to]
    have e2 : ∀ (ls : List (List Str)), (∀ l ∈ ls, l ≠ []) → plen (ls.map jn) = plen ls.flatten := fun ls => by
      induction ls with
      | nil => exact fun _ => rfl
      | cons l ls ih =>
        intro h
        rw [List.map_cons, plen_cons, jn_len (h l (by simp)), ih fun x hx => h x (List.mem_cons_of_mem _ hx), List.flatten_cons, plen_app]
    have pz := plen_pcs k0 (Kd.fit_wk f1)
    have lps : ps.length = kps.length := Paired.length hs
    have fin : ∀ (pre : List (List Str)) (r : List Kd), (∀ l ∈ pre, l ≠ []) → pcs k0 = pre.flatten ++ (r.map pT).flatten → jn (pre.map jn ++ r.map fun x => jn (pT x)) = txt k0 ∧ plen (pre.map jn ++ r.map fun x => jn (pT x)) ≤ 1000000 := fun pre r hp e => by
      have e3 : (pre.map jn ++ r.map fun x => jn (pT x)) = (pre ++ r.map pT).map jn := by
        rw [List.map_append, List.map_map]
        rfl
      have ne : ∀ l ∈ pre ++ r.map pT, l ≠ [] := fun l hl => by
        rcases List.mem_append.mp hl with hl | hl
        · exact hp l hl
        · obtain ⟨x, _, rfl⟩ := List.mem_map.mp hl
          exact pT_ne x
      have e4 : (pre ++ r.map pT).flatten = pcs k0 := by rw [List.flatten_append, e]
      rw [e3, ← jn_flat ne, e2 _ ne, e4]
      exact ⟨rfl, by omega⟩
    have tail : ∀ (pre : List Str) (r : List Kd) (la D : Addr) (H' : Hp), S2.trans (Same.refl H2) = S2 → Same H2 H' → H' la = some (.lst (pre.map V.str)) → H' D = some (.lst ((r.map fun x => jn (pT x)).map V.str)) → plen (pre ++ r.map fun x => jn (pT x)) ≤ 1000000 → jn (pre ++ r.map fun x => jn (pT x)) = txt k0 →
        rCat (.ref la) (.ref D) H' fun y H2 => ∃ a p, ∃ ys : List Str, V.str " " = .str a ∧ [y] = [V.ref p] ∧ (SqL K H2 p (ys.map V.str) ∨ SqT K H2 p (ys.map V.str)) ∧ (ys.map (·.length)).sum + ys.length * a.length ≤ 16777216 ∧ Q (.str (Txt.join a ys)) H2 := fun pre r la D H' _ s' ga gD hp e => by
      have ln : pre.length + (r.map fun x => jn (pT x)).length ≤ 1000000 := by
        unfold plen at hp
        rw [List.length_append] at hp
        omega
      refine ⟨la, D, _, _, rfl, rfl, ga, gD, Nat.le_of_lt (szl (by rw [List.length_map, List.length_map]; exact ln)), fun p hp' => ?_⟩
      refine ⟨_, p, pre ++ r.map fun x => jn (pT x), rfl, rfl, .inl (SqL.of ?_), by rw [pl_plen]; omega, ?_⟩
      · rw [upd_same, List.map_append]
      · have fin2 := k _ (S2.trans (s'.trans (same_new (o := .lst (pre.map V.str ++ (r.map fun x => jn (pT x)).map V.str)) hp')))
        rw [← e] at fin2
        exact fin2
    have elT : ∀ (sg x : Str) (la : Addr) (H' : Hp) (a3 a4 a5), (isTo hd = false ∨ kps.length < 2) → sg ++ x = atomT hd → Same H2 H' → H' la = some (.lst [.str (sg ++ x)]) → tLc (fun _ H R => R (Itl K l) H) (gName 5) tYes (tCall (spPrev spPartT n) [] E0 (tCons (tVar 5) tNil)) [5] [some v, some vh, some (.ref l), a3, a4, a5] H' fun z H3 => rCat (.ref la) z H3 fun y H2 => ∃ a p, ∃ ys : List Str, V.str " " = .str a ∧ [y] = [V.ref p] ∧ (SqL K H2 p (ys.map V.str) ∨ SqT K H2 p (ys.map V.str)) ∧ (ys.map (·.length)).sum + ys.length * a.length ≤ 16777216 ∧ Q (.str (Txt.join a ys)) H2 := fun sg x la H' a3 a4 a5 hc ea s' ga => by
      have e5 := el hc
      obtain ⟨e6, e7⟩ := fin [[atomT hd]] kps (fun l hl => by rw [List.mem_singleton.mp hl]; exact fun z => by cases z) (by rw [e5]; rfl)
      have e8 : [[atomT hd]].map jn = [atomT hd] := by
        show [jn [atomT hd]] = _
        rw [jn_one]
      rw [e8] at e6 e7
      rw [ea] at ga
      exact comp_ok (s' _ _ gl2) (KdsAt.tups (same_tups s') hs2) sf2 hn (by omega) fun H3 D s3 gD => tail [atomT hd] kps la D H3 rfl (s'.trans s3) (s3 _ _ ga) gD e7 e6
    cases ht : isTo hd with
    | false =>
      refine iF rfl (iF rfl ?_)
      unfold tNext
      dsimp only
      cases hd with
      | app a b => cases hna
      | var x =>
        obtain ⟨p', rfl, hp'⟩ := id hh2
        have wx : Wok x := by cases n <;> exact sf1
        refine ⟨_, rfl, _, _, _, _, rfl, rfl, SqT.of hp', rfl, rfl, _, rfl, iT tg_vv ?_⟩
        refine ⟨⟨_, rfl⟩, _, rfl, _, rfl, _, _, _, _, rfl, rfl, SqT.of hp', rfl, _, _, rfl, rfl, Nat.le_of_lt (szl ?_), slz rfl, fun la nl => ⟨_, rfl, l, rfl, ⟨_, SqL.of (same_new nl _ _ gl2)⟩, elT "'" x la _ _ _ _ (.inl ht) rfl (same_new nl) upd_same⟩⟩
        have := wx.2.1
        show 1 + x.length ≤ _
        omega
      | con x =>
        obtain ⟨p', rfl, hp'⟩ := id hh2
        have wx : Wok x := by cases n <;> exact sf1
        refine ⟨_, rfl, _, _, _, _, rfl, rfl, SqT.of hp', rfl, rfl, _, rfl, iF tg_cv ?_⟩
        refine ⟨⟨_, rfl⟩, _, rfl, _, rfl, _, _, _, _, rfl, rfl, SqT.of hp', rfl, _, _, rfl, rfl, Nat.le_of_lt (szl ?_), slz rfl, fun la nl => ⟨_, rfl, l, rfl, ⟨_, SqL.of (same_new nl _ _ gl2)⟩, elT "" x la _ _ _ _ (.inl ht) (empty_app x) (same_new nl) upd_same⟩⟩
        have := wx.2.1
        show 0 + x.length ≤ _
        omega
    | true =>
      refine iT rfl ?_
      refine ⟨_, rfl, .ref l, ps.length, rfl, .inl ⟨ps, SqL.of gl2, rfl⟩, _, _, rfl, rfl, _, rfl, ?_⟩
      by_cases h2 : kps.length < 2
      · refine iF (decide_eq_false (by omega)) ?_
        unfold tNext
        dsimp only
        cases hd with
        | app a b => cases hna
        | var x =>
          obtain ⟨p', rfl, hp'⟩ := id hh2
          have wx : Wok x := by cases n <;> exact sf1
          refine ⟨_, rfl, _, _, _, _, rfl, rfl, SqT.of hp', rfl, rfl, _, rfl, iT tg_vv ?_⟩
          refine ⟨⟨_, rfl⟩, _, rfl, _, rfl, _, _, _, _, rfl, rfl, SqT.of hp', rfl, _, _, rfl, rfl, Nat.le_of_lt (szl ?_), slz rfl, fun la nl => ⟨_, rfl, l, rfl, ⟨_, SqL.of (same_new nl _ _ gl2)⟩, elT "'" x la _ _ _ _ (.inr h2) rfl (same_new nl) upd_same⟩⟩
          have := wx.2.1
          show 1 + x.length ≤ _
          omega
        | con x =>
          obtain ⟨p', rfl, hp'⟩ := id hh2
          have wx : Wok x := by cases n <;> exact sf1
          refine ⟨_, rfl, _, _, _, _, rfl, rfl, SqT.of hp', rfl, rfl, _, rfl, iF tg_cv ?_⟩
          refine ⟨⟨_, rfl⟩, _, rfl, _, rfl, _, _, _, _, rfl, rfl, SqT.of hp', rfl, _, _, rfl, rfl, Nat.le_of_lt (szl ?_), slz rfl, fun la nl => ⟨_, rfl, l, rfl, ⟨_, SqL.of (same_new nl _ _ gl2)⟩, elT "" x la _ _ _ _ (.inr h2) (empty_app x) (same_new nl) upd_same⟩⟩
          have := wx.2.1
          show 0 + x.length ≤ _
          omega
      · refine iT (decide_eq_true (by omega)) ?_
        obtain ⟨a, b, r, e0⟩ : ∃ a b r, kps = a :: b :: r := by
          match kps, h2 with
          | [], h2 => exact absurd (by decide) h2
          | [_], h2 => exact absurd (Nat.lt_succ_self 1) h2
          | a :: b :: r, _ => exact ⟨a, b, r, rfl⟩
        have to := to a b r ht e0
        rw [e0] at hs2 sf2 lps
        · cases hs2 with
          | @cons va _ vs1 _ qa t1 =>
            cases t1 with
            | @cons vb _ vr _ qb qr =>
              obtain ⟨ma, hma, fa⟩ := sf2 a (by simp)
              obtain ⟨mb, hmb, fb⟩ := sf2 b (by simp)
              obtain ⟨n', rfl⟩ : ∃ n', n = n' + 1 := ⟨n - 1, by omega⟩
              refine ⟨_, rfl, _, _, 0, _, rfl, rfl, SqL.of gl2, at_ofG (j := 0) rfl rfl, _, rfl, _, _, 1, _, rfl, rfl, SqL.of gl2, at_ofG (j := 1) rfl rfl, va, vb, a, b, rfl, qa, qb, Kd.fit_mono (by omega) fa, Kd.fit_mono (by omega) fb, by omega, fun H3 s3 => ?_⟩
              have lj : (jn (pA a b)).length ≤ 200000 := by
                have h0 := jn_len (pA_ne a b)
                have : plen (pA a b) ≤ plen (pcs k0) := by
                  rw [to, plen_app]
                  cases r with
                  | nil => exact Nat.le_add_right _ _
                  | cons c r =>
                    rw [if_neg (by simp), plen_cons, plen_app]
                    omega
                omega
              have S3 := S2.trans s3
              refine ⟨_, rfl, .ref l, (va :: vb :: vr).length, rfl, .inl ⟨_, SqL.of (s3 _ _ gl2), rfl⟩, rfl, _, rfl, ?_⟩
              cases r with
              | nil =>
                cases qr
                have e : txt k0 = jn (pA a b) := by
                  unfold txt
                  rw [to]
                  simp [jn]
                refine iT (decide_eq_true rfl) ?_
                rw [e] at k
                exact ⟨_, rfl, k H3 S3⟩
              | cons c r =>
                refine iF (decide_eq_false fun z => ?_) ?_
                · have z := Int.ofNat.inj (V.int.inj z)
                  have := Paired.length qr
                  simp only [List.length_cons] at z this
                  omega
                refine ⟨⟨_, rfl⟩, _, rfl, _, _, rfl, rfl, Nat.le_of_lt (szl (by show 2 + _ ≤ _; omega)), _, _, rfl, rfl, Nat.le_of_lt (szl (by rw [PySem.Str.length_append]; show 2 + _ + 2 ≤ _; omega)), slz rfl, fun la nl => ?_⟩
                have sa := same_new (o := .lst [.str (("( " : Str) ++ jn (pA a b) ++ " )")]) nl
                have ga : (upd H3 la (.lst [.str (("( " : Str) ++ jn (pA a b) ++ " )")])) la = some (.lst [.str (("( " : Str) ++ jn (pA a b) ++ " )")]) := upd_same
                generalize upd H3 la (.lst [.str (("( " : Str) ++ jn (pA a b) ++ " )")]) = H4 at sa ga ⊢
                refine ⟨_, rfl, 2, rfl, l, _, rfl, SqL.of (sa _ _ (s3 _ _ gl2)), fun lq nq => ?_⟩
                rw [cut_two]
                have sq5 := same_new (o := .lst vr) nq
                have gq5 : (upd H4 lq (.lst vr)) lq = some (.lst vr) := upd_same
                generalize upd H4 lq (.lst vr) = H5 at sq5 gq5 ⊢
                have s25 := s3.trans (sa.trans sq5)
                have to : pcs k0 = [("(" : Str) :: (pA a b ++ [(")" : Str)])].flatten ++ ((c :: r).map pT).flatten := by
                  rw [to, if_neg (by simp)]
                  simp
                obtain ⟨e6, e7⟩ := fin [("(" : Str) :: (pA a b ++ [(")" : Str)])] (c :: r) (fun l hl => by rw [List.mem_singleton.mp hl]; exact fun z => by cases z) to
                have e8 : [("(" : Str) :: (pA a b ++ [(")" : Str)])].map jn = [("( " : Str) ++ jn (pA a b) ++ " )"] := by
                  show [jn _] = _
                  rw [jn_paren (pA_ne a b)]
                rw [e8] at e6 e7
                have lcr : (c :: r).length ≤ 900000 := by
                  rw [e0] at hsl'
                  simp only [List.length_cons] at hsl' ⊢
                  omega
                have fin3 : tLc (fun _ H R => R (Itl K lq) H) (gName 5) tYes (tCall (spPrev spPartT (n' + 1)) [] E0 (tCons (tVar 5) tNil)) [5] [some v, some vh, some (.ref l), some (.str (jn (pA a b))), none, none] H5 fun z H3 => rCat (.ref la) z H3 fun y H2 => ∃ a p, ∃ ys : List Str, V.str " " = .str a ∧ [y] = [V.ref p] ∧ (SqL K H2 p (ys.map V.str) ∨ SqT K H2 p (ys.map V.str)) ∧ (ys.map (·.length)).sum + ys.length * a.length ≤ 16777216 ∧ Q (.str (Txt.join a ys)) H2 :=
                  comp_ok (n := n' + 1) gq5 (KdsAt.tups (same_tups s25) qr) (fun x hx => sf2 x (by rw [List.mem_cons, List.mem_cons]; exact .inr (.inr hx))) hn lcr fun H6 D s6 gD => tail [("( " : Str) ++ jn (pA a b) ++ " )"] (c :: r) la D H6 rfl (s25.trans s6) (s6 _ _ (sq5 _ _ ga)) gD e7 e6
                exact ⟨lq, rfl, ⟨_, SqL.of gq5⟩, fin3⟩
/-- the texts of kinds, however deep -/
theorem txt_all {ft fa fp : Addr} {dt da dp : FuncData} (Ft : Fun K "text_of" "text_of" s_text_of ft dt) (Fa : Fun K "arrow_text" "arrow_text" s_arrow_text fa da) (Fp : Fun K "part_text" "part_text" s_part_text fp dp) (mt : mg "text_of" = some (.ref ft)) (ma : mg "arrow_text" = some (.ref fa)) (mp : mg "part_text" = some (.ref fp)) (B : Bl mg)
    (D_spine_of : Kn P w K mg base 1 "spine_of" ["kind"] spSpine) (D_is_arrow : ∀ n, Kn P w K mg base 2 "is_arrow" ["kind"] (spArr n)) : ∀ n, FnOk P w K mg base CX0 (2 * n + 3) ft dt ["kind"] (spTxt n)
  | 0 => ok_txt Ft B D_spine_of ⟨fa, da, fn_falseN, ma, Fa.kp, Fa.binds fun _ _ _ _ _ _ us hl => match us, hl with | [_, _], _ => rfl⟩ ⟨fp, dp, fn_falseN, mp, Fp.kp, Fp.binds fun _ _ _ _ _ _ us hl => match us, hl with | [_], _ => rfl⟩
  | n + 1 => by
    have Dt : Kn P w K mg base (2 * n + 3) "text_of" ["kind"] (spTxt n) := ⟨ft, dt, txt_all Ft Fa Fp mt ma mp B D_spine_of D_is_arrow n, mt, Ft.kp, Ft.binds fun _ _ _ _ _ _ us hl => match us, hl with | [_], _ => rfl⟩
    exact ok_txt Ft B D_spine_of ⟨fa, da, ok_arrT Fa (D_is_arrow n) Dt, ma, Fa.kp, Fa.binds fun _ _ _ _ _ _ us hl => match us, hl with | [_, _], _ => rfl⟩ ⟨fp, dp, ok_partT Fp Dt, mp, Fp.kp, Fp.binds fun _ _ _ _ _ _ us hl => match us, hl with | [_], _ => rfl⟩
end
end L3

/-! the law's own: to, head_of, is_function, pieces -/
namespace L3
open PySem L2
def arrow (a b : Kd) : Kd := .app (.app (.con "to") a) b
theorem ksz_pos (k : Kd) : 1 ≤ ksz k := by cases k <;> simp only [ksz] <;> omega
theorem cut_last (xs : List V) (x : V) : cutV (xs ++ [x]) none (some (-1)) = xs := by
  unfold cutV
  have e : HT.sIx (xs ++ [x]).length (xs ++ [x]).length (some (-1)) = xs.length := by
    unfold HT.sIx
    rw [List.length_append]
    simp
    omega
  rw [e, HT.sIx_none, List.drop_zero, Nat.sub_zero, List.take_left']
  rfl
theorem spine_foldl : ∀ (ps : List Kd) (k : Kd) (acc : List Kd), spine (ps.foldl Kd.app k) acc = spine k (ps ++ acc)
  | [], k, acc => rfl
  | p :: ps, k, acc => by
    show spine (ps.foldl Kd.app (.app k p)) acc = _
    rw [spine_foldl ps]
    rfl
theorem spine_of_foldl {kh kd : Kd} {kps : List Kd} (e : kps.foldl Kd.app kh = kd) (h : isApp kh = false) : spine kd [] = (kh, kps) := by
  rw [← e, spine_foldl, List.append_nil]
  cases kh with
  | app a b => cases h
  | var x => rfl
  | con x => rfl
section
variable {P : Program} {w : World} {K : PySem.W.Frag} {mg : Str → Option Value} {base : Heap}
abbrev s__law_to : Stmt := topS 20
abbrev N__law_to : List Str := ["_law_kinds", "_law_found", "_law_kind"]
theorem sc__law_to : FnScope N__law_to ["_law_kinds"] (defScope s__law_to) := ⟨rfl, rfl, rfl, by decide +kernel, rfl, by decide +kernel, by decide +kernel⟩
def spLTo (K : PySem.W.Frag) : Sp := fun vs H Q _ => ∃ (l : Addr) (xs : List V) (x : V) (ks : List Kd) (kl : Kd), vs = [.ref l] ∧ SqL K H l (xs ++ [x]) ∧ KdsAt H xs ks ∧ KdAt H x kl ∧
  ∀ (H' : Hp) (v : V), Same H H' → KdAt H' v (ks.foldr arrow kl) → Q v H'
theorem ok_lto {f : Addr} {fd : FuncData} (F : Fun K "_law_to" "_law_to" s__law_to f fd) (D__law_con : Kn P w K mg base 1 "_law_con" ["_law_name", "_law_parts"] (spCon K)) : FnOk P w K mg base CX0 2 f fd ["_law_kinds"] (spLTo K) := by
  refine F.ok sc__law_to (fun vs H Q E h => ?_) (fun cdv A outer s H vs Q E hr h => ?_)
  · obtain ⟨l, xs, x, ks, kl, rfl, _⟩ := h
    rfl
  · obtain ⟨l, xs, x, ks, kl, rfl, h1, h2, h3, k⟩ := h
    have hr__law_con := hr
    refine ⟨_, (pss_cons (ps_set (i := 1) sc__law_to.nd rfl (Or.inl rfl) (pe_ix ix_list (pv 0) (pe_un un_neg pe_int) (fun _ _ => rfl)))
  (pss_cons (ps_for PassesOwn.never rfl (pi_list (pe_revL (pe_slice sl_list (pv 0) po_none (po_some (pe_un un_neg pe_int))))) (pg_name (i := 2) sc__law_to.nd rfl (Or.inl rfl))
  (pss_one (ps_set (i := 1) sc__law_to.nd rfl (Or.inl rfl) (pe_kn D__law_con hr__law_con (pa_cons pe_str (pa_cons (pe_lst (pa_cons (pv 2) (pa_cons (pv 1) pa_nil))) pa_nil))))))
  (pss_one (ps_ret (pv 1))))), ?_⟩
    refine ⟨_, rfl, _, rfl, _, _, _, _, rfl, rfl, h1, atI_last xs x, ?_⟩
    refine ⟨_, rfl, _, rfl, _, rfl, l, xs ++ [x], rfl, h1, fun q hq => ?_⟩
    rw [cut_last]
    have s0 : Same H (upd H q (.lst xs)) := same_new hq
    have g0 : (upd H q (.lst xs)) q = some (.lst xs) := upd_same
    generalize upd H q (.lst xs) = H0 at s0 g0 ⊢
    refine ⟨q, xs, rfl, SqL.of g0, fun q2 hq2 => ?_⟩
    have s1 : Same H (upd H0 q2 (.lst xs.reverse)) := s0.trans (same_new hq2)
    have g1 : (upd H0 q2 (.lst xs.reverse)) q2 = some (.lst xs.reverse) := upd_same
    generalize upd H0 q2 (.lst xs.reverse) = H1 at s1 g1 ⊢
    have pr := paired_rev h2
    refine ⟨q2, rfl, ⟨_, SqL.of g1⟩, for_list (K := K) (a := q2) (xs := xs.reverse) (fun i σ H' => Same H1 H' ∧ ∃ (v : V) (pv : Option V), σ = [some (.ref l), some v, pv] ∧ KdAt H' v ((ks.reverse.take i).foldl (fun acc k => arrow k acc) kl)) ⟨fun _ _ z => z, x, none, rfl, KdAt.tups (same_tups s1) h3⟩ (fun i σ H' _ ⟨s2, _⟩ => SqL.of (s2 _ _ g1)) ?_ ?_⟩
    · rintro i y σ H' hi ⟨s2, v, pv, rfl, hv⟩
      obtain ⟨ky, hky, hyy⟩ := paired_get pr hi
      refine ⟨_, rfl, _, rfl, slz rfl, fun p hp => ?_⟩
      have s3 : Same H' (upd H' p (.lst [y, v])) := same_new hp
      refine ⟨"to", p, [y, v], [ky, (ks.reverse.take i).foldl (fun acc k => arrow k acc) kl], rfl, SqL.of upd_same, .cons (KdAt.tups (same_tups ((s1.trans s2).trans s3)) hyy) (.cons (KdAt.tups (same_tups s3) hv) .nil), fun H2 v2 s4 hv2 => ?_⟩
      refine ⟨(s2.trans s3).trans s4, v2, _, rfl, ?_⟩
      have tk : ks.reverse.take (i + 1) = ks.reverse.take i ++ [ky] := by
        rw [List.take_add_one, hky]
        rfl
      rw [tk, List.foldl_append]
      exact hv2
    · rintro σ H' ⟨s2, v, pv, rfl, hv⟩
      have e : ks.reverse.take xs.reverse.length = ks.reverse := by rw [Paired.length pr, List.take_length]
      rw [e, List.foldl_reverse] at hv
      exact ⟨_, rfl, k _ _ (s1.trans s2) hv⟩
/-! ### head_of -/
abbrev s__law_head_of : Stmt := topS 21
abbrev N__law_head_of : List Str := ["_law_kind", "_law_parts"]
theorem sc__law_head_of : FnScope N__law_head_of ["_law_kind"] (defScope s__law_head_of) := ⟨rfl, rfl, rfl, by decide +kernel, rfl, by decide +kernel, by decide +kernel⟩
def spHead (K : PySem.W.Frag) : Sp := fun vs H Q _ => ∃ (v0 : V) (kd : Kd), vs = [v0] ∧ KdAt H v0 kd ∧ ksz kd ≤ 100000 ∧
  ∀ (H' : Hp) (q lp : Addr) (v : V) (ps : List V) (kh : Kd) (kps : List Kd), Same H H' → H' q = some (.tup [v, .ref lp]) → KdAt H' v kh → H' lp = some (.lst ps) → KdsAt H' ps kps → kps.foldl Kd.app kh = kd → isApp kh = false → Q (.ref q) H'
theorem ok_head {f : Addr} {fd : FuncData} (F : Fun K "_law_head_of" "_law_head_of" s__law_head_of f fd) : FnOk P w K mg base CX0 1 f fd ["_law_kind"] (spHead K) := by
  refine F.ok sc__law_head_of (fun vs H Q E h => ?_) (fun cdv A outer s H vs Q E hr h => ?_)
  · obtain ⟨v0, kd, rfl, _⟩ := h
    rfl
  · obtain ⟨v0, kd, rfl, h1, hz, k⟩ := h
    refine ⟨_, (pss_cons (ps_set (i := 1) sc__law_head_of.nd rfl (Or.inl rfl) (pe_lst pa_nil))
  (pss_cons (ps_while PassesOwn.never (pt_cmpR op_eq (pe_ix ix_tup (pv 0) pe_int (fun _ _ => rfl)) pe_str (nomark _))
  (pss_one (ps_par (i := 1) (j := 0) (by rfl) sc__law_head_of.nd rfl rfl (by decide) rfl rfl (pa_cons (pe_op op_cat (pe_lst (pa_cons (pe_ix ix_tup (pv 0) pe_int (fun _ _ => rfl)) pa_nil)) (pv 1)) (pa_cons (pe_ix ix_tup (pv 0) pe_int (fun _ _ => rfl)) pa_nil)) (by rfl))))
  (pss_one (ps_ret (pe_tup (pa_cons (pv 0) (pa_cons (pv 1) pa_nil))))))), ?_⟩
    refine ⟨slz rfl, fun l0 hl0 => ?_⟩
    have s1 : Same H (upd H l0 (.lst [])) := same_new hl0
    refine ⟨fun m σ H' => ∃ (v : V) (lp : Addr) (kh : Kd) (ps : List V) (kps : List Kd), σ = [some v, some (.ref lp)] ∧ Same H H' ∧ KdAt H' v kh ∧ H' lp = some (.lst ps) ∧ KdsAt H' ps kps ∧ kps.foldl Kd.app kh = kd ∧ m = ksz kh ∧ kps.length + ksz kh ≤ 100000,
      ⟨ksz kd, v0, l0, kd, [], [], rfl, s1, KdAt.tups (same_tups s1) h1, upd_same, .nil, rfl, rfl, by simpa using hz⟩, ?_⟩
    rintro m σ H2 ⟨v, lp, kh, ps, kps, rfl, s2, hv, gp, hps, ef, rfl, ln⟩
    have lps := Paired.length hps
    cases kh with
    | app a d =>
      obtain ⟨p, u, z, rfl, hp, ha, hd⟩ := id hv
      refine ⟨_, rfl, _, _, _, _, rfl, rfl, SqT.of hp, rfl, rfl, _, rfl, iT tg_aa ?_⟩
      refine ⟨fun σ' H' => ∃ (v : V) (lp : Addr) (kh : Kd) (ps : List V) (kps : List Kd), σ' = [some v, some (.ref lp)] ∧ Same H H' ∧ KdAt H' v kh ∧ H' lp = some (.lst ps) ∧ KdsAt H' ps kps ∧ kps.foldl Kd.app kh = kd ∧ ksz kh < ksz (Kd.app a d) ∧ kps.length + ksz kh ≤ 100000, ?_, ?_⟩
      · rintro σ' H' ⟨v, lp, kh, ps, kps, e1, e2, e3, e4, e5, e6, e7, e8⟩
        exact ⟨ksz kh, e7, v, lp, kh, ps, kps, e1, e2, e3, e4, e5, e6, rfl, e8⟩
      · have hd1 := ksz_pos d
        have sz : ksz (Kd.app a d) = 1 + ksz a + ksz d := rfl
        refine ⟨_, rfl, _, _, _, _, rfl, rfl, SqT.of hp, rfl, slz rfl, fun q hq => ?_⟩
        have s3 : Same H2 (upd H2 q (.lst [z])) := same_new hq
        have gq : (upd H2 q (.lst [z])) q = some (.lst [z]) := upd_same
        generalize upd H2 q (.lst [z]) = H3 at s3 gq ⊢
        refine ⟨_, rfl, _, _, _, _, rfl, rfl, gq, s3 _ _ gp, Nat.le_of_lt (szl (by rw [List.length_singleton]; omega)), fun r hr' => ?_⟩
        have s4 : Same H2 (upd H3 r (.lst ([z] ++ ps))) := s3.trans (same_new hr')
        refine ⟨_, rfl, _, _, _, _, rfl, rfl, SqT.of (s4 _ _ hp), rfl, _, _, rfl, ?_⟩
        refine ⟨u, r, a, [z] ++ ps, d :: kps, rfl, s2.trans s4, KdAt.tups (same_tups s4) ha, upd_same, .cons (KdAt.tups (same_tups s4) hd) (KdsAt.tups (same_tups s4) hps), ef, by rw [sz]; omega, by rw [sz] at ln; rw [List.length_cons]; omega⟩
    | var x =>
      obtain ⟨p, rfl, hp⟩ := id hv
      refine ⟨_, rfl, _, _, _, _, rfl, rfl, SqT.of hp, rfl, rfl, _, rfl, iF tg_va ?_⟩
      refine ⟨_, rfl, _, rfl, slz rfl, fun q hq => ?_⟩
      have s3 : Same H2 (upd H2 q (.tup [.ref p, .ref lp])) := same_new hq
      exact k _ q lp _ ps (.var x) kps (s2.trans s3) upd_same (KdAt.tups (same_tups s3) hv) (s3 _ _ gp) (KdsAt.tups (same_tups s3) hps) ef rfl
    | con x =>
      obtain ⟨p, rfl, hp⟩ := id hv
      refine ⟨_, rfl, _, _, _, _, rfl, rfl, SqT.of hp, rfl, rfl, _, rfl, iF tg_ca ?_⟩
      refine ⟨_, rfl, _, rfl, slz rfl, fun q hq => ?_⟩
      have s3 : Same H2 (upd H2 q (.tup [.ref p, .ref lp])) := same_new hq
      exact k _ q lp _ ps (.con x) kps (s2.trans s3) upd_same (KdAt.tups (same_tups s3) hv) (s3 _ _ gp) (KdsAt.tups (same_tups s3) hps) ef rfl

/-! ### is_function -/
abbrev s__law_is_function : Stmt := topS 25
abbrev N__law_is_function : List Str := ["_law_kind", "_law_head", "_law_parts"]
theorem sc__law_is_function : FnScope N__law_is_function ["_law_kind"] (defScope s__law_is_function) := ⟨rfl, rfl, rfl, by decide +kernel, rfl, by decide +kernel, by decide +kernel⟩
theorem ok_isf {n : Nat} {f : Addr} {fd : FuncData} (F : Fun K "_law_is_function" "_law_is_function" s__law_is_function f fd) (B : Bl mg) (D__law_head_of : Kn P w K mg base 1 "_law_head_of" ["_law_kind"] (spHead K)) : FnOk P w K mg base CX0 2 f fd ["_law_kind"] (spArr n) := by
  refine F.ok sc__law_is_function (fun vs H Q E h => ?_) (fun cdv A outer s H vs Q E hr h => ?_)
  · obtain ⟨v, k, rfl, _⟩ := h
    rfl
  · obtain ⟨v, k0, rfl, hk, hf, hn, k⟩ := h
    have hr__law_head_of : Room 1 _ := hr
    have hu64 := hr.units
    have hz := ksz_10 hf hn
    refine ⟨_, (pss_cons (ps_asg (pe_kn D__law_head_of hr__law_head_of (pa_cons (pv 0) pa_nil)) (pg_tup (by rfl) (pgs_cons (pg_name (i := 1) sc__law_is_function.nd rfl (Or.inl rfl)) (pgs_cons (pg_name (i := 2) sc__law_is_function.nd rfl (Or.inl rfl)) pgs_nil))))
  (pss_one (ps_ret (pe_and (pe_cmpR (op_eqD hu64) (pv 1) (pe_tup (pa_cons pe_str (pa_cons pe_str pa_nil))) (nomark _)) (pe_one (pe_cmpR op_eq (pe_callB call_len (by rfl) B.len PySem.boot_len (pa_cons (pv 2) pa_nil)) pe_int (nomark _))))))), ?_⟩
    refine ⟨_, rfl, v, k0, rfl, hk, by omega, fun H1 p l vh ps kh kps s1 g1 hh gl hs ef ea => ?_⟩
    have hsp := spine_of_foldl ef ea
    refine ⟨p, _, rfl, SqT.of g1, rfl, _, _, rfl, _, _, rfl, rfl, _, rfl, slz rfl, fun q hq => ?_⟩
    have sq : Same H1 (upd H1 q (.tup [.str "con", .str "to"])) := same_new hq
    have vq : KdAt (upd H1 q (.tup [.str "con", .str "to"])) (.ref q) (.con "to") := ⟨q, rfl, upd_same⟩
    generalize upd H1 q (.tup [.str "con", .str "to"]) = H2 at sq vq ⊢
    have sf := (spine_fit hf).1
    rw [isFun_spine, hsp] at k
    rw [hsp] at sf
    refine ⟨_, _, (KdAt.tups (same_tups sq) hh).dp, vq.dp, Kd.shaped sf (by omega), Kd.shaped (n := 0) (fit_con wok_to) (by decide), _, rfl, ?_⟩
    rw [Kd.eqv, eq_to]
    cases ht : isTo kh with
    | false =>
      have ht' : isTo (kh, kps).1 = false := ht
      rw [ht'] at k
      exact iF rfl (k H2 (s1.trans sq))
    | true =>
      have ht' : isTo (kh, kps).1 = true := ht
      rw [ht'] at k
      refine iT rfl ?_
      refine ⟨_, rfl, .ref l, ps.length, rfl, .inl ⟨ps, SqL.of (sq _ _ gl), rfl⟩, rfl, ?_⟩
      have e : decide (V.int (ps.length : Int) = .int 2) = (true && decide ((kh, kps).2.length = 2)) := by
        rw [Bool.true_and, decide_eq_decide, Paired.length hs]
        exact ⟨fun z => Int.ofNat.inj (V.int.inj z), fun z => by rw [show kps.length = 2 from z]; rfl⟩
      rw [e]
      exact k H2 (s1.trans sq)
/-! ### pieces -/
abbrev s__law_pieces : Stmt := topS 24
abbrev N__law_pieces : List Str := ["_law_kind", "_law_head", "_law_parts", "_law_left", "_law_found", "_law_part", "_law_inner"]
theorem sc__law_pieces : FnScope N__law_pieces ["_law_kind"] (defScope s__law_pieces) := ⟨rfl, rfl, rfl, by decide +kernel, rfl, by decide +kernel, by decide +kernel⟩
def spPcs (n : Nat) : Sp := fun vs H Q _ => ∃ (v : V) (k : Kd), vs = [v] ∧ KdAt H v k ∧ Kd.fit n k ∧ n ≤ 12 ∧ ∀ (H' : Hp) (l : Addr), Same H H' → H' l = some (.lst ((pcs k).map V.str)) → Q (.ref l) H'
theorem wrap_ok {i : Nat} {σ : L2.St} {H : Hp} {Q : VK} {li : Addr} {l : List Str} (hσ : σ[i]? = some (some (.ref li))) (h : H li = some (.lst (l.map V.str))) (hz : l.length ≤ 900000) (k : ∀ H' z, Same H H' → H' z = some (.lst ((("(" : Str) :: (l ++ [(")" : Str)])).map V.str)) → Q (.ref z) H') :
    tOp rCat (tOp rCat (tLst (tCons (tC (.str "(")) tNil)) (tVar i)) (tLst (tCons (tC (.str ")")) tNil)) σ H Q := by
  refine ⟨slz rfl, fun q hq => ⟨_, hσ, ?_⟩⟩
  have s1 := same_new (o := .lst [.str "("]) hq
  have gq : (upd H q (.lst [.str "("])) q = some (.lst [.str "("]) := upd_same
  generalize upd H q (.lst [.str "("]) = H1 at s1 gq ⊢
  refine ⟨q, li, _, _, rfl, rfl, gq, s1 _ _ h, Nat.le_of_lt (szl (by rw [List.length_map]; show 1 + _ ≤ _; omega)), fun r hr => ⟨slz rfl, fun q2 hq2 => ?_⟩⟩
  have s2 := same_new (o := .lst ([V.str "("] ++ l.map V.str)) hr
  have gr : (upd H1 r (.lst ([V.str "("] ++ l.map V.str))) r = some (.lst ([V.str "("] ++ l.map V.str)) := upd_same
  generalize upd H1 r (.lst ([V.str "("] ++ l.map V.str)) = H2 at s2 gr hq2 ⊢
  have s3 := same_new (o := .lst [.str ")"]) hq2
  have gq2 : (upd H2 q2 (.lst [.str ")"])) q2 = some (.lst [.str ")"]) := upd_same
  generalize upd H2 q2 (.lst [.str ")"]) = H3 at s3 gq2 ⊢
  refine ⟨r, q2, _, _, rfl, rfl, s3 _ _ gr, gq2, Nat.le_of_lt (szl (by rw [List.length_append, List.length_map]; show 1 + _ + 1 ≤ _; omega)), fun z hz => ?_⟩
  refine k _ z (s1.trans (s2.trans (s3.trans (same_new hz)))) ?_
  rw [upd_same]
  simp
def loopP (K : PySem.W.Frag) (n : Nat) : TS :=
  tSeq (tFor (iList K (tVar 2)) (gName 5) (tSeq (tAsg (tCall (spPrev spPcs n) [] E0 (tCons (tVar 5) tNil)) (gName 6))
    (tAsg (tOp rCat (tVar 4) (tIf (tTest (tOp rEq (tOp (rIxT K) (tVar 5) (tC (.int 0))) (tC (.str "apply")))) (tOp rCat (tOp rCat (tLst (tCons (tC (.str "(")) tNil)) (tVar 6)) (tLst (tCons (tC (.str ")")) tNil))) (tVar 6))) (gName 4))))
    (tRet (tVar 4))
theorem loopP_ok {n : Nat} {D : Ends} {v vh : V} {a3 a5 a6 : Option V} {lq la : Addr} {xs : List V} {ks : List Kd} {acc : List Str} {H : Hp} (gq : H lq = some (.lst xs)) (hk : KdsAt H xs ks) (hf : ∀ x ∈ ks, ∃ m, m < n ∧ Kd.fit m x) (hn : n ≤ 12) (ga : H la = some (.lst (acc.map V.str)))
    (hp : plen (acc ++ (ks.map pT).flatten) ≤ 400000) (k : ∀ H' l, Same H H' → H' l = some (.lst ((acc ++ (ks.map pT).flatten).map V.str)) → D.rt (.ref l) H') : loopP K n D [some v, some vh, some (.ref lq), a3, some (.ref la), a5, a6] H := by
  refine ⟨_, rfl, lq, rfl, ⟨_, SqL.of gq⟩, for_list (K := K) (a := lq) (xs := xs) (fun i σ H' => Same H H' ∧ ∃ la a5 a6, σ = [some v, some vh, some (.ref lq), a3, some (.ref la), a5, a6] ∧ H' la = some (.lst ((acc ++ ((ks.take i).map pT).flatten).map V.str))) ⟨Same.refl H, la, a5, a6, rfl, by simpa using ga⟩ (fun i σ H' _ ⟨s1, _⟩ => SqL.of (s1 _ _ gq)) ?_ ?_⟩
  · rintro i y σ H' hi ⟨s1, la, a5, a6, rfl, g1⟩
    obtain ⟨ky, hky, hy⟩ := paired_get hk hi
    have hm : ky ∈ ks := List.mem_of_getElem? hky
    obtain ⟨m, hmn, fm⟩ := hf ky hm
    obtain ⟨n', rfl⟩ : ∃ n', n = n' + 1 := ⟨n - 1, by omega⟩
    have tk : ks.take (i + 1) = ks.take i ++ [ky] := by
      rw [List.take_add_one, hky]
      rfl
    have lb : (acc ++ ((ks.take i).map pT).flatten).length + (pT ky).length ≤ 400000 := by
      have e3 : (ks.map pT).flatten = ((ks.take i).map pT).flatten ++ (pT ky ++ ((ks.drop (i + 1)).map pT).flatten) := by
        conv => lhs; rw [← List.take_append_drop (i + 1) ks, tk]
        simp
      rw [e3] at hp
      have hl : ∀ l : List Str, l.length ≤ plen l := fun l => Nat.le_add_left _ _
      have := hl (acc ++ (((ks.take i).map pT).flatten ++ (pT ky ++ ((ks.drop (i + 1)).map pT).flatten)))
      rw [List.length_append, List.length_append, List.length_append] at this
      rw [List.length_append]
      omega
    have lp : (pcs ky).length ≤ (pT ky).length := by
      rw [pT_eq]
      cases isApp ky with
      | true =>
        show _ ≤ (("(" : Str) :: (pcs ky ++ [(")" : Str)])).length
        rw [List.length_cons, List.length_append]
        omega
      | false => exact Nat.le_refl _
    refine ⟨_, rfl, y, ky, rfl, KdAt.tups (same_tups s1) hy, Kd.fit_mono (by omega) fm, by omega, fun H2 li s2 gi => ?_⟩
    have hy2 := KdAt.tups (same_tups (s1.trans s2)) hy
    have fin : ∀ (H3 : Hp) (z : Addr), Same H2 H3 → H3 z = some (.lst ((pT ky).map V.str)) → rCat (.ref la) (.ref z) H3 fun x H4 => gName 4 x [some v, some vh, some (.ref lq), a3, some (.ref la), some y, some (.ref li)] H4 fun σ H' => Same H H' ∧ ∃ la a5 a6, σ = [some v, some vh, some (.ref lq), a3, some (.ref la), a5, a6] ∧ H' la = some (.lst ((acc ++ ((ks.take (i + 1)).map pT).flatten).map V.str)) := fun H3 z s3 gz => by
      refine ⟨la, z, _, _, rfl, rfl, s3 _ _ (s2 _ _ g1), gz, Nat.le_of_lt (szl (by rw [List.length_map, List.length_map]; omega)), fun w hw => ?_⟩
      refine ⟨(s1.trans s2).trans (s3.trans (same_new hw)), w, _, _, rfl, ?_⟩
      rw [upd_same, tk]
      simp
    cases ky with
    | app a b =>
      obtain ⟨p, u, z, rfl, hp', _, _⟩ := id hy2
      refine ⟨_, rfl, _, rfl, _, _, _, _, rfl, rfl, SqT.of hp', rfl, rfl, _, rfl, iT tg_aa ?_⟩
      refine wrap_ok (l := pcs (.app a b)) rfl gi (by omega) fun H3 z s3 gz => ?_
      exact fin H3 z s3 (by rw [pT_eq]; exact gz)
    | var x =>
      obtain ⟨p, rfl, hp'⟩ := id hy2
      refine ⟨_, rfl, _, rfl, _, _, _, _, rfl, rfl, SqT.of hp', rfl, rfl, _, rfl, iF tg_va ?_⟩
      exact ⟨_, rfl, fin H2 li (Same.refl _) (by rw [pT_eq]; exact gi)⟩
    | con x =>
      obtain ⟨p, rfl, hp'⟩ := id hy2
      refine ⟨_, rfl, _, rfl, _, _, _, _, rfl, rfl, SqT.of hp', rfl, rfl, _, rfl, iF tg_ca ?_⟩
      exact ⟨_, rfl, fin H2 li (Same.refl _) (by rw [pT_eq]; exact gi)⟩
  · rintro σ H' ⟨s1, la, a5, a6, rfl, g1⟩
    have e : ks.take xs.length = ks := by rw [Paired.length hk, List.take_length]
    rw [e] at g1
    exact ⟨_, rfl, k H' la s1 g1⟩
theorem ok_pcs {n : Nat} {f : Addr} {fd : FuncData} (F : Fun K "_law_pieces" "_law_pieces" s__law_pieces f fd) (B : Bl mg) (D__law_head_of : Kn P w K mg base 1 "_law_head_of" ["_law_kind"] (spHead K)) (D__law_is_function : ∀ n, Kn P w K mg base 2 "_law_is_function" ["_law_kind"] (spArr n)) (D__law_pieces : Kn P w K mg base (n + 2) "_law_pieces" ["_law_kind"] (spPrev spPcs n)) : FnOk P w K mg base CX0 (n + 3) f fd ["_law_kind"] (spPcs n) := by
  refine F.ok sc__law_pieces (fun vs H Q E h => ?_) (fun cdv A outer s H vs Q E hr h => ?_)
  · obtain ⟨v, k0, rfl, _⟩ := h
    rfl
  · obtain ⟨v, k0, rfl, h1, f1, hn, k⟩ := h
    have hr__law_pieces : Room (n + 2) _ := hr
    have hr__law_head_of : Room 1 _ := hr.mono (by omega)
    have hr__law_is_function : Room 2 _ := hr.mono (by omega)
    replace D__law_is_function := D__law_is_function (n - 1)
    have hu64 := hr.units
    have hz := ksz_10 f1 hn
    have pz := plen_pcs k0 (Kd.fit_wk f1)
    refine ⟨_, (pss_cons (ps_asg (pe_kn D__law_head_of hr__law_head_of (pa_cons (pv 0) pa_nil)) (pg_tup (by rfl) (pgs_cons (pg_name (i := 1) sc__law_pieces.nd rfl (Or.inl rfl)) (pgs_cons (pg_name (i := 2) sc__law_pieces.nd rfl (Or.inl rfl)) pgs_nil))))
  (pss_cons (ps_if (PW.pt (pw_and (pt_cmpR (op_eqD hu64) (pv 1) (pe_tup (pa_cons pe_str (pa_cons pe_str pa_nil))) (nomark _)) (pw_and1 (pt_cmpR op_ge (pe_callB call_len (by rfl) B.len PySem.boot_len (pa_cons (pv 2) pa_nil)) pe_int (nomark _)))))
  (pss_cons (ps_set (i := 3) sc__law_pieces.nd rfl (Or.inl rfl) (pe_kn D__law_pieces hr__law_pieces (pa_cons (pe_ix ix_list (pv 2) pe_int (fun _ _ => rfl)) pa_nil)))
  (pss_cons (ps_if (pt_val (pe_kn D__law_is_function hr__law_is_function (pa_cons (pe_ix ix_list (pv 2) pe_int (fun _ _ => rfl)) pa_nil)))
  (pss_one (ps_set (i := 3) sc__law_pieces.nd rfl (Or.inl rfl) (pe_op op_cat (pe_op op_cat (pe_lst (pa_cons pe_str pa_nil)) (pv 3)) (pe_lst (pa_cons pe_str pa_nil)))))
  pss_nil)
  (pss_cons (ps_set (i := 4) sc__law_pieces.nd rfl (Or.inl rfl) (pe_op op_cat (pe_op op_cat (pv 3) (pe_lst (pa_cons pe_str pa_nil))) (pe_kn D__law_pieces hr__law_pieces (pa_cons (pe_ix ix_list (pv 2) pe_int (fun _ _ => rfl)) pa_nil))))
  (pss_one (ps_par (i := 4) (j := 2) (by rfl) sc__law_pieces.nd rfl rfl (by decide) rfl rfl (pa_cons (pe_ifExp (pt_cmpR op_gt (pe_callB call_len (by rfl) B.len PySem.boot_len (pa_cons (pv 2) pa_nil)) pe_int (nomark _)) (pe_op op_cat (pe_op op_cat (pe_lst (pa_cons pe_str pa_nil)) (pv 4)) (pe_lst (pa_cons pe_str pa_nil))) (pv 4)) (pa_cons (pe_slice sl_list (pv 2) (po_some pe_int) po_none) pa_nil)) (by rfl))))))
  (pss_one (ps_set (i := 4) sc__law_pieces.nd rfl (Or.inl rfl) (pe_lst (pa_cons (pe_ifExp (pt_cmpR op_eq (pe_ix ix_tup (pv 1) pe_int (fun _ _ => rfl)) pe_str (nomark _)) (pe_op op_add_str pe_str (pe_ix ix_tup (pv 1) pe_int (fun _ _ => rfl))) (pe_ix ix_tup (pv 1) pe_int (fun _ _ => rfl))) pa_nil)))))
  (pss_cons (ps_for PassesOwn.never rfl (pi_list (pv 2)) (pg_name (i := 5) sc__law_pieces.nd rfl (Or.inl rfl))
  (pss_cons (ps_set (i := 6) sc__law_pieces.nd rfl (Or.inl rfl) (pe_kn D__law_pieces hr__law_pieces (pa_cons (pv 5) pa_nil)))
  (pss_one (ps_set (i := 4) sc__law_pieces.nd rfl (Or.inl rfl) (pe_op op_cat (pv 4) (pe_ifExp (pt_cmpR op_eq (pe_ix ix_tup (pv 5) pe_int (fun _ _ => rfl)) pe_str (nomark _)) (pe_op op_cat (pe_op op_cat (pe_lst (pa_cons pe_str pa_nil)) (pv 6)) (pe_lst (pa_cons pe_str pa_nil))) (pv 6)))))))
  (pss_one (ps_ret (pv 4)))))), ?_⟩
    refine ⟨_, rfl, v, k0, rfl, h1, by omega, fun H1 p l vh ps hd kps s1 g1 hh gl hs ef ea => ?_⟩
    have hsp := spine_of_foldl ef ea
    obtain ⟨sf1, sf2⟩ := spine_fit f1
    have el := pcs_spine_else k0
    have to := pcs_spine_to k0
    rw [hsp] at sf1 sf2 el to
    refine ⟨p, _, rfl, SqT.of g1, rfl, _, _, rfl, _, _, rfl, rfl, ?_⟩
    refine ⟨_, rfl, slz rfl, fun q hq => ?_⟩
    have sq : Same H1 (upd H1 q (.tup [.str "con", .str "to"])) := same_new hq
    have vq : KdAt (upd H1 q (.tup [.str "con", .str "to"])) (.ref q) (.con "to") := ⟨q, rfl, upd_same⟩
    generalize upd H1 q (.tup [.str "con", .str "to"]) = H2 at sq vq ⊢
    have S2 := s1.trans sq
    have hh2 := KdAt.tups (same_tups sq) hh
    have hs2 := KdsAt.tups (same_tups sq) hs
    have gl2 := sq _ _ gl
    refine ⟨_, _, hh2.dp, vq.dp, Kd.shaped sf1 (by omega), Kd.shaped (n := 0) (fit_con wok_to) (by decide), _, rfl, ?_⟩
    rw [Kd.eqv, eq_to]
    have hl : ∀ l : List Str, l.length ≤ plen l := fun l => Nat.le_add_left _ _
    have elT : (isTo hd = false ∨ kps.length < 2) → tAsg (tLst (tCons (tIf (tTest (tOp rEq (tOp (rIxT K) (tVar 1) (tC (.int 0))) (tC (.str "var")))) (tOp (fun x y H Q => ∃ i j, x = .str i ∧ y = .str j ∧ i.length + j.length ≤ sizeLine ∧ Q (.str (i ++ j)) H) (tC (.str "'")) (tOp (rIxT K) (tVar 1) (tC (.int 1)))) (tOp (rIxT K) (tVar 1) (tC (.int 1)))) tNil)) (gName 4) { nx := fun σ' H' => loopP K n { nx := fun x H' => Q V.non H', rt := Q } σ' H', rt := Q } [some v, some vh, some (.ref l), none, none, none, none] H2 := fun hc => by
      have e5 := el hc
      have fin : ∀ la, H2 la = none → loopP K n { nx := fun x H' => Q V.non H', rt := Q } [some v, some vh, some (.ref l), none, some (.ref la), none, none] (upd H2 la (.lst [.str (atomT hd)])) := fun la nl => by
        have sa := same_new (o := .lst [.str (atomT hd)]) nl
        have ga : (upd H2 la (.lst [.str (atomT hd)])) la = some (.lst [.str (atomT hd)]) := upd_same
        refine loopP_ok (acc := [atomT hd]) (sa _ _ gl2) (KdsAt.tups (same_tups sa) hs2) sf2 hn ga (by
          have e6 : [atomT hd] ++ (kps.map pT).flatten = pcs k0 := e5.symm
          rw [e6]
          omega) fun H' z s' gz => ?_
        have e6 : [atomT hd] ++ (kps.map pT).flatten = pcs k0 := e5.symm
        rw [e6] at gz
        exact k H' z (S2.trans (sa.trans s')) gz
      cases hd with
      | app a b => cases ea
      | var x =>
        obtain ⟨p', rfl, hp'⟩ := id hh2
        refine ⟨_, rfl, _, _, _, _, rfl, rfl, SqT.of hp', rfl, rfl, _, rfl, iT tg_vv ?_⟩
        refine ⟨_, rfl, _, _, _, _, rfl, rfl, SqT.of hp', rfl, _, _, rfl, rfl, Nat.le_of_lt (szl ?_), slz rfl, fun la nl => ?_⟩
        · have : Wok x := by cases n <;> exact sf1
          have := this.2.1
          show 1 + x.length ≤ _
          omega
        · exact fin la nl
      | con x =>
        obtain ⟨p', rfl, hp'⟩ := id hh2
        refine ⟨_, rfl, _, _, _, _, rfl, rfl, SqT.of hp', rfl, rfl, _, rfl, iF tg_cv ?_⟩
        exact ⟨_, rfl, _, _, _, _, rfl, rfl, SqT.of hp', rfl, slz rfl, fun la nl => fin la nl⟩
    cases ht : isTo hd with
    | false =>
      refine iF rfl (iF rfl ?_)
      exact elT (.inl ht)
    | true =>
      refine iT rfl ?_
      refine ⟨_, rfl, .ref l, ps.length, rfl, .inl ⟨ps, SqL.of gl2, rfl⟩, _, _, rfl, rfl, _, rfl, ?_⟩
      have lps : ps.length = kps.length := Paired.length hs
      by_cases h2 : kps.length < 2
      · refine iF (decide_eq_false (by omega)) ?_
        exact elT (.inr h2)
      · refine iT (decide_eq_true (by omega)) ?_
        obtain ⟨a, b, r, e0⟩ : ∃ a b r, kps = a :: b :: r := by
          match kps, h2 with
          | [], h2 => exact absurd (by decide) h2
          | [_], h2 => exact absurd (Nat.lt_succ_self 1) h2
          | a :: b :: r, _ => exact ⟨a, b, r, rfl⟩
        have to := to a b r ht e0
        rw [e0] at hs2 sf2 lps
        cases hs2 with
        | @cons va _ vs1 _ qa t1 =>
          cases t1 with
          | @cons vb _ vr _ qb qr =>
            obtain ⟨ma, hma, fa⟩ := sf2 a (by simp)
            obtain ⟨mb, hmb, fb⟩ := sf2 b (by simp)
            obtain ⟨n', rfl⟩ : ∃ n', n = n' + 1 := ⟨n - 1, by omega⟩
            have lj : (pA a b).length ≤ 200000 := by
              have : plen (pA a b) ≤ plen (pcs k0) := by
                rw [to, plen_app]
                cases r with
                | nil => exact Nat.le_add_right _ _
                | cons c r =>
                  rw [if_neg (by simp), plen_cons, plen_app]
                  omega
              have := hl (pA a b)
              omega
            refine ⟨_, rfl, _, _, 0, _, rfl, rfl, SqL.of gl2, at_ofG (j := 0) rfl rfl, va, a, rfl, qa, Kd.fit_mono (by omega) fa, by omega, fun H3 li s3 gi => ?_⟩
            refine ⟨_, rfl, _, _, 0, _, rfl, rfl, SqL.of (s3 _ _ gl2), at_ofG (j := 0) rfl rfl, va, a, rfl, KdAt.tups (same_tups s3) qa, Kd.fit_mono (by omega) fa, by omega, fun H4 s4 => ?_⟩
            have rest : ∀ (H5 : Hp) (z : Addr), Same H2 H5 → H5 z = some (.lst ((pL a).map V.str)) → tSeq (tAsg (tOp rCat (tOp rCat (tVar 3) (tLst (tCons (tC (.str "->")) tNil))) (tCall (spPrev spPcs (n' + 1)) [] E0 (tCons (tOp (rIxL K) (tVar 2) (tC (.int 1))) tNil))) (gName 4)) (tPar 4 2 (tCons (tIf (tTest (tOp (rI0 fun i j => .bl (decide (j < i))) (tCB (fun xs H Q => ∃ x n, xs = [x] ∧ LenV K x H n ∧ Q (.int ↑n) H) (tCons (tVar 2) tNil)) (tC (.int 2)))) (tOp rCat (tOp rCat (tLst (tCons (tC (.str "(")) tNil)) (tVar 4)) (tLst (tCons (tC (.str ")")) tNil))) (tVar 4)) (tCons (tSl (rSlL K) (tVar 2) (tPart (tC (.int 2))) tNoPart) tNil))) { nx := fun σ' H' => loopP K (n' + 1) { nx := fun x H' => Q V.non H', rt := Q } σ' H', rt := Q } [some v, some vh, some (.ref l), some (.ref z), none, none, none] H5 := fun H5 z s5 gz => by
              refine ⟨_, rfl, slz rfl, fun q5 nq5 => ?_⟩
              have s6 := same_new (o := .lst [.str "->"]) nq5
              have g6 : (upd H5 q5 (.lst [.str "->"])) q5 = some (.lst [.str "->"]) := upd_same
              generalize upd H5 q5 (.lst [.str "->"]) = H6 at s6 g6 ⊢
              have lpl : (pL a).length ≤ 200000 := by
                have : (pL a).length ≤ (pA a b).length := by
                  unfold pA
                  rw [List.length_append]
                  omega
                omega
              refine ⟨z, q5, _, _, rfl, rfl, s6 _ _ gz, g6, Nat.le_of_lt (szl (by rw [List.length_map]; show _ + 1 ≤ _; omega)), fun q7 nq7 => ?_⟩
              have s7 := s6.trans (same_new (o := .lst ((pL a).map V.str ++ [.str "->"])) nq7)
              have g7 : (upd H6 q7 (.lst ((pL a).map V.str ++ [.str "->"]))) q7 = some (.lst ((pL a).map V.str ++ [.str "->"])) := upd_same
              generalize upd H6 q7 (.lst ((pL a).map V.str ++ [.str "->"])) = H7 at s7 g7 ⊢
              have S7 := s5.trans s7
              refine ⟨_, rfl, _, _, 1, _, rfl, rfl, SqL.of (S7 _ _ gl2), at_ofG (j := 1) rfl rfl, vb, b, rfl, KdAt.tups (same_tups S7) qb, Kd.fit_mono (by omega) fb, by omega, fun H8 l8 s8 g8 => ?_⟩
              have lpb : (pcs b).length ≤ 200000 := by
                have : (pcs b).length ≤ (pA a b).length := by
                  unfold pA
                  rw [List.length_append, List.length_cons]
                  omega
                omega
              refine ⟨q7, l8, _, _, rfl, rfl, s8 _ _ g7, g8, Nat.le_of_lt (szl (by rw [List.length_append, List.length_map, List.length_map]; show _ + 1 + _ ≤ _; omega)), fun q9 nq9 => ?_⟩
              have s9 := s8.trans (same_new (o := .lst ((pL a).map V.str ++ [.str "->"] ++ (pcs b).map V.str)) nq9)
              have g9 : (upd H8 q9 (.lst ((pL a).map V.str ++ [.str "->"] ++ (pcs b).map V.str))) q9 = some (.lst ((pA a b).map V.str)) := by
                rw [upd_same]
                simp [pA]
              generalize upd H8 q9 (.lst ((pL a).map V.str ++ [.str "->"] ++ (pcs b).map V.str)) = H9 at s9 g9 ⊢
              have S9 := S7.trans s9
              refine ⟨_, rfl, .ref l, (va :: vb :: vr).length, rfl, .inl ⟨_, SqL.of (S9 _ _ gl2), rfl⟩, _, _, rfl, rfl, _, rfl, ?_⟩
              have tail : ∀ (H10 : Hp) (y : Addr) (acc : List Str), Same H9 H10 → H10 y = some (.lst (acc.map V.str)) → pcs k0 = acc ++ (r.map pT).flatten → ∀ q, H10 q = none → loopP K (n' + 1) { nx := fun x H' => Q V.non H', rt := Q } [some v, some vh, some (.ref q), some (.ref z), some (.ref y), none, none] (upd H10 q (.lst vr)) := fun H10 y acc s10 gy e q nq => by
                have sq := same_new (o := .lst vr) nq
                have gq : (upd H10 q (.lst vr)) q = some (.lst vr) := upd_same
                generalize upd H10 q (.lst vr) = H11 at sq gq ⊢
                have S11 := S9.trans (s10.trans sq)
                refine loopP_ok (acc := acc) gq (KdsAt.tups (same_tups S11) qr) (fun x hx => sf2 x (by rw [List.mem_cons, List.mem_cons]; exact .inr (.inr hx))) hn (sq _ _ gy) (by rw [← e]; omega) fun H' w s' gw => ?_
                rw [← e] at gw
                exact k H' w (S2.trans (S11.trans s')) gw
              have lvr : vr.length = r.length := Paired.length qr
              cases r with
              | nil =>
                refine iF (decide_eq_false (by simp only [List.length_cons]; rw [lvr]; decide)) ?_
                refine ⟨_, rfl, _, rfl, 2, rfl, l, _, rfl, SqL.of (S9 _ _ gl2), fun q nq => ⟨_, _, rfl, ?_⟩⟩
                rw [cut_two]
                exact tail H9 q9 (pA a b) (Same.refl _) g9 (by rw [to]; rfl) q nq
              | cons c r =>
                refine iT (decide_eq_true (by simp only [List.length_cons]; rw [lvr, List.length_cons]; omega)) ?_
                refine wrap_ok (l := pA a b) rfl g9 (by omega) fun H10 y s10 gy => ?_
                refine ⟨_, rfl, 2, rfl, l, _, rfl, SqL.of (s10 _ _ (S9 _ _ gl2)), fun q nq => ⟨_, _, rfl, ?_⟩⟩
                rw [cut_two]
                exact tail H10 y _ s10 gy (by rw [to, if_neg (by simp)]) q nq
            refine ⟨_, rfl, ?_⟩
            cases hfa : isFun a with
            | true =>
              refine iT rfl ?_
              refine wrap_ok (l := pcs a) rfl (s4 _ _ gi) ?_ fun H5 z s5 gz => ?_
              · have : (pcs a).length ≤ (pA a b).length := by
                  unfold pA
                  rw [pL_eq, hfa, if_pos rfl, List.length_append, List.length_cons, List.length_append]
                  omega
                omega
              · exact rest H5 z (s3.trans (s4.trans s5)) (by rw [pL_eq, hfa]; exact gz)
            | false =>
              refine iF rfl ?_
              exact rest H4 li (s3.trans s4) (by rw [pL_eq, hfa]; exact s4 _ _ gi)
/-- pieces of kinds, however deep -/
theorem pcs_all {f : Addr} {fd : FuncData} (F : Fun K "_law_pieces" "_law_pieces" s__law_pieces f fd) (hm : mg "_law_pieces" = some (.ref f)) (B : Bl mg) (D__law_head_of : Kn P w K mg base 1 "_law_head_of" ["_law_kind"] (spHead K)) (D__law_is_function : ∀ n, Kn P w K mg base 2 "_law_is_function" ["_law_kind"] (spArr n)) : ∀ n, FnOk P w K mg base CX0 (n + 3) f fd ["_law_kind"] (spPcs n)
  | 0 => ok_pcs F B D__law_head_of D__law_is_function ⟨f, fd, fn_falseN, hm, F.kp, F.binds fun _ _ _ _ _ _ us hl => match us, hl with | [_], _ => rfl⟩
  | n + 1 => ok_pcs F B D__law_head_of D__law_is_function ⟨f, fd, pcs_all F hm B D__law_head_of D__law_is_function n, hm, F.kp, F.binds fun _ _ _ _ _ _ us hl => match us, hl with | [_], _ => rfl⟩
end
end L3

/-! the law's own look at names and kinds -/
namespace L3
open PySem L2
/-- signs that are no letters -/
def badL (cs : List Nat) : List Str := (cs.filter fun c => !decide (c ∈ ("abcdefghijklmnopqrstuvwxyz" : Str).cps.toList)).map fun c => (⟨#[c]⟩ : Str)
theorem strOk_sign {x : Str} {c : Nat} (h : PyData.strOk x = true) (hc : c ∈ x.cps.toList) : PyData.strOk ⟨#[c]⟩ = true := by
  unfold PyData.strOk at *
  rw [Array.all_eq_true'] at *
  intro d hd
  have e : d = c := by simpa using hd
  rw [e]
  exact h c (by simpa using hc)
theorem lay_strs : ∀ {ws : List Str}, (∀ x ∈ ws, PyData.strOk x = true) → PyData.canLayAll0 (ws.map PyData.str) = true ∧ PyData.depthAll (ws.map PyData.str) = 0
  | [], _ => ⟨by simp [PyData.canLayAll0], by simp [PyData.depthAll]⟩
  | x :: r, h => by
    obtain ⟨h1, h2⟩ := lay_strs (ws := r) fun y hy => h y (List.mem_cons_of_mem _ hy)
    refine ⟨?_, ?_⟩
    · simp only [List.map_cons, PyData.canLayAll0, PyData.canLay0, (h x List.mem_cons_self), h1, Bool.true_and]
    · simp only [List.map_cons, PyData.depthAll, PyData.depth, h2]; rfl
theorem shaped_strs {ws : List Str} (h : ∀ x ∈ ws, PyData.strOk x = true) : SeqAt.shaped (.list (ws.map PyData.str)) = true := by
  obtain ⟨h1, h2⟩ := lay_strs h
  unfold SeqAt.shaped
  simp only [PyData.canLay0, h1, PyData.depth, h2]
  decide
theorem bad_empty : ∀ (cs : List Nat), (badL cs).isEmpty = cs.all fun c => decide (c ∈ ("abcdefghijklmnopqrstuvwxyz" : Str).cps.toList)
  | [] => rfl
  | c :: cs => by
    have ih := bad_empty cs
    unfold badL at ih ⊢
    rw [List.filter_cons, List.all_cons]
    by_cases hc : c ∈ ("abcdefghijklmnopqrstuvwxyz" : Str).cps.toList
    · rw [decide_eq_true hc]
      exact ih
    · rw [decide_eq_false hc]
      rfl
theorem bad_eq (cs : List Nat) : PyData.eqv (.list ((badL cs).map PyData.str)) (.list []) = cs.all fun c => decide (c ∈ ("abcdefghijklmnopqrstuvwxyz" : Str).cps.toList) := by
  have := words_ne (ws := badL cs)
  rw [← bad_empty]
  revert this
  cases PyData.eqv (.list ((badL cs).map PyData.str)) (.list []) <;> cases (badL cs).isEmpty <;> simp
section
variable {P : Program} {w : World} {K : PySem.W.Frag} {mg : Str → Option Value} {base : Heap}
abbrev s__law_is_right_name : Stmt := topS 22
abbrev N__law_is_right_name : List Str := ["_law_thing", "_law_words_here", "_law_sign"]
theorem sc__law_is_right_name : FnScope N__law_is_right_name ["_law_thing"] (defScope s__law_is_right_name) := ⟨rfl, rfl, rfl, by decide +kernel, rfl, by decide +kernel, by decide +kernel⟩
def spRN : Sp := fun vs H Q _ => ∃ (t : Addr) (v : V) (d : PyData), vs = [v] ∧ Da t H v d ∧ okD d = true ∧ ∀ H', Same H H' → Q (.bl (isNameD d)) H'
theorem ok_rn {f : Addr} {fd : FuncData} (F : Fun K "_law_is_right_name" "_law_is_right_name" s__law_is_right_name f fd) (B : Bl mg) (B9 : Bl9 mg) : FnOk P w K mg base CX0 1 f fd ["_law_thing"] spRN := by
  refine F.ok sc__law_is_right_name (fun vs H Q E h => ?_) (fun cdv A outer s H vs Q E hr h => ?_)
  · obtain ⟨t, v, d, rfl, _⟩ := h
    rfl
  · obtain ⟨t, v, d, rfl, hd, hok, k⟩ := h
    have hu64 := hr.units
    refine ⟨_, (pss_cons (ps_set (i := 1) sc__law_is_right_name.nd rfl (Or.inl rfl) (pe_lst (pa_cons pe_str (pa_cons pe_str (pa_cons pe_str (pa_cons pe_str (pa_cons pe_str (pa_cons pe_str (pa_cons pe_str (pa_cons pe_str (pa_cons pe_str (pa_cons pe_str (pa_cons pe_str (pa_cons pe_str (pa_cons pe_str pa_nil)))))))))))))))
  (pss_cons (ps_if (PW.pt (pw_or (pt_not (pt_val (pe_callB call_isi (by rfl) B9.isinstance PyProof.Rows.boot_isinstance (pa_cons (pv 0) (pa_cons (pe_bltn (v := .ty "str") (by rfl) B9.str_ (by decide +kernel) rfl) pa_nil))))) (pw_or (pt_not (pt_chain op_le op_le pe_int (pe_callB call_len (by rfl) B.len PySem.boot_len (pa_cons (pv 0) pa_nil)) pe_int)) (pw_or1 (pt_cmpR op_in_seq (pv 0) (pe_op op_cat (pv 1) (pe_lst (pa_cons pe_str (pa_cons pe_str (pa_cons pe_str (pa_cons pe_str pa_nil)))))) (by rfl))))))
  (pss_one (ps_ret pe_bl))
  pss_nil)
  (pss_one (ps_ret (pe_cmpR (op_eqD hu64) (pe_lc (own := [("_law_sign", 2)]) rfl sc__law_is_right_name.nd (pi_str (pv 0)) (blkOk_by (N := N__law_is_right_name) (sc := (defScope s__law_is_right_name)) (own := [("_law_sign", 2)]) (by decide +kernel)) (fun _ _ _ _ _ => (pg_name (i := 2) sc__law_is_right_name.nd rfl (Or.inl rfl))) (fun _ _ _ _ _ => (pts_one (pt_cmpR op_notInS (pv 2) pe_str (by rfl)))) (fun _ _ _ _ _ => (pv 2))) (pe_lst pa_nil) (nomark _)))))), ?_⟩
    refine ⟨slz rfl, fun lw hlw => ?_⟩
    have s1 := same_new (o := .lst ((barL.take 13).map V.str)) hlw
    have g1 : (upd H lw (.lst ((barL.take 13).map V.str))) lw = some (.lst ((barL.take 13).map V.str)) := upd_same
    change tSeq _ _ _ _ (upd H lw (.lst ((barL.take 13).map V.str)))
    generalize upd H lw (.lst ((barL.take 13).map V.str)) = H1 at s1 g1 ⊢
    refine ⟨_, rfl, v, .ty "str", .type (tyName d), .type "str", isStr d, rfl, .ty "str", (hd.kp (kp_same s1)).ty, kit_str d, _, rfl, ?_⟩
    cases hs : isStr d with
    | false =>
      have e : isNameD d = false := by cases d <;> first | rfl | cases hs
      rw [e] at k
      exact iT rfl (iT rfl (k H1 s1))
    | true =>
      obtain ⟨x, rfl⟩ : ∃ x, d = .str x := by
        cases d with
        | str x => exact ⟨x, rfl⟩
        | _ => cases hs
      cases hd
      have lx := okD_str hok
      refine iF rfl ?_
      have e0 : isNameD (.str x) = (wok x && !decide (x ∈ barL)) := rfl
      refine ⟨_, rfl, .str x, x.length, rfl, ⟨by rw [sizeLine_eq]; omega, rfl⟩, _, _, rfl, rfl, _, rfl, ?_⟩
      by_cases h1 : (1 : Int) ≤ (x.length : Int)
      · refine iT (decide_eq_true h1) ?_
        refine ⟨_, _, rfl, rfl, _, rfl, ?_⟩
        by_cases h2 : (x.length : Int) ≤ 8
        · refine iF (by rw [decide_eq_true h2]; rfl) ?_
          refine ⟨_, rfl, _, rfl, slz rfl, fun q hq => ?_⟩
          have s2 := same_new (o := .lst ((barL.drop 13).map V.str)) hq
          have g2 : (upd H1 q (.lst ((barL.drop 13).map V.str))) q = some (.lst ((barL.drop 13).map V.str)) := upd_same
          change rCat _ _ (upd H1 q (.lst ((barL.drop 13).map V.str))) _
          generalize upd H1 q (.lst ((barL.drop 13).map V.str)) = H2 at s2 g2 ⊢
          refine ⟨lw, q, _, _, rfl, rfl, s2 _ _ g1, g2, slz rfl, fun r hr => ?_⟩
          have s3 := same_new (o := .lst (barL.map V.str)) hr
          have g3 : (upd H2 r (.lst (barL.map V.str))) r = some (.lst (barL.map V.str)) := upd_same
          change rIn K false _ _ (upd H2 r (.lst (barL.map V.str))) _
          generalize upd H2 r (.lst (barL.map V.str)) = H3 at s3 g3 ⊢
          have S3 := s1.trans (s2.trans s3)
          refine ⟨r, _, rfl, .inl (SqL.of g3), rfl, flat_words _, _, rfl, ?_⟩
          rw [inV_words]
          by_cases h3 : x ∈ barL
          · have e : isNameD (.str x) = false := by rw [e0, decide_eq_true h3, Bool.not_true, Bool.and_false]
            rw [e] at k
            exact iT (by rw [decide_eq_true h3]; rfl) (k H3 S3)
          · refine iF (by rw [decide_eq_false h3]; rfl) ?_
            have e : isNameD (.str x) = wok x := by rw [e0, decide_eq_false h3, Bool.not_false, Bool.and_true]
            rw [e] at k
            refine ⟨_, rfl, x, rfl, fun D hD => lc_it walk_str (fun i H' => Same H3 H' ∧ H' D = some (.lst ((badL (x.cps.toList.take i)).map V.str))) ⟨same_new hD, upd_same⟩ (fun i H' _ _ => trivial) ?_ ?_⟩
            · rintro i y H4 H5 hi ⟨s4, g4⟩ ⟨rfl, c, ec, rfl⟩
              refine ⟨rfl, ?_⟩
              have ec' : x.cps.toList[i]? = some c := by simpa using ec
              have hi' : i < x.length := hi
              have lb : (badL (x.cps.toList.take i)).length ≤ 100 := by
                unfold badL
                rw [List.length_map]
                have := List.length_filter_le (fun c => !decide (c ∈ ("abcdefghijklmnopqrstuvwxyz" : Str).cps.toList)) (x.cps.toList.take i)
                rw [List.length_take] at this
                omega
              refine ⟨_, rfl, c, _, rfl, rfl, _, rfl, ?_⟩
              by_cases hc : c ∈ ("abcdefghijklmnopqrstuvwxyz" : Str).cps.toList
              · refine iF (by rw [decide_eq_true hc]; rfl) ⟨s4, ?_⟩
                rw [g4, List.take_add_one, ec']
                simp only [badL, Option.toList, List.filter_append, List.filter_cons, decide_eq_true hc, Bool.not_true, Bool.false_eq_true, if_false, List.filter_nil, List.append_nil]
              · refine iT (by rw [decide_eq_false hc]; rfl) ⟨_, rfl, _, g4, szl (by rw [List.length_map]; omega), fun b o e => ?_, ?_⟩
                · rw [upd_ne (ne_of_none e hD)]
                  exact s4 _ _ e
                · rw [upd_same, List.take_add_one, ec']
                  simp only [badL, Option.toList, List.filter_append, List.filter_cons, decide_eq_false hc, Bool.not_false, if_true, List.filter_nil, List.map_append, List.map_cons, List.map_nil]
            · rintro H4 ⟨s4, g4⟩
              refine ⟨slz rfl, fun z hz => ?_⟩
              have s5 := same_new (o := .lst []) hz
              have g5 : (upd H4 z (.lst [])) z = some (.lst []) := upd_same
              generalize upd H4 z (.lst []) = H5 at s5 g5 ⊢
              refine ⟨_, _, .lst (SqL.of (s5 _ _ g4)) (dp_words _), .lst (SqL.of g5) .nil, ?_, shaped_nil, ?_⟩
              · exact shaped_strs fun y hy => by
                  obtain ⟨c, hc, rfl⟩ := List.mem_map.mp hy
                  have hc := (List.mem_filter.mp hc).1
                  exact strOk_sign (okD_sign hok) (List.mem_of_mem_take hc)
              · rw [bad_eq, show x.cps.toList.take x.cps.size = x.cps.toList from by rw [List.take_of_length_le (by simp)]]
                have e2 : wok x = x.cps.toList.all fun c => decide (c ∈ ("abcdefghijklmnopqrstuvwxyz" : Str).cps.toList) := by
                  rw [wok_abc]
                  rw [decide_eq_true (by omega : 1 ≤ x.length), decide_eq_true (by omega : x.length ≤ 8)]
                  rfl
                rw [e2] at k
                exact k H5 (S3.trans (s4.trans s5))
        · have e : isNameD (.str x) = false := by
            rw [e0]
            rw [wok_abc]
            rw [decide_eq_false (by omega : ¬ x.length ≤ 8)]
            simp
          rw [e] at k
          exact iT (by rw [decide_eq_false h2]; rfl) (k H1 s1)
      · have e : isNameD (.str x) = false := by
          rw [e0]
          rw [wok_abc]
          rw [decide_eq_false (by omega : ¬ 1 ≤ x.length)]
          rfl
        rw [e] at k
        exact iF (decide_eq_false h1) ⟨_, rfl, k H1 s1⟩
/-! ### kinds -/
abbrev s__law_is_right_kind : Stmt := topS 23
abbrev N__law_is_right_kind : List Str := ["_law_thing"]
theorem sc__law_is_right_kind : FnScope N__law_is_right_kind ["_law_thing"] (defScope s__law_is_right_kind) := ⟨rfl, rfl, rfl, by decide +kernel, rfl, by decide +kernel, by decide +kernel⟩
def spRK (n : Nat) : Sp := fun vs H Q _ => ∃ (t : Addr) (v : V) (d : PyData), vs = [v] ∧ Da t H v d ∧ okD d = true ∧ d.depth ≤ n ∧ ∀ H', Same H H' → Q (.bl (isKindD d)) H'
theorem ok_rk {n : Nat} {f : Addr} {fd : FuncData} (F : Fun K "_law_is_right_kind" "_law_is_right_kind" s__law_is_right_kind f fd) (B : Bl mg) (B9 : Bl9 mg) (D__law_is_right_name : Kn P w K mg base 1 "_law_is_right_name" ["_law_thing"] spRN) (D__law_is_right_kind : Kn P w K mg base (n + 1) "_law_is_right_kind" ["_law_thing"] (spPrev spRK n)) : FnOk P w K mg base CX0 (n + 2) f fd ["_law_thing"] (spRK n) := by
  refine F.ok sc__law_is_right_kind (fun vs H Q E h => ?_) (fun cdv A outer s H vs Q E hr h => ?_)
  · obtain ⟨t, v, d, rfl, _⟩ := h
    rfl
  · obtain ⟨t, v, d, rfl, hd, hok, hdep, k⟩ := h
    have hr__law_is_right_kind : Room (n + 1) _ := hr
    have hr__law_is_right_name : Room 1 _ := hr.mono (by omega)
    refine ⟨_, (pss_cons (ps_if (PW.pt (pw_or (pt_not (pt_val (pe_callB call_isi (by rfl) B9.isinstance PyProof.Rows.boot_isinstance (pa_cons (pv 0) (pa_cons (pe_bltn (v := .ty "tuple") (by rfl) B9.tuple (by decide +kernel) rfl) pa_nil))))) (pw_or (pt_cmpR op_lt (pe_callB call_len (by rfl) B.len PySem.boot_len (pa_cons (pv 0) pa_nil)) pe_int (nomark _)) (pw_or1 (pt_not (pt_val (pe_callB call_isi (by rfl) B9.isinstance PyProof.Rows.boot_isinstance (pa_cons (pe_ix ix_tup (pv 0) pe_int (fun _ _ => rfl)) (pa_cons (pe_bltn (v := .ty "str") (by rfl) B9.str_ (by decide +kernel) rfl) pa_nil)))))))))
  (pss_one (ps_ret pe_bl))
  pss_nil)
  (pss_cons (ps_if (pt_cmpR op_eq (pe_ix ix_tup (pv 0) pe_int (fun _ _ => rfl)) pe_str (nomark _))
  (pss_one (ps_ret (pe_and (pe_cmpR op_eq (pe_callB call_len (by rfl) B.len PySem.boot_len (pa_cons (pv 0) pa_nil)) pe_int (nomark _)) (pe_and (pe_kn D__law_is_right_kind hr__law_is_right_kind (pa_cons (pe_ix ix_tup (pv 0) pe_int (fun _ _ => rfl)) pa_nil)) (pe_one (pe_kn D__law_is_right_kind hr__law_is_right_kind (pa_cons (pe_ix ix_tup (pv 0) pe_int (fun _ _ => rfl)) pa_nil)))))))
  pss_nil)
  (pss_one (ps_ret (pe_and (pe_cmpR op_eq (pe_callB call_len (by rfl) B.len PySem.boot_len (pa_cons (pv 0) pa_nil)) pe_int (nomark _)) (pe_and (pe_cmpR op_in_seq (pe_ix ix_tup (pv 0) pe_int (fun _ _ => rfl)) (pe_tup (pa_cons pe_str (pa_cons pe_str pa_nil))) (by rfl)) (pe_one (pe_kn D__law_is_right_name hr__law_is_right_name (pa_cons (pe_ix ix_tup (pv 0) pe_int (fun _ _ => rfl)) pa_nil))))))))), ?_⟩
    refine ⟨_, rfl, v, .ty "tuple", .type (tyName d), .type "tuple", isTup d, rfl, .ty "tuple", hd.ty, kit_tup d, _, rfl, ?_⟩
    cases ht : isTup d with
    | false =>
      rw [isKindD_not ht] at k
      exact iT rfl (iT rfl (k H (Same.refl H)))
    | true =>
      obtain ⟨es, rfl⟩ : ∃ es, d = .tuple es := by
        cases d with
        | tuple es => exact ⟨es, rfl⟩
        | _ => cases ht
      have ek : isKindD (.tuple es) = isKindL es := by simp only [isKindD]
      rw [ek] at k
      cases id hd with
      | @tup a xs _ ga da =>
        have le := da.len
        have ho2 : okL es = true := by simpa only [okD] using hok
        refine iF rfl ?_
        refine ⟨_, rfl, .ref a, xs.length, rfl, .inr ⟨xs, SqT.of ga, rfl⟩, _, _, rfl, rfl, _, rfl, ?_⟩
        match es, da, k, hdep, ho2, le with
        | [], da, k, _, _, le =>
          refine iT (decide_eq_true (by rw [le]; decide)) (iT rfl ?_)
          simp only [isKindL, isLeafD] at k
          exact k H (Same.refl H)
        | [_], da, k, _, _, le =>
          refine iT (decide_eq_true (by rw [le]; show ((1 : Nat) : Int) < 2; decide)) (iT rfl ?_)
          simp only [isKindL, isLeafD] at k
          exact k H (Same.refl H)
        | h :: e :: rest, da, k, hdep, ho2, le =>
          refine iF (decide_eq_false (by rw [le]; simp only [List.length_cons]; omega)) ?_
          cases da with
          | @cons vh _ _ _ dh t1 =>
            cases t1 with
            | @cons ve vr _ _ de dr =>
              refine ⟨_, rfl, _, _, 0, _, rfl, rfl, SqT.of ga, at_ofG (j := 0) rfl rfl, vh, .ty "str", .type (tyName h), .type "str", isStr h, rfl, .ty "str", dh.ty, kit_str h, _, rfl, ?_⟩
              have oke : okD e = true := okL_mem ho2 (by simp)
              cases hs : isStr h with
              | false =>
                have ef : isKindL (h :: e :: rest) = false := by
                  have e1 : ∀ z, isS z h = false := fun z => by cases h <;> first | rfl | cases hs
                  match rest with
                  | [] => simp only [isKindL, isLeafD, e1, Bool.or_self, Bool.false_and]
                  | [g] => simp only [isKindL, e1, Bool.false_and]
                  | _ :: _ :: _ => simp only [isKindL, isLeafD]
                rw [ef] at k
                exact iT rfl (k H (Same.refl H))
              | true =>
                obtain ⟨x, rfl⟩ : ∃ x, h = .str x := by
                  cases h with
                  | str x => exact ⟨x, rfl⟩
                  | _ => cases hs
                cases dh
                refine iF rfl ?_
                refine ⟨_, rfl, _, _, 0, _, rfl, rfl, SqT.of ga, at_ofG (j := 0) rfl rfl, rfl, _, rfl, ?_⟩
                by_cases hx : x = "apply"
                · subst hx
                  refine iT tg_aa ?_
                  refine ⟨_, rfl, .ref a, _, rfl, .inr ⟨_, SqT.of ga, rfl⟩, rfl, _, rfl, ?_⟩
                  match rest, dr, k, hdep, le, ho2 with
                  | [g], dr, k, hdep, le, ho2 =>
                    cases dr with
                    | @cons vg _ _ _ dg dn =>
                      cases dn
                      refine iT rfl ?_
                      have okg : okD g = true := okL_mem ho2 (by simp)
                      rw [isKindL_three, show isS "apply" (.str "apply") = true by decide +kernel, Bool.true_and] at k
                      simp only [PyData.depth, PyData.depthAll] at hdep
                      obtain ⟨n', rfl⟩ : ∃ n', n = n' + 1 := ⟨n - 1, by omega⟩
                      refine ⟨_, rfl, _, _, 1, _, rfl, rfl, SqT.of ga, at_ofG (j := 1) rfl rfl, t, ve, e, rfl, de, oke, by omega, fun H1 s1 => ⟨_, rfl, ?_⟩⟩
                      cases he : isKindD e with
                      | false =>
                        rw [he] at k
                        exact iF rfl (k H1 s1)
                      | true =>
                        rw [he] at k
                        refine iT rfl ?_
                        exact ⟨_, rfl, _, _, 2, _, rfl, rfl, SqT.of (s1 _ _ ga), at_ofG (j := 2) rfl rfl, t, vg, g, rfl, dg.kp (kp_same s1), okg, by omega, fun H2 s2 => k H2 (s1.trans s2)⟩
                  | [], dr, k, _, _, _ =>
                    cases dr
                    have ef : isKindL [.str "apply", e] = false := by
                      simp only [isKindL, isLeafD]
                      rfl
                    rw [ef] at k
                    exact iF rfl (k H (Same.refl H))
                  | _ :: _ :: _, dr, k, _, le, _ =>
                    have ef : ∀ r : List PyData, 2 ≤ r.length → isKindL (.str "apply" :: e :: r) = false := fun r hr => by
                      match r, hr with
                      | _ :: _ :: _, _ => simp only [isKindL, isLeafD]
                    rw [ef _ (by simp only [List.length_cons]; omega)] at k
                    refine iF (decide_eq_false fun z => ?_) (k H (Same.refl H))
                    have z := Int.ofNat.inj (V.int.inj z)
                    rw [le] at z
                    simp only [List.length_cons] at z
                    omega
                · refine iF (decide_eq_false fun z => hx (V.str.inj z)) ?_
                  refine ⟨_, rfl, .ref a, _, rfl, .inr ⟨_, SqT.of ga, rfl⟩, rfl, _, rfl, ?_⟩
                  match rest, dr, k, hdep, le, ho2 with
                  | [], dr, k, hdep, le, ho2 =>
                    cases dr
                    refine iT rfl ?_
                    refine ⟨_, rfl, _, _, 0, _, rfl, rfl, SqT.of ga, at_ofG (j := 0) rfl rfl, slz rfl, fun q hq => ?_⟩
                    have sq := same_new (o := .tup [.str "var", .str "con"]) hq
                    have gq : (upd H q (.tup [.str "var", .str "con"])) q = some (.tup [.str "var", .str "con"]) := upd_same
                    generalize upd H q (.tup [.str "var", .str "con"]) = H1 at sq gq ⊢
                    refine ⟨q, _, rfl, .inr (SqT.of gq), rfl, flat_words ["var", "con"], _, rfl, ?_⟩
                    have ein : inV (.str x) [V.str "var", V.str "con"] = (isS "var" (.str x) || isS "con" (.str x)) := by
                      have := inV_words x ["var", "con"]
                      rw [show [V.str "var", V.str "con"] = (["var", "con"] : List Str).map V.str from rfl, this]
                      show _ = (decide (x = "var") || decide (x = "con"))
                      simp
                    have ef : isKindL [.str x, e] = ((isS "var" (.str x) || isS "con" (.str x)) && isNameD e) := by
                      simp only [isKindL, isLeafD]
                    rw [ef, ← ein] at k
                    cases hi : inV (.str x) [V.str "var", V.str "con"] with
                    | false =>
                      rw [hi] at k
                      exact iF rfl (k H1 sq)
                    | true =>
                      rw [hi] at k
                      refine iT rfl ?_
                      exact ⟨_, rfl, _, _, 1, _, rfl, rfl, SqT.of (sq _ _ ga), at_ofG (j := 1) rfl rfl, t, ve, e, rfl, de.kp (kp_same sq), oke, fun H2 s2 => k H2 (sq.trans s2)⟩
                  | _ :: _, dr, k, _, le, _ =>
                    have ef : ∀ r : List PyData, 1 ≤ r.length → isKindL (.str x :: e :: r) = false := fun r hr => by
                      match r, hr with
                      | [g], _ =>
                        rw [isKindL_three, show isS "apply" (.str x) = false from decide_eq_false hx]
                        rfl
                      | _ :: _ :: _, _ => simp only [isKindL, isLeafD]
                    rw [ef _ (by simp only [List.length_cons]; omega)] at k
                    refine iF (decide_eq_false fun z => ?_) (k H (Same.refl H))
                    have z := Int.ofNat.inj (V.int.inj z)
                    rw [le] at z
                    simp only [List.length_cons] at z
                    omega
theorem rk_all {f : Addr} {fd : FuncData} (F : Fun K "_law_is_right_kind" "_law_is_right_kind" s__law_is_right_kind f fd) (hm : mg "_law_is_right_kind" = some (.ref f)) (B : Bl mg) (B9 : Bl9 mg) (D__law_is_right_name : Kn P w K mg base 1 "_law_is_right_name" ["_law_thing"] spRN) : ∀ n, FnOk P w K mg base CX0 (n + 2) f fd ["_law_thing"] (spRK n)
  | 0 => ok_rk F B B9 D__law_is_right_name ⟨f, fd, fn_falseN, hm, F.kp, F.binds fun _ _ _ _ _ _ us hl => match us, hl with | [_], _ => rfl⟩
  | n + 1 => ok_rk F B B9 D__law_is_right_name ⟨f, fd, rk_all F hm B B9 D__law_is_right_name n, hm, F.kp, F.binds fun _ _ _ _ _ _ us hl => match us, hl with | [_], _ => rfl⟩
end
end L3

/-! drawn kinds, with anything at any place -/
namespace L3
open PySem L2
/-- a name -/
def Nok (x : Str) : Prop := Wok x ∧ isNameD (.str x) = true
def Kd.nm : Kd → Prop
  | .var x => isNameD (.str x) = true
  | .con x => isNameD (.str x) = true
  | .app a b => a.nm ∧ b.nm
theorem isKind_kd : ∀ {k : Kd}, k.nm → isKindD k.dat = true
  | .var x, h => by
    have h : isNameD (.str x) = true := h
    simp only [Kd.dat, isKindD, isKindL, isLeafD, h]
    decide +kernel
  | .con x, h => by
    have h : isNameD (.str x) = true := h
    simp only [Kd.dat, isKindD, isKindL, isLeafD, h]
    decide +kernel
  | .app a b, h => by
    have h1 := isKind_kd h.1
    have h2 := isKind_kd h.2
    simp only [Kd.dat, isKindD, isKindL, h1, h2]
    decide +kernel
theorem okD_kd : ∀ {k : Kd}, k.wk → okD k.dat = true
  | .var x, h => by
    have w : Wok x := h
    have e1 : okD (.str "var") = true := by decide +kernel
    have e2 : okD (.str x) = true := by
      have := w.2.1
      simp only [okD, w.str, decide_eq_true (by omega : x.length ≤ 100)]
      rfl
    simp only [Kd.dat, okD, okL] at *
    simp only [e1, e2]
    rfl
  | .con x, h => by
    have w : Wok x := h
    have e1 : okD (.str "con") = true := by decide +kernel
    have e2 : okD (.str x) = true := by
      have := w.2.1
      simp only [okD, w.str, decide_eq_true (by omega : x.length ≤ 100)]
      rfl
    simp only [Kd.dat, okD, okL] at *
    simp only [e1, e2]
    rfl
  | .app a b, h => by
    have h1 := okD_kd h.1
    have h2 := okD_kd h.2
    have e1 : okD (.str "apply") = true := by decide +kernel
    have e3 : okD (.tuple [.str "apply", a.dat, b.dat]) = okL [.str "apply", a.dat, b.dat] := by simp only [okD]
    show okD (.tuple [.str "apply", a.dat, b.dat]) = true
    rw [e3]
    simp only [okL, e1, h1, h2]
    rfl
def wcost : Nat → Nat
  | 0 => 3
  | n + 1 => 3 + 2 * wcost n
section
variable {P : Program} {w : World} {K : PySem.W.Frag} {mg : Str → Option Value} {base : Heap}
abbrev s__law_wide_kind : Stmt := topS 26
abbrev N__law_wide_kind : List Str := ["_law_tape", "_law_names", "_law_words_here", "_law_deep", "_law_way", "_law_left", "_law_right", "_law_k"]
theorem sc__law_wide_kind : FnScope N__law_wide_kind ["_law_tape", "_law_names", "_law_words_here", "_law_deep"] (defScope s__law_wide_kind) := ⟨rfl, rfl, rfl, by decide +kernel, rfl, by decide +kernel, by decide +kernel⟩
def spWK (K : PySem.W.Frag) (n : Nat) : Sp := fun vs H Q _ => ∃ (t c ln lc : Addr) (ws cs : List Str) (b : Nat), vs = [.ref t, .ref ln, .ref lc, .int (n : Int)] ∧ SqL K H ln (ws.map V.str) ∧ SqL K H lc (cs.map V.str) ∧ (∀ x ∈ ws, Nok x) ∧ (∀ x ∈ cs, Nok x) ∧ 0 < ws.length ∧ 0 < cs.length ∧ ws.length < 1000 ∧ cs.length < 1000 ∧ Tape K H t c (b + wcost n) ∧
  ∀ (H' : Hp) (v : V) (k : Kd), Ext t H H' → Tape K H' t c b → KdAt H' v k → k.fit (2 * n) → k.nm → Q v H'
theorem ok_wide {n : Nat} {f : Addr} {fd : FuncData} (F : Fun K "_law_wide_kind" "_law_wide_kind" s__law_wide_kind f fd) (B : Bl mg) (D__law_draw : Kn P w K mg base 1 "_law_draw" ["_law_tape", "_law_many"] (spDraw K)) (D__law_pick : Kn P w K mg base 2 "_law_pick" ["_law_tape", "_law_items"] (spPick K))
    (D__law_to : Kn P w K mg base 2 "_law_to" ["_law_kinds"] (spLTo K)) (D__law_wide_kind : Kn P w K mg base (n + 2) "_law_wide_kind" ["_law_tape", "_law_names", "_law_words_here", "_law_deep"] (spPrev (spWK K) n)) : FnOk P w K mg base CX0 (n + 3) f fd ["_law_tape", "_law_names", "_law_words_here", "_law_deep"] (spWK K n) := by
  refine F.ok sc__law_wide_kind (fun vs H Q E h => ?_) (fun cdv A outer s H vs Q E hr h => ?_)
  · obtain ⟨t, c, ln, lc, ws, cs, b, rfl, _⟩ := h
    rfl
  · obtain ⟨t, c, ln, lc, ws, cs, b, rfl, h1, h2, w1, w2, p1, p2, z1, z2, hT, k⟩ := h
    have hr__law_draw : Room 1 _ := hr.mono (by omega)
    have hr__law_pick : Room 2 _ := hr.mono (by omega)
    have hr__law_to : Room 2 _ := hr.mono (by omega)
    have hr__law_wide_kind : Room (n + 2) _ := hr
    have c3 : 3 ≤ wcost n := by cases n <;> simp only [wcost] <;> omega
    refine ⟨_, (pss_cons (ps_set (i := 4) sc__law_wide_kind.nd rfl (Or.inl rfl) (pe_ifExp (pt_cmpR op_gt (pv 3) pe_int (nomark _)) (pe_kn D__law_draw hr__law_draw (pa_cons (pv 0) (pa_cons pe_int pa_nil))) (pe_kn D__law_draw hr__law_draw (pa_cons (pv 0) (pa_cons pe_int pa_nil)))))
  (pss_cons (ps_if (pt_cmpR op_lt (pv 4) pe_int (nomark _))
  (pss_one (ps_ret (pe_ix ix_list (pe_lst (pa_cons (pe_tup (pa_cons pe_str (pa_cons (pe_kn D__law_pick hr__law_pick (pa_cons (pv 0) (pa_cons (pv 1) pa_nil))) pa_nil))) (pa_cons (pe_tup (pa_cons pe_str (pa_cons (pe_kn D__law_pick hr__law_pick (pa_cons (pv 0) (pa_cons (pv 2) pa_nil))) pa_nil))) pa_nil))) (pv 4) (fun _ _ => rfl))))
  pss_nil)
  (pss_cons (ps_asg (pe_lc (own := [("_law_k", 7)]) rfl sc__law_wide_kind.nd (pi_range1 (by rfl) B.range (pa_cons pe_int pa_nil)) (blkOk_by (N := N__law_wide_kind) (sc := (defScope s__law_wide_kind)) (own := [("_law_k", 7)]) (by decide +kernel)) (fun _ _ _ _ _ => (pg_name (i := 7) sc__law_wide_kind.nd rfl (Or.inl rfl))) (fun _ _ _ _ _ => pts_nil) (fun _ _ _ _ _ => (pe_kn D__law_wide_kind hr__law_wide_kind (pa_cons (pv 0) (pa_cons (pv 1) (pa_cons (pv 2) (pa_cons (pe_op op_sub (pv 3) pe_int) pa_nil))))))) (pg_lst (by rfl) (pgs_cons (pg_name (i := 5) sc__law_wide_kind.nd rfl (Or.inl rfl)) (pgs_cons (pg_name (i := 6) sc__law_wide_kind.nd rfl (Or.inl rfl)) pgs_nil))))
  (pss_cons (ps_if (pt_cmpR op_lt (pv 4) pe_int (nomark _))
  (pss_one (ps_ret (pe_kn D__law_to hr__law_to (pa_cons (pe_lst (pa_cons (pv 5) (pa_cons (pv 6) pa_nil))) pa_nil))))
  pss_nil)
  (pss_one (ps_ret (pe_tup (pa_cons pe_str (pa_cons (pv 5) (pa_cons (pv 6) pa_nil)))))))))), ?_⟩
    have leaf : ∀ (H1 : Hp) (r : Int), Ext t H H1 → Tape K H1 t c (b + 2) → 0 ≤ r → r < 2 → tRet (tOp (rIxL K) (tLst (tCons (tTup (tCons (tC (.str "var")) (tCons (tCall (spPick K) [] E0 (tCons (tVar 0) (tCons (tVar 1) tNil))) tNil))) (tCons (tTup (tCons (tC (.str "con")) (tCons (tCall (spPick K) [] E0 (tCons (tVar 0) (tCons (tVar 2) tNil))) tNil))) tNil))) (tVar 4)) { nx := fun x H' => Q V.non H', rt := Q } [some (.ref t), some (.ref ln), some (.ref lc), some (.int (n : Int)), some (.int r), none, none, none] H1 := by
      intro H1 r E1 T1 r1 r2
      refine ⟨_, rfl, _, rfl, t, c, ln, ws.map V.str, b + 1, rfl, SqL.extT h1 hT E1, by rw [List.length_map]; exact p1, by rw [List.length_map]; omega, T1, fun H2 v E2 T2 hv => ?_⟩
      obtain ⟨x, hx, rfl⟩ := List.mem_map.mp hv
      refine ⟨slz rfl, fun q hq => ?_⟩
      have E3 : Ext t H2 (upd H2 q (.tup [.str "var", .str x])) := Ext.new hq
      have T3 := T2.new (o := .tup [.str "var", .str x]) hq
      have k3 : KdAt (upd H2 q (.tup [.str "var", .str x])) (.ref q) (.var x) := ⟨q, rfl, upd_same⟩
      generalize upd H2 q (.tup [.str "var", .str x]) = H3 at E3 T3 k3 ⊢
      have EE3 := E1.trans (E2.trans E3)
      refine ⟨_, rfl, _, rfl, t, c, lc, cs.map V.str, b, rfl, SqL.extT h2 hT EE3, by rw [List.length_map]; exact p2, by rw [List.length_map]; omega, T3, fun H4 v4 E4 T4 hv4 => ?_⟩
      obtain ⟨y, hy, rfl⟩ := List.mem_map.mp hv4
      refine ⟨slz rfl, fun q5 hq5 => ?_⟩
      have E5 : Ext t H4 (upd H4 q5 (.tup [.str "con", .str y])) := Ext.new hq5
      have T5 := T4.new (o := .tup [.str "con", .str y]) hq5
      have k5 : KdAt (upd H4 q5 (.tup [.str "con", .str y])) (.ref q5) (.con y) := ⟨q5, rfl, upd_same⟩
      generalize upd H4 q5 (.tup [.str "con", .str y]) = H5 at E5 T5 k5 ⊢
      refine ⟨slz rfl, fun q6 hq6 => ?_⟩
      have E6 : Ext t H5 (upd H5 q6 (.lst [.ref q, .ref q5])) := Ext.new hq6
      have T6 := T5.new (o := .lst [.ref q, .ref q5]) hq6
      have g6 : (upd H5 q6 (.lst [.ref q, .ref q5])) q6 = some (.lst [.ref q, .ref q5]) := upd_same
      generalize upd H5 q6 (.lst [.ref q, .ref q5]) = H6 at E6 T6 g6 ⊢
      have EE6 := EE3.trans (E4.trans (E5.trans E6))
      rcases (by omega : r = 0 ∨ r = 1) with rfl | rfl
      · exact ⟨_, rfl, _, _, _, _, rfl, rfl, SqL.of g6, at_ofG (j := 0) rfl rfl, k _ _ (.var x) EE6 T6 (KdAt.tups (Ext.tups (E4.trans (E5.trans E6)) T3) k3) (fitV (w1 x hx).1) (w1 x hx).2⟩
      · exact ⟨_, rfl, _, _, _, _, rfl, rfl, SqL.of g6, at_ofG (j := 1) rfl rfl, k _ _ (.con y) EE6 T6 (KdAt.tups (Ext.tups E6 T5) k5) (fitC (w2 y hy).1) (w2 y hy).2⟩
    refine ⟨_, rfl, _, _, rfl, rfl, _, rfl, ?_⟩
    cases n with
    | zero =>
      refine iF rfl ?_
      refine ⟨_, rfl, t, c, 2, b + 2, rfl, by decide, by decide, hT, fun H1 r E1 T1 r1 r2 => ?_⟩
      refine ⟨_, rfl, _, _, rfl, rfl, _, rfl, ?_⟩
      exact iT (decide_eq_true r2) (leaf H1 r E1 T1 r1 r2)
    | succ m =>
      refine iT (decide_eq_true (by omega)) ?_
      refine ⟨_, rfl, t, c, 8, b + (2 + 2 * wcost m), rfl, by decide, by decide, hT.less (by simp only [wcost]; omega), fun H1 r E1 T1 r1 r2 => ?_⟩
      refine ⟨_, rfl, _, _, rfl, rfl, _, rfl, ?_⟩
      by_cases hr2 : r < 2
      · exact iT (decide_eq_true hr2) (leaf H1 r E1 (T1.less (by omega)) r1 hr2)
      · refine iF (decide_eq_false hr2) ?_
        refine ⟨2, rfl, by decide, by decide, fun D hD => ?_⟩
        refine lc_range (lo := 0) (n := 2) (fun i H' => Ext t H1 H' ∧ Tape K H' t c (b + 2 + (2 - i) * wcost m) ∧ ∃ (vs : List V) (ks : List Kd), H' D = some (.lst vs) ∧ KdsAt H' vs ks ∧ vs.length = i ∧ ∀ k ∈ ks, k.fit (2 * m) ∧ k.nm)
          ⟨Ext.new hD, (T1.new hD).less (by omega), [], [], upd_same, .nil, rfl, fun _ q => nomatch q⟩ (fun i H' hi ⟨e1, t1, vs, ks, g1, g2, g3, g4⟩ => ⟨rfl, ?_⟩) (fun H3 ⟨e1, t1, vs, ks, g1, g2, g3, g4⟩ => ?_)
        · have em : (2 - i) * wcost m = (2 - (i + 1)) * wcost m + wcost m := by
            rw [show 2 - i = (2 - (i + 1)) + 1 by omega, Nat.succ_mul]
          refine ⟨_, rfl, _, rfl, _, rfl, _, rfl, _, _, rfl, rfl, ?_⟩
          refine ⟨t, c, ln, lc, ws, cs, b + 2 + (2 - (i + 1)) * wcost m, congrArg (fun z : Int => [V.ref t, V.ref ln, V.ref lc, V.int z]) (by omega), SqL.extT h1 hT (E1.trans e1), SqL.extT h2 hT (E1.trans e1), w1, w2, p1, p2, z1, z2, t1.less (by omega), fun H4 v k4 e4 t4 f1 f2 f3 => ?_⟩
          have nD : D ≠ t := T1.ne hD
          refine ⟨vs, e4 _ _ nD g1, small1000 (by omega), (e1.trans e4).upd hD, Tape.put T1 (e1.trans e4) t4 hD, vs ++ [v], ks ++ [k4], upd_same, ?_, by rw [List.length_append, g3]; rfl, ?_⟩
          · have tu : Tups H4 (upd H4 D (.lst (vs ++ [v]))) := Tups.put (e4 _ _ nD g1) (by intro xs z; cases z)
            exact Paired.snoc (KdsAt.tups ((Ext.tups e4 t1).trans tu) g2) (KdAt.tups tu f1)
          · intro k hk
            rcases List.mem_append.mp hk with q | q
            · exact g4 k q
            · rw [List.mem_singleton.mp q]
              exact ⟨f2, f3⟩
        · obtain ⟨va, vb, rfl⟩ : ∃ a b, vs = [a, b] := by
            match vs, g3 with
            | [a, b], _ => exact ⟨a, b, rfl⟩
          cases g2 with
          | @cons _ ka _ _ qa g2 =>
            cases g2 with
            | @cons _ kb _ _ qb g2 =>
              cases g2
              obtain ⟨fa, na⟩ := g4 ka (by simp)
              obtain ⟨fb, nb⟩ := g4 kb (by simp)
              have EE := E1.trans e1
              refine ⟨D, _, rfl, SqL.of g1, rfl, _, _, rfl, _, _, rfl, rfl, ?_⟩
              refine ⟨_, rfl, _, _, rfl, rfl, _, rfl, ?_⟩
              by_cases hr5 : r < 5
              · refine iT (decide_eq_true hr5) ?_
                refine ⟨_, rfl, _, rfl, slz rfl, fun q hq => ?_⟩
                have s4 := same_new (o := .lst [va, vb]) hq
                have g4' : (upd H3 q (.lst [va, vb])) q = some (.lst [va, vb]) := upd_same
                generalize upd H3 q (.lst [va, vb]) = H4 at s4 g4' ⊢
                refine ⟨q, [va], vb, [ka], kb, rfl, SqL.of g4', .cons (KdAt.tups (same_tups s4) qa) .nil, KdAt.tups (same_tups s4) qb, fun H5 v s5 kv => ?_⟩
                exact k H5 v _ (EE.trans (same_ext (s4.trans s5))) ((t1.less (by omega)).same (s4.trans s5)) kv ⟨⟨fitC wok_to, show Kd.fit (2 * m) ka from fa⟩, show Kd.fit (2 * m + 1) kb from Kd.fit_mono (by omega) fb⟩ ⟨⟨by show isNameD (.str "to") = true; decide +kernel, na⟩, nb⟩
              · refine iF (decide_eq_false hr5) ?_
                refine ⟨_, rfl, _, rfl, slz rfl, fun q hq => ?_⟩
                have s4 := same_new (o := .tup [.str "apply", va, vb]) hq
                exact k _ _ (.app ka kb) (EE.trans (same_ext s4)) ((t1.less (by omega)).same s4) ⟨q, va, vb, rfl, upd_same, KdAt.tups (same_tups s4) qa, KdAt.tups (same_tups s4) qb⟩ ⟨show Kd.fit (2 * m + 1) ka from Kd.fit_mono (by omega) fa, show Kd.fit (2 * m + 1) kb from Kd.fit_mono (by omega) fb⟩ ⟨na, nb⟩
theorem wide_all {f : Addr} {fd : FuncData} (F : Fun K "_law_wide_kind" "_law_wide_kind" s__law_wide_kind f fd) (hm : mg "_law_wide_kind" = some (.ref f)) (B : Bl mg) (D__law_draw : Kn P w K mg base 1 "_law_draw" ["_law_tape", "_law_many"] (spDraw K)) (D__law_pick : Kn P w K mg base 2 "_law_pick" ["_law_tape", "_law_items"] (spPick K))
    (D__law_to : Kn P w K mg base 2 "_law_to" ["_law_kinds"] (spLTo K)) : ∀ n, FnOk P w K mg base CX0 (n + 3) f fd ["_law_tape", "_law_names", "_law_words_here", "_law_deep"] (spWK K n)
  | 0 => ok_wide F B D__law_draw D__law_pick D__law_to ⟨f, fd, fn_falseN, hm, F.kp, F.binds fun _ _ _ _ _ _ us hl => match us, hl with | [_, _, _, _], _ => rfl⟩
  | n + 1 => ok_wide F B D__law_draw D__law_pick D__law_to ⟨f, fd, wide_all F hm B D__law_draw D__law_pick D__law_to n, hm, F.kp, F.binds fun _ _ _ _ _ _ us hl => match us, hl with | [_, _, _, _], _ => rfl⟩
/-- drawn ones of all depths up to 4 -/
def spWKs (K : PySem.W.Frag) : Sp := fun vs H Q E => ∃ n, n ≤ 4 ∧ spWK K n vs H Q E
theorem fn_wks {f : Addr} {fd : FuncData} {ps : List Str} {k : Nat} (h : ∀ n, n ≤ 4 → FnOk P w K mg base CX0 k f fd ps (spWK K n)) : FnOk P w K mg base CX0 k f fd ps (spWKs K) :=
  ⟨fun vs H Q E ⟨n, hn, g⟩ => (h n hn).len vs H Q E g, fun A outer s H args us vs Q E hr e0 hb r ⟨n, hn, g⟩ => (h n hn).run A outer s H args us vs Q E hr e0 hb r g⟩

end
end L3

/-! how long values of any kind are shown -/
namespace L3
open PySem L2
mutual
def wt : PyData → Nat
  | .list ds => 7 + wtL ds
  | .tuple ds => 7 + wtL ds
  | d => 7 + d.shown.length
def wtL : List PyData → Nat
  | [] => 0
  | d :: ds => 2 + wt d + wtL ds
end
theorem wt_tup (ds : List PyData) : wt (.tuple ds) = 7 + wtL ds := by simp only [wt]
theorem wt_lst (ds : List PyData) : wt (.list ds) = 7 + wtL ds := by simp only [wt]
theorem wtL_cons (d : PyData) (ds : List PyData) : wtL (d :: ds) = 2 + wt d + wtL ds := by simp only [wtL]
theorem wtL_app : ∀ (a b : List PyData), wtL (a ++ b) = wtL a + wtL b
  | [], b => by simp [wtL]
  | d :: a, b => by simp only [List.cons_append, wtL_cons, wtL_app a b]; omega
theorem wt_low (d : PyData) : 7 ≤ wt d := by cases d <;> simp only [wt] <;> omega
theorem wtL_len : ∀ (a : List PyData), a.length ≤ wtL a
  | [] => Nat.le_refl _
  | d :: a => by
    have := wtL_len a
    rw [wtL_cons, List.length_cons]
    omega
mutual
theorem shown_wt : ∀ (d : PyData), d.shown.length ≤ wt d
  | .none => by simp only [wt]; omega
  | .bool _ => by simp only [wt]; omega
  | .int _ => by simp only [wt]; omega
  | .str _ => by simp only [wt]; omega
  | .dict _ => by simp only [wt]; omega
  | .list ds => by
    have h := listText_len_le (PyData.shownAll ds)
    have g := shownAll_wt ds
    simp only [PyData.shown, wt]
    omega
  | .tuple ds => by
    have h := tupleText_len_le (PyData.shownAll ds)
    have g := shownAll_wt ds
    simp only [PyData.shown, wt]
    omega
theorem shownAll_wt : ∀ (ds : List PyData), ((PyData.shownAll ds).map (·.length)).sum + 2 * (PyData.shownAll ds).length ≤ wtL ds
  | [] => by simp [PyData.shownAll, wtL]
  | d :: ds => by
    have h := shown_wt d
    have g := shownAll_wt ds
    simp only [PyData.shownAll, wtL, List.map_cons, List.sum_cons, List.length_cons]
    omega
end
theorem wt_kd : ∀ {k : Kd} {n : Nat}, k.fit n → wt k.dat + 300 ≤ 500 * 2 ^ n
  | .var x, n, h => by
    have w : Wok x := by cases n <;> exact h
    have h2 := shown_word w
    have h3 := shown_var
    have : 1 ≤ 2 ^ n := Nat.one_le_two_pow
    show wt (.tuple [.str "var", .str x]) + 300 ≤ _
    rw [wt_tup, wtL_cons, wtL_cons]
    simp only [wt, wtL]
    omega
  | .con x, n, h => by
    have w : Wok x := by cases n <;> exact h
    have h2 := shown_word w
    have h3 := shown_con
    have : 1 ≤ 2 ^ n := Nat.one_le_two_pow
    show wt (.tuple [.str "con", .str x]) + 300 ≤ _
    rw [wt_tup, wtL_cons, wtL_cons]
    simp only [wt, wtL]
    omega
  | .app a b, n, h => by
    obtain ⟨m, rfl, h1, h2⟩ := Kd.fit_app h
    have i1 := wt_kd h1
    have i2 := wt_kd h2
    have h3 := shown_apply
    show wt (.tuple [.str "apply", a.dat, b.dat]) + 300 ≤ _
    rw [wt_tup, wtL_cons, wtL_cons, wtL_cons, Nat.pow_succ]
    simp only [wtL]
    have e : wt (.str "apply") = 7 + (PyData.str "apply").shown.length := by simp only [wt]
    rw [e]
    omega
end L3

/-! a tuple of anything beside the empty one -/
namespace L3
open PySem PySem.Spec PyProof.Rows L2
open PySem.SeqAt
def rNeNil : R2 := fun x y H Q => ∃ (a b : Addr) (xs : List V), x = .ref a ∧ y = .ref b ∧ H a = some (.tup xs) ∧ H b = some (.tup []) ∧ Q (.bl (!xs.isEmpty)) H
theorem op_neNil {X : Cx} (hu : X.A.units + 64 < cLine) : OpR X (compareOp .NotEq) rNeNil := by
  intro pins s σ H x y v u Q I rx ry h
  obtain ⟨a, b, xs, rfl, rfl, ha, hb, q⟩ := h
  obtain rfl : v = Value.ref a := rx
  obtain rfl : u = Value.ref b := ry
  obtain ⟨its, rv, ⟨o, ho, hc, n, hd⟩, _⟩ := I.tuple (SqT.of ha)
  obtain ⟨its2, rv2, ⟨o2, ho2, hc2, n2, hd2⟩, _⟩ := I.tuple (SqT.of hb)
  cases rv2
  have hl := rv.length
  refine RcNeAt.tuples (e := fun _ => true) ⟨o, ho, hc, n, hd⟩ ⟨o2, ho2, hc2, n2, hd2⟩ (by omega) (fun j h1 h2 => absurd h2 (by simp)) _ _ _ _ ?_
  refine ⟨.bl (!xs.isEmpty), H, I, ?_, q⟩
  cases rv with
  | nil => rfl
  | cons _ _ =>
    show Value.bool _ = Value.bool _
    simp
end L3

/-! values with a change at a drawn place -/
namespace L3
open PySem L2
theorem catA_ok {K : PySem.W.Frag} {H : Hp} {Q : VK} {a b : Addr} {xs ys : List V} (ha : H a = some (.tup xs)) (hb : H b = some (.tup ys)) (hz : xs.length + ys.length ≤ 900000) (k : ∀ H' q, Same H H' → H' q = some (.tup (xs ++ ys)) → Q (.ref q) H') : rCatA K (.ref a) (.ref b) H Q := by
  refine ⟨a, b, xs, ys, rfl, rfl, SqT.of ha, SqT.of hb, Nat.le_of_lt (szl (by omega)), fun e => ?_, fun _ e => ?_, fun _ _ p hp => k _ p (same_new hp) upd_same⟩
  · subst e
    exact k H b (Same.refl H) hb
  · subst e
    exact k H a (Same.refl H) (by rw [List.append_nil]; exact ha)
theorem slA_ok {K : PySem.W.Frag} {H : Hp} {Q : VK} {a : Addr} {xs : List V} {lo hi : Option Int} (ha : H a = some (.tup xs)) (k : ∀ H' q, Same H H' → H' q = some (.tup (cutV xs lo hi)) → Q (.ref q) H') : rSlA K (.ref a) lo hi H Q := by
  refine ⟨a, xs, rfl, SqT.of ha, fun e => k H a (Same.refl H) ?_, fun _ p hp => k _ p (same_new hp) upd_same⟩
  have : cutV xs lo hi = xs := by
    unfold cutV
    rw [e.1, e.2, List.drop_zero, Nat.sub_zero, List.take_length]
  rw [this]
  exact ha
theorem cut_front (l : List V) (x : V) (r : List V) : cutV (l ++ x :: r) none (some (l.length : Int)) = l := by
  unfold cutV
  rw [HT.sIx_none, HT.sIx_nat, List.length_append, List.length_cons, Nat.min_eq_left (by omega), List.drop_zero, Nat.sub_zero, List.take_left']
  rfl
theorem cut_back (l : List V) (x : V) (r : List V) : cutV (l ++ x :: r) (some ((l.length : Int) + 1)) none = r := by
  unfold cutV
  rw [show (l.length : Int) + 1 = ((l.length + 1 : Nat) : Int) by omega, HT.sIx_none, HT.sIx_nat, List.length_append, List.length_cons, Nat.min_eq_left (by omega)]
  have e : (l ++ x :: r).drop (l.length + 1) = r := by
    rw [← List.drop_drop, List.drop_left]
    rfl
  rw [e, List.take_of_length_le (by omega)]
theorem daAll_split {t : Addr} {H : Hp} : ∀ {ds : List PyData} {vs : List V} (i : Nat), i < vs.length → DaAll t H vs ds → ∃ l x r dl dx dr, vs = l ++ x :: r ∧ ds = dl ++ dx :: dr ∧ l.length = i ∧ DaAll t H l dl ∧ Da t H x dx ∧ DaAll t H r dr
  | [], _, i, hi, h => by cases h; cases hi
  | d :: ds, _, 0, hi, h => by
    cases h with
    | @cons v vs _ _ h1 h2 => exact ⟨[], v, vs, [], d, ds, rfl, rfl, rfl, .nil, h1, h2⟩
  | d :: ds, _, i + 1, hi, h => by
    cases h with
    | @cons v vs _ _ h1 h2 =>
      obtain ⟨l, x, r, dl, dx, dr, e1, e2, e3, g1, g2, g3⟩ := daAll_split i (by simpa using hi) h2
      exact ⟨v :: l, x, r, d :: dl, dx, dr, by rw [e1]; rfl, by rw [e2]; rfl, by rw [List.length_cons, e3], .cons h1 g1, g2, g3⟩
theorem depthAll_app : ∀ (a b : List PyData), PyData.depthAll (a ++ b) = max (PyData.depthAll a) (PyData.depthAll b)
  | [], b => by simp [PyData.depthAll]
  | d :: a, b => by simp only [List.cons_append, PyData.depthAll, depthAll_app a b]; omega
theorem okL_show : ∀ {ds : List PyData}, okL ds = true → PyData.showableAll ds = true
  | [], _ => by simp [PyData.showableAll]
  | d :: ds, h => by
    simp only [okL, Bool.and_eq_true] at h
    simp only [PyData.showableAll, okL_show h.2, Bool.and_true]
    cases d with
    | none => simp only [PyData.showable]
    | bool _ => simp only [PyData.showable]
    | str _ => simp only [PyData.showable]
    | int i => have := h.1; simpa only [okD, PyData.showable] using this
    | list es => have := h.1; simpa only [okD, PyData.showable] using this
    | dict es => have := h.1; simpa only [okD, PyData.showable] using this
    | tuple es =>
      have := h.1
      simp only [okD] at this
      simp only [PyData.showable]
      exact okL_show this
theorem okD_show {d : PyData} (h : okD d = true) : d.showable = true := by
  have := okL_show (ds := [d]) (by simp only [okL, h]; rfl)
  simpa only [PyData.showableAll, Bool.and_true] using this
theorem call_listN {X : Cx} : CallR X (.type "list") (fun xs H Q => ∃ p ys, xs = [.ref p] ∧ SqT X.K H p ys ∧ ∀ l, H l = none → l ≠ sysModules → Q (.ref l) (upd H l (.lst ys))) := by
  intro pins s σ H xs us Q I r ⟨p, ys, e, hq, q⟩
  subst e
  obtain ⟨u, rfl, rx⟩ := vals1 r
  cases rx
  obtain ⟨its, rv, pl, hz⟩ := I.tuple hq
  have hn := rv.length
  obtain ⟨o, ho, hc, n, hd⟩ := pl
  refine call_list_seq p (.inr rfl) ho hc hd (fun h' c' kp e => ?_) (by simp only [List.size_toArray] <;> omega)
  exact ⟨.ref _, _, I.laid (t' := s.toks) kp (Nat.le_refl _) (show ObjOk X.prog X.w _ h' _ (.lst ys) from ⟨hz, its, c', rv, e⟩), rfl, q _ (I.hok.fresh (Nat.le_refl _)) (Nat.ne_of_gt I.big)⟩
def bcost (n : Nat) : Nat := 3 * (n + 1)
def ends : List PyData := [.str "let", .str "to", .str "abcdefgh", .str "abcdefghi", .str "Ab", .str "var", .str "con", .str "apply", .tuple [.str "con", .str "end"], .tuple []]
theorem ends_ok : ∀ d ∈ odds ++ ends, okD d = true ∧ d.depth ≤ 3 ∧ wt d ≤ 1000 := by
  have h : ((odds ++ ends).all fun d => okD d && decide (d.depth ≤ 3) && decide (wt d ≤ 1000)) = true := by decide +kernel
  intro d hd
  have := List.all_eq_true.mp h d hd
  simp only [Bool.and_eq_true, decide_eq_true_eq] at this
  exact ⟨this.1.1, this.1.2, this.2⟩
section
variable {P : Program} {w : World} {K : PySem.W.Frag} {mg : Str → Option Value} {base : Heap}
abbrev s__law_bent : Stmt := topS 27
abbrev N__law_bent : List Str := ["_law_tape", "_law_thing", "_law_at", "_law_way"]
theorem sc__law_bent : FnScope N__law_bent ["_law_tape", "_law_thing"] (defScope s__law_bent) := ⟨rfl, rfl, rfl, by decide +kernel, rfl, by decide +kernel, by decide +kernel⟩
def spBent (K : PySem.W.Frag) (n : Nat) : Sp := fun vs H Q _ => ∃ (t c : Addr) (v : V) (d : PyData) (b : Nat), vs = [.ref t, v] ∧ Da t H v d ∧ okD d = true ∧ d.depth ≤ n ∧ wt d ≤ 400000 ∧ Tape K H t c (b + bcost n) ∧
  ∀ (H' : Hp) (v' : V) (d' : PyData), Ext t H H' → Tape K H' t c b → Da t H' v' d' → okD d' = true → d'.depth ≤ d.depth + 3 → wt d' ≤ 2 * wt d + 1000 → Q v' H'
theorem ok_bent {n : Nat} {f : Addr} {fd : FuncData} (F : Fun K "_law_bent" "_law_bent" s__law_bent f fd) (B : Bl mg) (B9 : Bl9 mg) (D__law_draw : Kn P w K mg base 1 "_law_draw" ["_law_tape", "_law_many"] (spDraw K)) (D__law_pick : Kn P w K mg base 2 "_law_pick" ["_law_tape", "_law_items"] (spPick K)) (D__law_odd : Kn P w K mg base 3 "_law_odd" ["_law_tape"] (spOdd K))
    (D__law_bent : Kn P w K mg base (n + 3) "_law_bent" ["_law_tape", "_law_thing"] (spPrev (spBent K) n)) : FnOk P w K mg base CX0 (n + 4) f fd ["_law_tape", "_law_thing"] (spBent K n) := by
  refine F.ok sc__law_bent (fun vs H Q E h => ?_) (fun cdv A outer s H vs Q E hr h => ?_)
  · obtain ⟨t, c, v, d, b, rfl, _⟩ := h
    rfl
  · obtain ⟨t, c, v, d, b, rfl, hd, hok, hdep, hwt, hT, k⟩ := h
    have hr__law_draw : Room 1 _ := hr.mono (by omega)
    have hr__law_pick : Room 2 _ := hr.mono (by omega)
    have hr__law_odd : Room 3 _ := hr.mono (by omega)
    have hr__law_bent : Room (n + 3) _ := hr
    have hu64 := hr.units
    refine ⟨_, (pss_cons (ps_if (PW.pt (pw_and (pt_val (pe_callB call_isi (by rfl) B9.isinstance PyProof.Rows.boot_isinstance (pa_cons (pv 1) (pa_cons (pe_bltn (v := .ty "tuple") (by rfl) B9.tuple (by decide +kernel) rfl) pa_nil)))) (pw_and (pt_cmpR (op_neNil hu64) (pv 1) (pe_tup pa_nil) (nomark _)) (pw_and1 (pt_cmpR op_gt (pe_kn D__law_draw hr__law_draw (pa_cons (pv 0) (pa_cons pe_int pa_nil))) pe_int (nomark _))))))
  (pss_cons (ps_par (i := 2) (j := 3) (by rfl) sc__law_bent.nd rfl rfl (by decide) rfl rfl (pa_cons (pe_kn D__law_draw hr__law_draw (pa_cons (pv 0) (pa_cons (pe_callB call_len (by rfl) B.len PySem.boot_len (pa_cons (pv 1) pa_nil)) pa_nil))) (pa_cons (pe_kn D__law_draw hr__law_draw (pa_cons (pv 0) (pa_cons pe_int pa_nil))) pa_nil)) (by rfl))
  (pss_cons (ps_if (pt_cmpR op_lt (pv 3) pe_int (nomark _))
  (pss_one (ps_ret (pe_op op_catA (pe_op op_catA (pe_slice sl_tupA (pv 1) po_none (po_some (pv 2))) (pe_tup (pa_cons (pe_kn D__law_bent hr__law_bent (pa_cons (pv 0) (pa_cons (pe_ix ix_tup (pv 1) (pv 2) (fun _ _ => rfl)) pa_nil))) pa_nil))) (pe_slice sl_tupA (pv 1) (po_some (pe_op op_add (pv 2) pe_int)) po_none))))
  pss_nil)
  (pss_one (ps_ret (pe_ix ix_list (pe_lst (pa_cons (pe_op op_catA (pe_slice sl_tupA (pv 1) po_none (po_some (pv 2))) (pe_slice sl_tupA (pv 1) (po_some (pe_op op_add (pv 2) pe_int)) po_none)) (pa_cons (pe_op op_catA (pv 1) (pe_tup (pa_cons (pe_ix ix_tup (pv 1) (pv 2) (fun _ _ => rfl)) pa_nil))) (pa_cons (pe_callTy call_listN (by rfl) B.list (by decide +kernel) (pa_cons (pv 1) pa_nil)) pa_nil)))) (pe_op op_sub (pv 3) pe_int) (fun _ _ => rfl))))))
  pss_nil)
  (pss_one (ps_ret (pe_kn D__law_pick hr__law_pick (pa_cons (pv 0) (pa_cons (pe_lst (pa_cons (pe_kn D__law_odd hr__law_odd (pa_cons (pv 0) pa_nil)) (pa_cons pe_str (pa_cons pe_str (pa_cons pe_str (pa_cons pe_str (pa_cons pe_str (pa_cons pe_str (pa_cons pe_str (pa_cons pe_str (pa_cons (pe_tup (pa_cons pe_str (pa_cons pe_str pa_nil))) (pa_cons (pe_tup pa_nil) pa_nil)))))))))))) pa_nil)))))), ?_⟩
    refine ⟨_, rfl, v, .ty "tuple", .type (tyName d), .type "tuple", isTup d, rfl, .ty "tuple", hd.ty, kit_tup d, _, rfl, ?_⟩
    have c3 : bcost n = 3 * n + 3 := by unfold bcost; omega
    have leafB : ∀ H1 : Hp, Ext t H H1 → Tape K H1 t c (b + 2) → tRet (tCall (spPick K) [] E0 (tCons (tVar 0) (tCons (tLst (tCons (tCall (spOdd K) [] E0 (tCons (tVar 0) tNil)) (tCons (tC (.str "let")) (tCons (tC (.str "to")) (tCons (tC (.str "abcdefgh")) (tCons (tC (.str "abcdefghi")) (tCons (tC (.str "Ab")) (tCons (tC (.str "var")) (tCons (tC (.str "con")) (tCons (tC (.str "apply")) (tCons (tTup (tCons (tC (.str "con")) (tCons (tC (.str "end")) tNil))) (tCons (tTup tNil) tNil)))))))))))) tNil))) { nx := fun x H' => Q V.non H', rt := Q } [some (.ref t), some v, none, none] H1 := by
      intro H1 E1 T1
      refine ⟨_, rfl, _, rfl, t, c, b + 1, rfl, T1, fun H2 vo dd E2 T2 da ho => ?_⟩
      refine ⟨slz rfl, fun q hq => ?_⟩
      have s3 := same_new (o := .tup [.str "con", .str "end"]) hq
      have g3 : (upd H2 q (.tup [.str "con", .str "end"])) q = some (.tup [.str "con", .str "end"]) := upd_same
      generalize upd H2 q (.tup [.str "con", .str "end"]) = H3 at s3 g3 ⊢
      refine ⟨slz rfl, fun q2 hq2 => ?_⟩
      have s4 := same_new (o := .tup []) hq2
      have g4 : (upd H3 q2 (.tup [])) q2 = some (.tup []) := upd_same
      generalize upd H3 q2 (.tup []) = H4 at s4 g4 ⊢
      refine ⟨slz rfl, fun l hl => ?_⟩
      have s5 := same_new (o := .lst [vo, .str "let", .str "to", .str "abcdefgh", .str "abcdefghi", .str "Ab", .str "var", .str "con", .str "apply", .ref q, .ref q2]) hl
      have g5 : (upd H4 l (.lst [vo, .str "let", .str "to", .str "abcdefgh", .str "abcdefghi", .str "Ab", .str "var", .str "con", .str "apply", .ref q, .ref q2])) l = some (.lst [vo, .str "let", .str "to", .str "abcdefgh", .str "abcdefghi", .str "Ab", .str "var", .str "con", .str "apply", .ref q, .ref q2]) := upd_same
      generalize upd H4 l (.lst [vo, .str "let", .str "to", .str "abcdefgh", .str "abcdefghi", .str "Ab", .str "var", .str "con", .str "apply", .ref q, .ref q2]) = H5 at s5 g5 ⊢
      have S5 := s3.trans (s4.trans s5)
      have T5 := T2.same S5
      have dl : DaAll t H5 [vo, .str "let", .str "to", .str "abcdefgh", .str "abcdefghi", .str "Ab", .str "var", .str "con", .str "apply", .ref q, .ref q2] (dd :: ends) :=
        .cons (da.kp (kp_same S5)) (.cons (.str _) (.cons (.str _) (.cons (.str _) (.cons (.str _) (.cons (.str _) (.cons (.str _) (.cons (.str _) (.cons (.str _) (.cons (.tup (s5 _ _ (s4 _ _ g3)) (.cons (.str _) (.cons (.str _) .nil))) (.cons (.tup (s5 _ _ g4) .nil) .nil))))))))))
      refine ⟨t, c, l, _, b, rfl, SqL.of g5, Nat.zero_lt_succ _, by show 11 < 1000000; decide, T5, fun H6 v6 E6 T6 hv => ?_⟩
      obtain ⟨d6, hd6, dv⟩ := dl.mem hv
      obtain ⟨o1, o2, o3⟩ := ends_ok d6 (by
        rcases List.mem_cons.mp hd6 with e | e
        · exact List.mem_append.mpr (.inl (by rw [e]; exact ho))
        · exact List.mem_append.mpr (.inr e))
      exact k H6 v6 d6 (E1.trans (E2.trans ((same_ext S5).trans E6))) T6 (dv.kp (kp_ext E6 T5)) o1 (by omega) (by omega)
    cases ht : isTup d with
    | false => exact iF rfl (iF rfl (leafB H (Ext.refl _ _) (hT.less (by omega))))
    | true =>
      obtain ⟨es, rfl⟩ : ∃ es, d = .tuple es := by
        cases d with
        | tuple es => exact ⟨es, rfl⟩
        | _ => cases ht
      cases id hd with
      | @tup a xs _ ga da =>
        have le := da.len
        refine iT rfl ?_
        refine ⟨_, rfl, slz rfl, fun q hq => ?_⟩
        have s1 := same_new (o := .tup []) hq
        have g1 : (upd H q (.tup [])) q = some (.tup []) := upd_same
        generalize upd H q (.tup []) = H1 at s1 g1 ⊢
        have T1 := hT.same s1
        refine ⟨a, q, xs, rfl, rfl, s1 _ _ ga, g1, _, rfl, ?_⟩
        cases hx : xs.isEmpty with
        | true => exact iF rfl (iF rfl (leafB H1 (same_ext s1) (T1.less (by omega))))
        | false =>
          refine iT rfl ?_
          refine ⟨_, rfl, t, c, 4, b + (3 * n + 2), rfl, by decide, by decide, T1.less (by omega), fun H2 r2 E2 T2 r21 r22 => ?_⟩
          refine ⟨_, _, rfl, rfl, _, rfl, ?_⟩
          have EE2 := (same_ext s1).trans E2
          by_cases hr : 0 < r2
          · refine iT (decide_eq_true hr) ?_
            have lx : 1 ≤ xs.length := by
              cases xs with
              | nil => cases hx
              | cons _ _ => simp
            have lw : xs.length ≤ 400000 := by
              have h1 := wtL_len es
              rw [wt_tup] at hwt
              omega
            refine ⟨_, rfl, _, rfl, .ref a, xs.length, rfl, .inr ⟨xs, SqT.of (Ext.tups E2 T1 _ _ (s1 _ _ ga)), rfl⟩, t, c, (xs.length : Int), b + (3 * n + 1), rfl, by omega, by omega, T2.less (by omega), fun H3 at' E3 T3 a1 a2 => ?_⟩
            refine ⟨_, rfl, t, c, 8, b + 3 * n, rfl, by decide, by decide, T3.less (by omega), fun H4 way E4 T4 w1 w2 => ?_⟩
            refine ⟨_, _, rfl, ?_⟩
            have EE4 := EE2.trans (E3.trans E4)
            have ga4 := Ext.tups EE4 hT _ _ ga
            obtain ⟨l, x, r, dl, dx, dr, rfl, rfl, e3, q1, q2, q3⟩ := daAll_split at'.toNat (by omega) da
            obtain rfl : at' = (l.length : Int) := by omega
            have kp4 : Kp t H H4 := kp_ext EE4 hT
            rw [okD, okL_app] at hok
            simp only [okL, Bool.and_eq_true] at hok
            obtain ⟨ok1, ok2, ok3⟩ := hok
            simp only [PyData.depth, depthAll_app, PyData.depthAll] at hdep k
            rw [wt_tup, wtL_app, wtL_cons] at hwt
            rw [wt_tup, wtL_app, wtL_cons] at k
            have wlow := wt_low dx
            obtain ⟨n', rfl⟩ : ∃ n', n = n' + 1 := ⟨n - 1, by omega⟩
            refine ⟨_, rfl, _, _, rfl, rfl, _, rfl, ?_⟩
            have atx : atI (l ++ x :: r) (l.length : Int) = some x := at_ofG rfl (by simp)
            by_cases hw : way < 5
            · refine iT (decide_eq_true hw) ?_
              refine ⟨_, rfl, _, rfl, _, rfl, slA_ok ga4 fun H5 p5 s5 g5 => ?_⟩
              rw [cut_front] at g5
              have T5 := T4.same s5
              have ga5 := s5 _ _ ga4
              refine ⟨_, rfl, _, rfl, _, rfl, _, _, _, _, rfl, rfl, SqT.of ga5, atx, t, c, x, dx, b, rfl, (q2.kp kp4).kp (kp_same s5), ok2, by omega, by omega, T5.less (by unfold bcost; omega), fun H6 v6 d6 E6 T6 da6 ok6 dep6 wt6 => ?_⟩
              refine ⟨slz rfl, fun q7 hq7 => ?_⟩
              have s7 := same_new (o := .tup [v6]) hq7
              have g7 : (upd H6 q7 (.tup [v6])) q7 = some (.tup [v6]) := upd_same
              generalize upd H6 q7 (.tup [v6]) = H7 at s7 g7 ⊢
              have g5' := s7 _ _ (Ext.tups E6 T5 _ _ g5)
              have ga7 := s7 _ _ (Ext.tups E6 T5 _ _ ga5)
              have ll : l.length + r.length ≤ 399999 := by
                rw [List.length_append, List.length_cons] at lw
                omega
              refine catA_ok g5' g7 (by show _ + 1 ≤ _; omega) fun H8 p8 s8 g8 => ?_
              refine ⟨_, rfl, _, rfl, _, _, rfl, rfl, _, rfl, ?_⟩
              unfold tNoPart
              refine slA_ok (s8 _ _ ga7) fun H9 p9 s9 g9 => ?_
              rw [cut_back] at g9
              refine catA_ok (s9 _ _ g8) g9 (by rw [List.length_append]; show _ + 1 + _ ≤ _; omega) fun H10 p10 s10 g10 => ?_
              have S10 := s7.trans (s8.trans (s9.trans s10))
              have EE10 := EE4.trans ((same_ext s5).trans (E6.trans (same_ext S10)))
              have kp10 : Kp t H H10 := kp_ext EE10 hT
              refine k H10 _ (.tuple (dl ++ [d6] ++ dr)) EE10 (T6.same S10) (.tup g10 (((q1.kp kp10).app (.cons (da6.kp (kp_same S10)) .nil)).app (q3.kp kp10))) ?_ ?_ ?_
              · simp only [okD, okL_app, okL, ok1, ok6, ok3]
                rfl
              · simp only [PyData.depth, depthAll_app, PyData.depthAll]
                omega
              · rw [wt_tup, wtL_app, wtL_app, wtL_cons]
                simp only [wtL]
                omega
            · refine iF (decide_eq_false hw) ?_
              have ll : l.length + r.length ≤ 399999 := by
                rw [List.length_append, List.length_cons] at lw
                omega
              refine ⟨_, rfl, _, rfl, _, rfl, slA_ok ga4 fun H5 p5 s5 g5 => ?_⟩
              rw [cut_front] at g5
              refine ⟨_, rfl, _, rfl, _, _, rfl, rfl, _, rfl, ?_⟩
              unfold tNoPart
              refine slA_ok (s5 _ _ ga4) fun H6 p6 s6 g6 => ?_
              rw [cut_back] at g6
              refine catA_ok (s6 _ _ g5) g6 (by omega) fun H7 p7 s7 g7 => ?_
              have ga7 := s7 _ _ (s6 _ _ (s5 _ _ ga4))
              refine ⟨_, rfl, _, rfl, _, rfl, _, _, _, x, rfl, rfl, SqT.of ga7, atx, slz rfl, fun q8 hq8 => ?_⟩
              have s8 := same_new (o := .tup [x]) hq8
              have g8 : (upd H7 q8 (.tup [x])) q8 = some (.tup [x]) := upd_same
              generalize upd H7 q8 (.tup [x]) = H8 at s8 g8 ⊢
              refine catA_ok (s8 _ _ ga7) g8 (by rw [List.length_append, List.length_cons]; show _ + 1 ≤ _; omega) fun H9 p9 s9 g9 => ?_
              have ga9 := s9 _ _ (s8 _ _ ga7)
              refine ⟨_, rfl, a, _, rfl, SqT.of ga9, fun l10 nl10 ns => ?_⟩
              have s10 := same_new (o := .lst (l ++ x :: r)) nl10
              have g10 : (upd H9 l10 (.lst (l ++ x :: r))) l10 = some (.lst (l ++ x :: r)) := upd_same
              generalize upd H9 l10 (.lst (l ++ x :: r)) = H10 at s10 g10 ⊢
              refine ⟨slz rfl, fun q11 hq11 => ?_⟩
              have s11 := same_new (o := .lst [.ref p7, .ref p9, .ref l10]) hq11
              have g11 : (upd H10 q11 (.lst [.ref p7, .ref p9, .ref l10])) q11 = some (.lst [.ref p7, .ref p9, .ref l10]) := upd_same
              generalize upd H10 q11 (.lst [.ref p7, .ref p9, .ref l10]) = H11 at s11 g11 ⊢
              have S8 := s8.trans (s9.trans (s10.trans s11))
              have S11 := s5.trans (s6.trans (s7.trans S8))
              have EE11 := EE4.trans (same_ext S11)
              have T11 := (T4.same S11).less (show b ≤ _ by omega)
              have kp11 : Kp t H H11 := kp_ext EE11 hT
              have da11 : DaAll t H11 (l ++ x :: r) (dl ++ dx :: dr) := (q1.kp kp11).app (.cons (q2.kp kp11) (q3.kp kp11))
              rcases (by omega : way = 5 ∨ way = 6 ∨ way = 7) with rfl | rfl | rfl
              · refine ⟨_, rfl, _, _, rfl, rfl, q11, _, _, _, rfl, rfl, SqL.of g11, at_ofG (j := 0) rfl rfl, k H11 _ (.tuple (dl ++ dr)) EE11 T11 (.tup (S8 _ _ g7) ((q1.kp kp11).app (q3.kp kp11))) ?_ ?_ ?_⟩
                · simp only [okD, okL_app, okL, ok1, ok3]
                  rfl
                · simp only [PyData.depth, depthAll_app, PyData.depthAll]
                  omega
                · rw [wt_tup, wtL_app]
                  omega
              · refine ⟨_, rfl, _, _, rfl, rfl, q11, _, _, _, rfl, rfl, SqL.of g11, at_ofG (j := 1) rfl rfl, k H11 _ (.tuple ((dl ++ dx :: dr) ++ [dx])) EE11 T11 (.tup (s11 _ _ (s10 _ _ g9)) (da11.app (.cons (q2.kp kp11) .nil))) ?_ ?_ ?_⟩
                · simp only [okD, okL_app, okL, ok1, ok2, ok3]
                  rfl
                · simp only [PyData.depth, depthAll_app, PyData.depthAll]
                  omega
                · rw [wt_tup, wtL_app, wtL_app, wtL_cons, wtL_cons]
                  simp only [wtL]
                  omega
              · refine ⟨_, rfl, _, _, rfl, rfl, q11, _, _, _, rfl, rfl, SqL.of g11, at_ofG (j := 2) rfl rfl, k H11 _ (.list (dl ++ dx :: dr)) EE11 T11 (.lst (s11 _ _ g10) ns da11) ?_ ?_ ?_⟩
                · simp only [okD]
                  exact okL_show (by simp only [okL_app, okL, ok1, ok2, ok3]; rfl)
                · simp only [PyData.depth, depthAll_app, PyData.depthAll]
                  omega
                · rw [wt_lst, wtL_app, wtL_cons]
                  omega
          · exact iF (decide_eq_false hr) (leafB H2 EE2 (T2.less (by omega)))
theorem bent_all {f : Addr} {fd : FuncData} (F : Fun K "_law_bent" "_law_bent" s__law_bent f fd) (hm : mg "_law_bent" = some (.ref f)) (B : Bl mg) (B9 : Bl9 mg) (D__law_draw : Kn P w K mg base 1 "_law_draw" ["_law_tape", "_law_many"] (spDraw K)) (D__law_pick : Kn P w K mg base 2 "_law_pick" ["_law_tape", "_law_items"] (spPick K)) (D__law_odd : Kn P w K mg base 3 "_law_odd" ["_law_tape"] (spOdd K)) : ∀ n, FnOk P w K mg base CX0 (n + 4) f fd ["_law_tape", "_law_thing"] (spBent K n)
  | 0 => ok_bent F B B9 D__law_draw D__law_pick D__law_odd ⟨f, fd, fn_falseN, hm, F.kp, F.binds fun _ _ _ _ _ _ us hl => match us, hl with | [_, _], _ => rfl⟩
  | n + 1 => ok_bent F B B9 D__law_draw D__law_pick D__law_odd ⟨f, fd, bent_all F hm B B9 D__law_draw D__law_pick D__law_odd n, hm, F.kp, F.binds fun _ _ _ _ _ _ us hl => match us, hl with | [_, _], _ => rfl⟩
end
end L3

/-! repr of a value of any kind, at the law's own level -/
namespace L3
open PySem PySem.Spec PyProof.Rows L2
section
variable {X : Cx}
def rReprV (t : Addr) : List V → Hp → VK → Prop := fun xs H Q => ∃ (v : V) (d : PyData), xs = [v] ∧ Da t H v d ∧ d.showable = true ∧ d.depth ≤ 60 ∧ d.shown.length ≤ sizeLine ∧ (∀ i, d = .int i → i.natAbs.log2 < 1920) ∧ Q (.str d.shown) H
theorem call_reprV (t : Addr) (hg : X.A.guards = some []) (hu : X.A.units + 64 < cLine) : CallR X (.builtin "repr") (rReprV t) := by
  intro pins s σ H xs us Q I r h
  obtain ⟨v, d, rfl, hd, hs, hdep, hsz, hi, q⟩ := h
  obtain ⟨u, rfl, rx⟩ := vals1 r
  have any : ∀ E a, v = .ref a → wpAny (model X.prog X.w) X.A (call (.builtin "repr") [u]) (EP X pins σ Q) E s := fun E a e => by
    subst e
    obtain rfl : u = Value.ref a := rx
    obtain ⟨as, hr, n⟩ := Da.reads I d _ _ hd (show RelV (.ref a) (.ref a) from rfl)
    exact repr_of_reads' hr hs (fun _ => n) hg (by omega) (fun _ _ e => e) (fun h' u tk hk => ⟨.str d.shown, H, I.kept (t' := tk) hk, ⟨u, rfl⟩, q⟩) hsz
  cases d with
  | none =>
    cases hd
    cases (show u = Value.none from rx)
    exact PySem.P.repr_of_none ⟨.str _, H, I.tok _, ⟨_, rfl⟩, q⟩
  | bool b =>
    cases hd
    cases (show u = Value.bool b from rx)
    exact PySem.P.repr_of_bool ⟨.str _, H, I.tok _, ⟨_, rfl⟩, q⟩
  | int i =>
    cases hd
    obtain ⟨k, rfl⟩ := (show ∃ k, u = Value.int i k from rx)
    exact PySem.P.repr_of_int (hi i rfl) ⟨.str _, H, I.tok _, ⟨_, rfl⟩, q⟩
  | str x =>
    cases hd
    obtain ⟨k, rfl⟩ := (show ∃ k, u = Value.str x k from rx)
    exact PySem.P.repr_of_str ⟨.str _, H, I.tok _, ⟨_, rfl⟩, q⟩ hsz
  | list ds => cases id hd with | lst => exact any _ _ rfl
  | tuple ds => cases id hd with | tup => exact any _ _ rfl
  | dict ds => cases id hd with | dct => exact any _ _ rfl
end
end L3

/-! a known function called by keywords alone -/
namespace L3
open PySem L2
structure KnK (P : Program) (w : World) (K : PySem.W.Frag) (mg : Str → Option Value) (base : Heap) (k : Nat) (x : Str) (ps : List Str) (sp : Sp) : Prop where
  ex : ∃ (f : Addr) (fd : FuncData), FnOk P w K mg base CX0 k f fd ps sp ∧ mg x = some (.ref f) ∧ PySem.W.keepIn K (.ref f) = true ∧ KBinds K fd ps ps (fun us ws => us ++ ws) (fun vs zs => vs ++ zs)
section
variable {X : Cx} {x : Str} {k : Nat} {ps : List Str} {sp : Sp} {kws : List Keyword} {tk : TA} {p pos : Pos}
theorem pe_knK (D : KnK X.prog X.w X.K X.mg X.base k x ps sp) (hr : Room k X.A) (hkw : PK X kws tk) (hg : Gl X x := by rfl) (hdb : (x == ("__debug__" : Str)) = false := by decide)
    (hall : (backToKw pos (keywordEach kws X.env)).all (·.1.isSome) = true := by rfl) (hks : (backToKw pos (keywordEach kws X.env)).filterMap (·.1) = ps := by rfl)
    (hpl : ((backTo pos (starEach [] X.env)).any (·.1) || (backToKw pos (keywordEach kws X.env)).any (·.1.isNone)) = false := by rfl) :
    PE X (.Call (.Name x p) [] kws pos) (fun σ H Q => tk σ H fun zs H2 => sp zs H2 Q E0) := by
  obtain ⟨f, fd, F, hm, hk, hb⟩ := D.ex
  refine ⟨fun pins s σ H Q I h => wpAny_Call_Name_kw (ld_glob I hg hm ?_ hdb)⟩
  refine PySem.W.callWith_KW0 (h₀ := X.base) I.ok.mod.kin hk hall (thn (hkw.run pos pins s σ H _ I h) fun ws s2 ⟨zs, H2, I2, rz, q2⟩ => ⟨I2.kIn, ?_⟩) hpl
  rw [hks]
  exact run_fnk (us := []) (vs := []) F hr hb pass0 I2 .nil rz q2
/-- a function of one parameter -/
theorem kbinds1 {K : PySem.W.Frag} {fd : FuncData} {x : Str} (h : ∀ (s : Shared) (v : Value), BindsTo s fd ⟨[v], []⟩ [(x, v)]) (h2 : ∀ (s : Shared) (v : Value), BindsTo s fd ⟨[], [(x, v)]⟩ [(x, v)]) : KBinds K fd [x] [x] (fun us ws => us ++ ws) (fun vs zs => vs ++ zs) where
  to := fun s us ws _ hl => by
    match us, ws, hl with
    | [], [w], _ => exact h2 s w
    | [u], [], _ => exact h s u
  rel := fun r rz => by
    induction r with
    | nil => exact rz
    | cons a b ih => exact .cons a ih
end
end L3

/-! the law -/
namespace L3
open PySem L2
theorem mem_abc : ∀ c ∈ ("abcdefghijklmnopqrstuvwxyz" : Str).cps.toList, 97 ≤ c ∧ c ≤ 122 := by decide +kernel
theorem nok_of {x : Str} (h : isNameD (.str x) = true) : Nok x := by
  refine ⟨?_, h⟩
  have h1 : (wok x && !decide (x ∈ barL)) = true := h
  have h2 := (Bool.and_eq_true_iff.mp h1).1
  rw [wok_abc] at h2
  simp only [Bool.and_eq_true, decide_eq_true_eq, List.all_eq_true] at h2
  exact ⟨h2.1.1, h2.1.2, fun c hc => mem_abc c (h2.2 c hc)⟩
theorem rest_names : ∀ r ∈ rests, ∀ j ∈ List.range 26, ∀ d : Bool, isNameD (.str (mkW r d (sgn j))) = true := by decide +kernel
theorem words_nok {rest : Str} {first n : Nat} {d : Bool} (h : rest ∈ rests) : ∀ x ∈ (lets first n).map (mkW rest d), Nok x := by
  intro x hx
  obtain ⟨ch, hc, rfl⟩ := List.mem_map.mp hx
  unfold lets at hc
  obtain ⟨j, _, rfl⟩ := List.mem_map.mp hc
  exact nok_of (rest_names rest h _ (List.mem_range.mpr (Nat.mod_lt _ (by decide))) d)
theorem call_reprW {X : Cx} (hg : X.A.guards = some []) (hu : X.A.units + 64 < cLine) : CallR X (.builtin "repr") (fun xs H Q => ∃ t, rReprV t xs H Q) :=
  fun pins s σ H xs us Q I r ⟨t, h⟩ => call_reprV t hg hu pins s σ H xs us Q I r h
theorem KdAt.da {t : Addr} {H : Hp} : ∀ {k : Kd} {v : V}, KdAt H v k → Da t H v k.dat
  | .var x, _, ⟨a, e, q⟩ => by subst e; exact .tup q (.cons (.str _) (.cons (.str _) .nil))
  | .con x, _, ⟨a, e, q⟩ => by subst e; exact .tup q (.cons (.str _) (.cons (.str _) .nil))
  | .app _ _, _, ⟨a, u, z, e, q, h1, h2⟩ => by subst e; exact .tup q (.cons (.str _) (.cons h1.da (.cons h2.da .nil)))
mutual
theorem psz_wt : ∀ (d : PyData), psz d ≤ wt d
  | .tuple ds => by
    have := pszL_wt ds
    simp only [psz, wt]
    omega
  | .list ds => by simp only [psz, wt]; omega
  | .none => by simp only [psz, wt]; omega
  | .bool _ => by simp only [psz, wt]; omega
  | .int _ => by simp only [psz, wt]; omega
  | .str _ => by simp only [psz, wt]; omega
  | .dict _ => by simp only [psz, wt]; omega
theorem pszL_wt : ∀ (ds : List PyData), pszL ds ≤ wtL ds
  | [] => Nat.le_refl _
  | d :: ds => by
    have h1 := psz_wt d
    have h2 := pszL_wt ds
    simp only [pszL, wtL]
    omega
end
theorem wt_kd8 {k : Kd} (h : k.fit 8) : wt k.dat ≤ 127700 := by
  have := wt_kd h
  omega
theorem depth_kd8 {k : Kd} (h : k.fit 8) : k.dat.depth ≤ 9 := (Kd.lay h).2
def twoW : List Str := ["to", "whole"]
section
variable {P : Program} {w : World} {K : PySem.W.Frag} {mg : Str → Option Value} {base : Heap}
abbrev s_law : Stmt := topS 28
abbrev N_law : List Str := ["_law_script", "_law_tape", "_law_turn", "_law_names", "_law_words_here", "_law_some", "_law_kind", "_law_thing", "_law_kept", "_law_k"]
theorem sc_law : FnScope N_law ["_law_script"] (defScope s_law) := ⟨rfl, rfl, rfl, by decide +kernel, rfl, by decide +kernel, by decide +kernel⟩
def spLaw (K : PySem.W.Frag) : List V → Hp → VK → Prop := fun vs H Q => ∃ (a : Addr) (ns : List Int), vs = [.ref a] ∧ SqL K H a (ns.map V.int) ∧ ∀ H', Q (.bl true) H'
theorem law_run {f : Addr} {fd : FuncData} (F : Fun K "law" "law" s_law f fd) (B : Bl mg) (D__law_begin : Kn P w K mg base 1 "_law_begin" ["_law_script"] (spBegin K)) (D__law_draw : Kn P w K mg base 1 "_law_draw" ["_law_tape", "_law_many"] (spDraw K))
    (D__law_words : Kn P w K mg base 3 "_law_words" ["_law_tape", "_law_many"] (spWords K)) (D__law_wide_kind : Kn P w K mg base 7 "_law_wide_kind" ["_law_tape", "_law_names", "_law_words_here", "_law_deep"] (spWKs K)) (D_is_kind : Kn P w K mg base 4 "is_kind" ["value"] spKind) (DK_is_kind : KnK P w K mg base 4 "is_kind" ["value"] spKind)
    (D_text_of : Kn P w K mg base 19 "text_of" ["kind"] (spTxt 8)) (D__law_pieces : Kn P w K mg base 11 "_law_pieces" ["_law_kind"] (spPcs 8)) (D__law_bent : Kn P w K mg base 20 "_law_bent" ["_law_tape", "_law_thing"] (spBent K 16)) (D__law_odd : Kn P w K mg base 3 "_law_odd" ["_law_tape"] (spOdd K)) (D__law_is_right_kind : Kn P w K mg base 22 "_law_is_right_kind" ["_law_thing"] (spRK 20)) :
    LawRun P w K mg base f fd "_law_script" (spLaw K) := by
  refine lawRun_of F sc_law (k := 28) ⟨rfl, by decide, by decide⟩ (fun cdv s H v Q hr h => ?_)
  obtain ⟨a, ns, h, hS, k⟩ := h
  cases h
  have hgd : (callerA.deeper (PyProof.Rows.envOfC "law" (defScope s_law) s.heap.objs.size f cdv)).guards = some [] := rfl
  have hr__law_begin : Room 1 _ := hr.mono (by decide)
  have hr__law_draw : Room 1 _ := hr.mono (by decide)
  have hr__law_words : Room 3 _ := hr.mono (by decide)
  have hr__law_wide_kind : Room 7 _ := hr.mono (by decide)
  have hr_is_kind : Room 4 _ := hr.mono (by decide)
  have hr_text_of : Room 19 _ := hr.mono (by decide)
  have hr__law_pieces : Room 11 _ := hr.mono (by decide)
  have hr__law_bent : Room 20 _ := hr.mono (by decide)
  have hr__law_odd : Room 3 _ := hr.mono (by decide)
  have hr__law_is_right_kind : Room 22 _ := hr.mono (by decide)
  have hu64 := hr.units
  refine ⟨_, (pss_cons (ps_set (i := 1) sc_law.nd rfl (Or.inr rfl) (pe_kn D__law_begin hr__law_begin (pa_cons (pv 0) pa_nil)))
  (pss_cons (ps_for PassesOwn.never rfl (pi_range1 (by rfl) B.range (pa_cons pe_int pa_nil)) (pg_name (i := 2) sc_law.nd rfl (Or.inl rfl))
  (pss_cons (ps_asg (pe_tup (pa_cons (pe_kn D__law_words hr__law_words (pa_cons (pv 1) (pa_cons pe_int pa_nil))) (pa_cons (pe_op op_cat (pe_kn D__law_words hr__law_words (pa_cons (pv 1) (pa_cons pe_int pa_nil))) (pe_lst (pa_cons pe_str (pa_cons pe_str pa_nil)))) pa_nil))) (pg_tup (by rfl) (pgs_cons (pg_name (i := 3) sc_law.nd rfl (Or.inr rfl)) (pgs_cons (pg_name (i := 4) sc_law.nd rfl (Or.inr rfl)) pgs_nil))))
  (pss_cons (ps_setLc (i := 5) (own := [("_law_k", 9)]) rfl sc_law.nd rfl rfl (sw_true rfl rfl rfl (by decide +kernel)) (pi_range1 (by rfl) B.range (pa_cons pe_int pa_nil)) (blkOk_by (N := N_law) (sc := (defScope s_law)) (own := [("_law_k", 9)]) (by decide +kernel)) (fun _ _ _ _ _ => (pg_name (i := 9) sc_law.nd rfl (Or.inl rfl))) (fun _ _ _ _ _ => pts_nil) (fun _ _ _ _ _ => (pe_kn D__law_wide_kind hr__law_wide_kind (pa_cons (pv 1) (pa_cons (pv 3) (pa_cons (pv 4) (pa_cons (pe_op op_add pe_int (pe_kn D__law_draw hr__law_draw (pa_cons (pv 1) (pa_cons pe_int pa_nil)))) pa_nil)))))))
  (pss_cons (ps_for PassesOwn.never rfl (pi_list (pv 5)) (pg_name (i := 6) sc_law.nd rfl (Or.inl rfl))
  (pss_one (ps_if (PW.pt (pw_or (pt_cmpR op_isnot_bl (pe_kn D_is_kind hr_is_kind (pa_cons (pv 6) pa_nil)) pe_bl (nomark _)) (pw_or1 (pt_cmpR op_ne (pe_kn D_text_of hr_text_of (pa_cons (pv 6) pa_nil)) (pe_join pe_str (pe_kn D__law_pieces hr__law_pieces (pa_cons (pv 6) pa_nil))) (nomark _)))))
  (pss_one (ps_ret pe_bl))
  pss_nil)))
  (pss_cons (ps_if (pt_cmpR op_ne (pe_cmpR op_eq (pe_kn D_text_of hr_text_of (pa_cons (pe_ix ix_list (pv 5) pe_int (fun _ _ => rfl)) pa_nil)) (pe_kn D_text_of hr_text_of (pa_cons (pe_ix ix_list (pv 5) pe_int (fun _ _ => rfl)) pa_nil)) (nomark _)) (pe_cmpR (op_eqD hu64) (pe_ix ix_list (pv 5) pe_int (fun _ _ => rfl)) (pe_ix ix_list (pv 5) pe_int (fun _ _ => rfl)) (nomark _)) (nomark _))
  (pss_one (ps_ret pe_bl))
  pss_nil)
  (pss_one (ps_for PassesOwn.never rfl (pi_list (pe_lst (pa_cons (pe_kn D__law_bent hr__law_bent (pa_cons (pv 1) (pa_cons (pe_ix ix_list (pv 5) pe_int (fun _ _ => rfl)) pa_nil))) (pa_cons (pe_kn D__law_bent hr__law_bent (pa_cons (pv 1) (pa_cons (pe_kn D__law_bent hr__law_bent (pa_cons (pv 1) (pa_cons (pe_ix ix_list (pv 5) pe_int (fun _ _ => rfl)) pa_nil))) pa_nil))) (pa_cons (pe_kn D__law_odd hr__law_odd (pa_cons (pv 1) pa_nil)) pa_nil))))) (pg_name (i := 7) sc_law.nd rfl (Or.inl rfl))
  (pss_cons (ps_set (i := 8) sc_law.nd rfl (Or.inl rfl) (pe_callB (call_reprW hgd hu64) (by rfl) B.repr (by decide +kernel) (pa_cons (pv 7) pa_nil)))
  (pss_one (ps_if (PW.pt (pw_or (pt_cmpR op_ne (pe_callB (call_reprW hgd hu64) (by rfl) B.repr (by decide +kernel) (pa_cons (pe_knK DK_is_kind hr_is_kind (pk_cons (pv 7) pk_nil)) pa_nil)) (pe_callB (call_reprW hgd hu64) (by rfl) B.repr (by decide +kernel) (pa_cons (pe_kn D__law_is_right_kind hr__law_is_right_kind (pa_cons (pv 7) pa_nil)) pa_nil)) (nomark _)) (pw_or1 (pt_cmpR op_ne (pe_callB (call_reprW hgd hu64) (by rfl) B.repr (by decide +kernel) (pa_cons (pv 7) pa_nil)) (pv 8) (nomark _)))))
  (pss_one (ps_ret pe_bl))
  pss_nil))))))))))
  (pss_one (ps_ret pe_bl)))), ?_⟩
  refine ⟨_, rfl, a, ns, rfl, hS, fun H1 t c s1 nt T1 => ?_⟩
  refine ⟨10, rfl, by decide, by decide, ?_⟩
  refine for_range (lo := 0) (n := 10) (fun i σ H' => ∃ (v2 v3 v4 v5 v6 v7 v8 : Option V), σ = [some (.ref a), some (.ref t), v2, v3, v4, v5, v6, v7, v8, none] ∧ Tape K H' t c ((10 - i) * 600)) ⟨_, _, _, _, _, _, _, rfl, T1.less (by decide)⟩ (fun i σ H2 hi h => ?_) (fun σ H2 h => ?_)
  · obtain ⟨v2, v3, v4, v5, v6, v7, v8, rfl, T2⟩ := h
    obtain ⟨m, hm⟩ : ∃ m, m = (10 - (i + 1)) * 600 := ⟨_, rfl⟩
    rw [← hm]
    replace T2 : Tape K H2 t c (m + 600) := T2.less (by omega)
    refine ⟨_, rfl, t, c, 3, m + 597, rfl, by decide, T2, fun H3 lw r1 f1 d1 e3 T3 hlw hr1 hf1 gw => ?_⟩
    refine ⟨_, rfl, t, c, 3, m + 594, rfl, by decide, T3, fun H4 ln r2 f2 d2 e4 T4 hln hr2 hf2 gn => ?_⟩
    have W1 : SqL K H4 lw (((lets f1 3).map (mkW r1 d1)).map V.str) := SqL.of (e4 _ _ (T2.ne hlw) gw)
    have wo1 := words_nok (first := f1) (n := 3) (d := d1) hr1
    have wo2 := words_nok (first := f2) (n := 3) (d := d2) hr2
    have len1 : ((lets f1 3).map (mkW r1 d1)).length = 3 := by rw [List.length_map, lets_length]
    have len2 : ((lets f2 3).map (mkW r2 d2)).length = 3 := by rw [List.length_map, lets_length]
    generalize (lets f1 3).map (mkW r1 d1) = ws at W1 wo1 len1
    generalize (lets f2 3).map (mkW r2 d2) = cs at gn wo2 len2
    clear gw e3 e4 T2 T3 hlw hln hr1 hr2 hf1 hf2 f1 f2 d1 d2 r1 r2 H3 s1 nt T1
    refine ⟨slz rfl, fun q hq => ?_⟩
    have s5 := same_new (o := .lst [.str "to", .str "whole"]) hq
    have g5 : (upd H4 q (.lst [.str "to", .str "whole"])) q = some (.lst [.str "to", .str "whole"]) := upd_same
    generalize upd H4 q (.lst [.str "to", .str "whole"]) = H5 at s5 g5 ⊢
    refine ⟨ln, q, _, _, rfl, rfl, s5 _ _ gn, g5, by rw [List.length_map, len2]; exact slz rfl, fun lc hlc => ?_⟩
    have s6 := s5.trans (same_new (o := .lst (cs.map V.str ++ [.str "to", .str "whole"])) hlc)
    have g6 : (upd H5 lc (.lst (cs.map V.str ++ [.str "to", .str "whole"]))) lc = some (.lst ((cs ++ twoW).map V.str)) := by
      rw [upd_same, List.map_append]
      rfl
    generalize upd H5 lc (.lst (cs.map V.str ++ [.str "to", .str "whole"])) = H6 at s6 g6 ⊢
    have wo6 : ∀ x ∈ cs ++ twoW, Nok x := fun x hx => by
      rcases List.mem_append.mp hx with hx | hx
      · exact wo2 x hx
      · rcases List.mem_cons.mp hx with e | hx
        · rw [e]; exact nok_of (by decide +kernel)
        · rw [List.mem_singleton.mp hx]; exact nok_of (by decide +kernel)
    have len6 : (cs ++ twoW).length = 5 := by rw [List.length_append, len2]; rfl
    generalize cs ++ twoW = cs6 at g6 wo6 len6
    refine ⟨slz rfl, fun z hz => ?_⟩
    have s7 := s6.trans (same_new (o := .tup [.ref lw, .ref lc]) hz)
    have g7 : (upd H6 z (.tup [.ref lw, .ref lc])) z = some (.tup [.ref lw, .ref lc]) := upd_same
    have gc7 := same_new (o := .tup [.ref lw, .ref lc]) hz _ _ g6
    generalize upd H6 z (.tup [.ref lw, .ref lc]) = H7 at s7 g7 gc7 ⊢
    have W7 := s7.seq W1
    have T7 := T4.same s7
    refine ⟨z, _, rfl, SqT.of g7, rfl, _, _, rfl, _, _, rfl, rfl, ?_⟩
    clear g7 s5 s6 g5 g6 hq hlc hz gn W1 T4 s7
    refine ⟨3, rfl, by decide, by decide, fun D hD => ?_⟩
    refine lc_range (lo := 0) (n := 3) (fun i H' => Ext t H7 H' ∧ Tape K H' t c (m + 200 + (3 - i) * 94) ∧ ∃ (vs : List V) (ks : List Kd), H' D = some (.lst vs) ∧ KdsAt H' vs ks ∧ vs.length = i ∧ ∀ k ∈ ks, k.fit 8 ∧ k.nm)
      ⟨Ext.new hD, (T7.new hD).less (by omega), [], [], upd_same, .nil, rfl, fun _ q => nomatch q⟩ (fun j H' hj ⟨e1, t1, vs, ks, g1, g2, g3, g4⟩ => ⟨rfl, ?_⟩) (fun H8 ⟨e1, t1, vs, ks, g1, g2, g3, g4⟩ => ?_)
    · have em : (3 - j) * 94 = (3 - (j + 1)) * 94 + 94 := by omega
      refine ⟨_, rfl, _, rfl, _, rfl, _, rfl, t, c, 4, m + 200 + (3 - (j + 1)) * 94 + 93, rfl, by decide, by decide, t1.less (by omega), fun H9 r9 e9 t9 r91 r92 => ?_⟩
      obtain ⟨d9, rfl⟩ : ∃ d9 : Nat, r9 = (d9 : Int) := ⟨r9.toNat, by omega⟩
      have wc : wcost (1 + d9) ≤ 93 := by
        have : d9 = 0 ∨ d9 = 1 ∨ d9 = 2 ∨ d9 = 3 := by omega
        rcases this with rfl | rfl | rfl | rfl <;> decide
      refine ⟨_, _, rfl, rfl, 1 + d9, by omega, t, c, lw, lc, ws, cs6, m + 200 + (3 - (j + 1)) * 94, congrArg (fun z : Int => [V.ref t, V.ref lw, V.ref lc, V.int z]) (by omega), SqL.extT (SqL.extT W7 T7 e1) t1 e9, SqL.of (e9 _ _ (fun z => by
        obtain ⟨kvs, hk⟩ := t1.dict
        have := e1 _ _ (fun z => by obtain ⟨kvs, hk⟩ := T7.dict; rw [z, hk] at gc7; cases gc7) gc7
        rw [z, hk] at this
        cases this) (e1 _ _ (fun z => by obtain ⟨kvs, hk⟩ := T7.dict; rw [z, hk] at gc7; cases gc7) gc7)), wo1, wo6, by omega, by omega, by omega, by omega, t9.less (by omega), fun H10 v k4 e10 t10 f1 f2 f3 => ?_⟩
      have e4 := e9.trans e10
      have nD : D ≠ t := T7.ne hD
      refine ⟨vs, e4 _ _ nD g1, small1000 (by omega), (e1.trans e4).upd hD, Tape.put T7 (e1.trans e4) t10 hD, vs ++ [v], ks ++ [k4], upd_same, ?_, by rw [List.length_append, g3]; rfl, ?_⟩
      · have tu : Tups H10 (upd H10 D (.lst (vs ++ [v]))) := Tups.put (e4 _ _ nD g1) (by intro xs z; cases z)
        exact Paired.snoc (KdsAt.tups ((Ext.tups e4 t1).trans tu) g2) (KdAt.tups tu f1)
      · intro k hk
        rcases List.mem_append.mp hk with q | q
        · exact g4 k q
        · rw [List.mem_singleton.mp q]
          exact ⟨Kd.fit_mono (by omega) f2, f3⟩
    · obtain ⟨va, vb, vc, rfl⟩ : ∃ a b c, vs = [a, b, c] := by
        match vs, g3 with
        | [a, b, c], _ => exact ⟨a, b, c, rfl⟩
      obtain ⟨ka, kb, kc, rfl⟩ : ∃ a b c, ks = [a, b, c] := by
        have := Paired.length g2
        match ks, this with
        | [a, b, c], _ => exact ⟨a, b, c, rfl⟩
      replace t1 : Tape K H8 t c (m + 200) := t1.less (by omega)
      have hD8 : D ≠ t := T7.ne hD
      have tot : ∀ (ky : Kd), ky.fit 8 → (((pcs ky).map (·.length)).sum + (pcs ky).length * (" " : Str).length ≤ 16777216) := fun ky hf => by
        have h1 := plen_pcs ky (Kd.fit_wk hf)
        have h2 := ksz_10 hf (by decide)
        rw [show (" " : Str).length = 1 by decide +kernel, Nat.mul_one]
        show plen (pcs ky) ≤ _
        omega
      refine ⟨_, rfl, D, rfl, ⟨_, SqL.of g1⟩, for_list (K := K) (a := D) (xs := [va, vb, vc]) (fun _ σ H' => Same H8 H' ∧ ∃ v6, σ = [some (.ref a), some (.ref t), some (.int (0 + (i : Int))), some (.ref lw), some (.ref lc), some (.ref D), v6, v7, v8, none]) ⟨Same.refl _, v6, rfl⟩ (fun _ σ H' _ ⟨s1, _⟩ => SqL.of (s1 _ _ g1)) ?_ ?_⟩
      · rintro j y σ H' hj ⟨s9, v6, rfl⟩
        obtain ⟨ky, hky, hy⟩ := paired_get g2 hj
        obtain ⟨fk, nk⟩ := g4 ky (List.mem_of_getElem? hky)
        have hy9 := KdAt.tups (same_tups s9) hy
        have w9 := wt_kd8 fk
        have p9 := psz_wt ky.dat
        refine ⟨_, rfl, t, y, ky.dat, rfl, hy9.da, okD_kd (Kd.fit_wk fk), by omega, fun H10 s10 => ?_⟩
        rw [isKind_kd nk]
        refine ⟨_, _, rfl, rfl, _, rfl, iF rfl ?_⟩
        have hy10 := KdAt.tups (same_tups s10) hy9
        refine ⟨_, rfl, y, ky, rfl, hy10, fk, by decide, fun H11 s11 => ?_⟩
        have hy11 := KdAt.tups (same_tups s11) hy10
        refine ⟨⟨_, rfl⟩, _, rfl, y, ky, rfl, hy11, fk, by decide, fun H12 l12 s12 g12 => ?_⟩
        refine ⟨_, l12, _, rfl, rfl, .inl (SqL.of g12), tot ky fk, rfl, _, rfl, ?_⟩
        have e : (!decide (V.str (txt ky) = V.str (Txt.join " " (pcs ky)))) = false := by
          show (!decide (V.str (txt ky) = V.str (txt ky))) = false
          rw [decide_eq_true rfl]
          rfl
        rw [e]
        refine iF rfl ?_
        exact ⟨s9.trans (s10.trans (s11.trans s12)), _, rfl⟩
      · rintro σ H9 ⟨s9, v6, rfl⟩
        cases g2 with
        | @cons _ _ _ _ qa g2 =>
          cases g2 with
          | @cons _ _ _ _ qb g2 =>
            have qa9 := KdAt.tups (same_tups s9) qa
            have qb9 := KdAt.tups (same_tups s9) qb
            obtain ⟨fa, na⟩ := g4 ka (by simp)
            obtain ⟨fb, nb⟩ := g4 kb (by simp)
            have gD9 := s9 _ _ g1
            have t9 := t1.same s9
            refine ⟨_, rfl, _, _, 0, _, rfl, rfl, SqL.of gD9, at_ofG (j := 0) rfl rfl, va, ka, rfl, qa9, fa, by decide, fun H10 s10 => ?_⟩
            refine ⟨_, rfl, _, _, 1, _, rfl, rfl, SqL.of (s10 _ _ gD9), at_ofG (j := 1) rfl rfl, vb, kb, rfl, KdAt.tups (same_tups s10) qb9, fb, by decide, fun H11 s11 => ?_⟩
            have S11 := s10.trans s11
            have gD11 := S11 _ _ gD9
            have qa11 := KdAt.tups (same_tups S11) qa9
            have qb11 := KdAt.tups (same_tups S11) qb9
            refine ⟨rfl, _, rfl, _, _, 0, _, rfl, rfl, SqL.of gD11, at_ofG (j := 0) rfl rfl, _, rfl, _, _, 1, _, rfl, rfl, SqL.of gD11, at_ofG (j := 1) rfl rfl, _, _, qa11.dp, qb11.dp, Kd.shaped fa (by decide), Kd.shaped fb (by decide), rfl, _, rfl, ?_⟩
            have e : (!decide (V.bl (decide (V.str (txt ka) = V.str (txt kb))) = V.bl (PyData.eqv ka.dat kb.dat))) = false := by
              have e1 : decide (V.str (txt ka) = V.str (txt kb)) = decide (ka = kb) := by
                rw [decide_eq_decide]
                exact ⟨fun z => (txt_inj (Kd.fit_wk fa) (Kd.fit_wk fb)).mp (V.str.inj z), fun z => by rw [z]⟩
              rw [e1, Kd.eqv, decide_eq_true rfl]
              rfl
            rw [e]
            refine iF rfl ?_
            have t11 := t9.same S11
            refine ⟨_, rfl, _, rfl, _, _, 0, _, rfl, rfl, SqL.of gD11, at_ofG (j := 0) rfl rfl, t, c, va, ka.dat, m + 149, rfl, qa11.da, okD_kd (Kd.fit_wk fa), Nat.le_trans (depth_kd8 fa) (by decide), Nat.le_trans (wt_kd8 fa) (by decide), t11.less (by show m + 149 + 51 ≤ _; omega), fun H12 v12 d12 e12 t12 da12 ok12 dep12 wt12 => ?_⟩
            have gD12 := e12 _ _ hD8 gD11
            have qb12 := KdAt.tups (Ext.tups e12 t11) qb11
            refine ⟨_, rfl, _, rfl, _, rfl, _, _, 1, _, rfl, rfl, SqL.of gD12, at_ofG (j := 1) rfl rfl, t, c, vb, kb.dat, m + 98, rfl, qb12.da, okD_kd (Kd.fit_wk fb), Nat.le_trans (depth_kd8 fb) (by decide), Nat.le_trans (wt_kd8 fb) (by decide), t12.less (by show m + 98 + 51 ≤ _; omega), fun H13 v13 d13 e13 t13 da13 ok13 dep13 wt13 => ?_⟩
            have pa := depth_kd8 fa
            have pb := depth_kd8 fb
            have wa := wt_kd8 fa
            have wb := wt_kd8 fb
            refine ⟨t, c, v13, d13, m + 47, rfl, da13, ok13, by omega, by omega, t13.less (by show m + 47 + 51 ≤ _; omega), fun H14 v14 d14 e14 t14 da14 ok14 dep14 wt14 => ?_⟩
            refine ⟨_, rfl, t, c, m + 46, rfl, t14, fun H15 v15 d15 e15 t15 da15 ho => ?_⟩
            have o15 := ends_ok d15 (List.mem_append.mpr (.inl ho))
            refine ⟨slz rfl, fun L hL => ?_⟩
            have s16 := same_new (o := .lst [v12, v14, v15]) hL
            have g16 : (upd H15 L (.lst [v12, v14, v15])) L = some (.lst [v12, v14, v15]) := upd_same
            generalize upd H15 L (.lst [v12, v14, v15]) = H16 at s16 g16 ⊢
            have t16 := t15.same s16
            have x12 : Da t H16 v12 d12 := (((da12.kp (kp_ext e13 t12)).kp (kp_ext e14 t13)).kp (kp_ext e15 t14)).kp (kp_same s16)
            have x14 : Da t H16 v14 d14 := ((da14.kp (kp_ext e15 t14))).kp (kp_same s16)
            have x15 : Da t H16 v15 d15 := da15.kp (kp_same s16)
            have all : ∀ v ∈ [v12, v14, v15], ∃ d, Da t H16 v d ∧ okD d = true ∧ d.depth ≤ 20 ∧ wt d ≤ 600000 := fun v hv => by
              rcases List.mem_cons.mp hv with e | hv
              · exact ⟨d12, by rw [e]; exact x12, ok12, by omega, by omega⟩
              rcases List.mem_cons.mp hv with e | hv
              · exact ⟨d14, by rw [e]; exact x14, ok14, by omega, by omega⟩
              · exact ⟨d15, by rw [List.mem_singleton.mp hv]; exact x15, o15.1, by omega, by omega⟩
            refine ⟨L, rfl, ⟨_, SqL.of g16⟩, for_list (K := K) (a := L) (xs := [v12, v14, v15]) (fun _ σ H' => Same H16 H' ∧ ∃ v7 v8, σ = [some (.ref a), some (.ref t), some (.int (0 + (i : Int))), some (.ref lw), some (.ref lc), some (.ref D), v6, v7, v8, none]) ⟨Same.refl _, v7, v8, rfl⟩ (fun _ σ H' _ ⟨s1, _⟩ => SqL.of (s1 _ _ g16)) ?_ ?_⟩
            · rintro j y σ H17 hj ⟨s17, v7, v8, rfl⟩
              obtain ⟨d, dy0, oky, dpy, wty⟩ := all y (List.mem_of_getElem? hj)
              have dy := dy0.kp (kp_same s17)
              have shy := shown_wt d
              have psy := psz_wt d
              have iy : ∀ i, d = .int i → i.natAbs.log2 < 1920 := fun i e => by
                subst e
                simpa only [okD, decide_eq_true_eq] using oky
              refine ⟨_, rfl, t, y, d, rfl, dy, okD_show oky, by omega, Nat.le_of_lt (szl (by omega)), iy, ?_⟩
              refine ⟨_, rfl, t, y, d, rfl, dy, oky, by omega, fun H18 s18 => ?_⟩
              have bsh : ∀ b : Bool, (PyData.bool b).shown.length ≤ sizeLine := fun b => by cases b <;> exact Nat.le_of_lt (szl (by decide +kernel))
              refine ⟨t, _, .bool (isKindD d), rfl, .bl _, by simp only [PyData.showable], by simp only [PyData.depth]; omega, bsh _, (fun i e => by cases e), ?_⟩
              refine ⟨_, rfl, t, y, d, rfl, dy.kp (kp_same s18), oky, dpy, fun H19 s19 => ?_⟩
              refine ⟨t, _, .bool (isKindD d), rfl, .bl _, by simp only [PyData.showable], by simp only [PyData.depth]; omega, bsh _, (fun i e => by cases e), rfl, _, rfl, ?_⟩
              have er : ∀ x : Str, (!decide (V.str x = V.str x)) = false := fun x => by rw [decide_eq_true rfl]; rfl
              rw [er]
              refine iF rfl ?_
              have S19 := s18.trans s19
              refine ⟨_, rfl, t, y, d, rfl, dy.kp (kp_same S19), okD_show oky, by omega, Nat.le_of_lt (szl (by omega)), iy, _, rfl, rfl, _, rfl, ?_⟩
              rw [er]
              refine iF rfl ?_
              exact ⟨s17.trans S19, _, _, rfl⟩
            · rintro σ H17 ⟨s17, v7, v8, rfl⟩
              exact ⟨_, _, _, _, _, _, _, rfl, (t16.same s17).less (by omega)⟩
  · obtain ⟨v2, v3, v4, v5, v6, v7, v8, rfl, T2⟩ := h
    exact k H2
end
end L3

/-! a dict of the module whose keys are texts: what it has -/
namespace L3
open PySem L2
def keyNm (e : DictEntry) : Option Str := match e.key with
  | .str x _ => some x
  | _ => none
theorem has_of {K : PySem.W.Frag} {a : Addr} {es : Array DictEntry} {n : Nat} {ks : List Str} (l : K.lookup a = some ⟨.type "dict", none, .dict es n, #[]⟩) (hk : es.toList.map keyNm = ks.map some) : ∀ z : Str, ∃ r, PySem.W.nsIn K a z = some r ∧ r.isSome = decide (z ∈ ks) := by
  intro z
  unfold PySem.W.nsIn
  rw [l]
  show ∃ r, (match es.toList.find? (·.key.isStr z) with
    | some e => some (some e.val)
    | none => if es.toList.any (·.refKey) then none else some none) = some r ∧ _
  generalize es.toList = l at hk
  have key : ∀ (l : List DictEntry) (ks : List Str), l.map keyNm = ks.map some → (l.find? (·.key.isStr z)).isSome = decide (z ∈ ks) ∧ l.any (·.refKey) = false := by
    intro l
    induction l with
    | nil =>
      intro ks h
      cases ks with
      | nil => exact ⟨rfl, rfl⟩
      | cons _ _ => cases h
    | cons e r ih =>
      intro ks h
      cases ks with
      | nil => cases h
      | cons x ks =>
        rw [List.map_cons, List.map_cons] at h
        injection h with h1 h2
        obtain ⟨i1, i2⟩ := ih ks h2
        obtain ⟨tk, ek⟩ : ∃ tk, e.key = .str x tk := by
          unfold keyNm at h1
          split at h1
          · rename_i y tk q
            injection h1 with h1
            exact ⟨tk, by rw [q, h1]⟩
          · cases h1
        refine ⟨?_, ?_⟩
        · rw [List.find?_cons]
          have es : e.key.isStr z = decide (z = x) := by
            rw [ek]
            show (x == z) = decide (z = x)
            rw [Bool.eq_iff_iff, beq_iff_eq, decide_eq_true_eq]
            exact eq_comm
          rw [es]
          by_cases c : z = x
          · rw [decide_eq_true c]
            simp [c]
          · rw [decide_eq_false c]
            simp only [i1]
            rw [Bool.eq_iff_iff, decide_eq_true_eq, decide_eq_true_eq, List.mem_cons]
            exact ⟨.inr, fun h => h.resolve_left c⟩
        · rw [List.any_cons, i2, Bool.or_false]
          unfold DictEntry.refKey
          rw [ek]
  obtain ⟨k1, k2⟩ := key l ks hk
  cases hf : l.find? (·.key.isStr z) with
  | some e =>
    rw [hf] at k1
    exact ⟨some e.val, rfl, k1⟩
  | none =>
    rw [hf] at k1
    refine ⟨none, ?_, k1⟩
    show (if l.any (·.refKey) = true then none else some none) = some none
    rw [k2]
    rfl
end L3

namespace L3
open PySem L2
theorem all_mk {l : PySem.W.OpenLaw} {w : World} {K : PySem.W.Frag} {h : Heap} {mg : Str → Option Value} {fa bA f1 f2 f3 f4 f5 f6 f7 f8 f9 f10 f11 f12 f13 f14 f15 f16 f17 f18 f19 f20 f21 f22 f23 f24 : Addr} (X : K.In h) (G : h.Ns mainGlobals mg) (hfa : mg "law" = some (.ref fa))
    {od1 an1 od2 an2 od3 an3 od4 an4 od5 an5 od6 an6 od7 an7 od8 an8 od9 an9 od10 an10 od11 an11 od12 an12 od13 an13 od14 an14 od15 an15 od16 an16 od17 an17 od18 an18 od19 an19 od20 an20 od21 an21 od22 an22 od23 an23 od24 an24 : Option Addr} {sl1 sl2 sl3 sl4 sl5 sl6 sl7 sl8 sl9 sl10 sl11 sl12 sl13 sl14 sl15 sl16 sl17 sl18 sl19 sl20 sl21 sl22 sl23 sl24 : Array (Option Value)} {uL oc1 kV1 dc1 pm1 cd1 ct1 oc2 kV2 dc2 pm2 cd2 ct2 oc3 kV3 dc3 pm3 cd3 ct3 oc4 kV4 dc4 pm4 cd4 ct4 oc5 kV5 dc5 pm5 cd5 ct5 oc6 kV6 dc6 pm6 cd6 ct6 oc7 kV7 dc7 pm7 cd7 ct7 oc8 kV8 dc8 pm8 cd8 ct8 oc9 kV9 dc9 pm9 cd9 ct9 oc10 kV10 dc10 pm10 cd10 ct10 oc11 kV11 dc11 pm11 cd11 ct11 oc12 kV12 dc12 pm12 cd12 ct12 oc13 kV13 dc13 pm13 cd13 ct13 oc14 kV14 dc14 pm14 cd14 ct14 oc15 kV15 dc15 pm15 cd15 ct15 oc16 kV16 dc16 pm16 cd16 ct16 oc17 kV17 dc17 pm17 cd17 ct17 oc18 kV18 dc18 pm18 cd18 ct18 oc19 kV19 dc19 pm19 cd19 ct19 oc20 kV20 dc20 pm20 cd20 ct20 oc21 kV21 dc21 pm21 cd21 ct21 oc22 kV22 dc22 pm22 cd22 ct22 oc23 kV23 dc23 pm23 cd23 ct23 oc24 kV24 dc24 pm24 cd24 ct24 : Value} {es : Array DictEntry} {nB : Nat}
    (a1 : PySem.W.nsIn K mainGlobals "is_word" = some (some (.ref f1))) (l1 : K.lookup f1 = some ⟨oc1, od1, .func (PySem.W.fnOf "is_word" "is_word" (defArgs s_is_word) (defBody s_is_word) (defScope s_is_word) .none kV1 dc1 pm1 an1 cd1 ct1), sl1⟩) (c1 : PySem.W.codeIn K cd1 "is_word" = true) (k1 : PySem.W.keepIn K (.ref f1) = true)
    (a2 : PySem.W.nsIn K mainGlobals "is_name" = some (some (.ref f2))) (l2 : K.lookup f2 = some ⟨oc2, od2, .func (PySem.W.fnOf "is_name" "is_name" (defArgs s_is_name) (defBody s_is_name) (defScope s_is_name) .none kV2 dc2 pm2 an2 cd2 ct2), sl2⟩) (c2 : PySem.W.codeIn K cd2 "is_name" = true) (k2 : PySem.W.keepIn K (.ref f2) = true)
    (a3 : PySem.W.nsIn K mainGlobals "is_leaf" = some (some (.ref f3))) (l3 : K.lookup f3 = some ⟨oc3, od3, .func (PySem.W.fnOf "is_leaf" "is_leaf" (defArgs s_is_leaf) (defBody s_is_leaf) (defScope s_is_leaf) .none kV3 dc3 pm3 an3 cd3 ct3), sl3⟩) (c3 : PySem.W.codeIn K cd3 "is_leaf" = true) (k3 : PySem.W.keepIn K (.ref f3) = true)
    (a4 : PySem.W.nsIn K mainGlobals "is_kind" = some (some (.ref f4))) (l4 : K.lookup f4 = some ⟨oc4, od4, .func (PySem.W.fnOf "is_kind" "is_kind" (defArgs s_is_kind) (defBody s_is_kind) (defScope s_is_kind) .none kV4 dc4 pm4 an4 cd4 ct4), sl4⟩) (c4 : PySem.W.codeIn K cd4 "is_kind" = true) (k4 : PySem.W.keepIn K (.ref f4) = true)
    (a5 : PySem.W.nsIn K mainGlobals "spine_of" = some (some (.ref f5))) (l5 : K.lookup f5 = some ⟨oc5, od5, .func (PySem.W.fnOf "spine_of" "spine_of" (defArgs s_spine_of) (defBody s_spine_of) (defScope s_spine_of) .none kV5 dc5 pm5 an5 cd5 ct5), sl5⟩) (c5 : PySem.W.codeIn K cd5 "spine_of" = true) (k5 : PySem.W.keepIn K (.ref f5) = true)
    (a6 : PySem.W.nsIn K mainGlobals "is_arrow" = some (some (.ref f6))) (l6 : K.lookup f6 = some ⟨oc6, od6, .func (PySem.W.fnOf "is_arrow" "is_arrow" (defArgs s_is_arrow) (defBody s_is_arrow) (defScope s_is_arrow) .none kV6 dc6 pm6 an6 cd6 ct6), sl6⟩) (c6 : PySem.W.codeIn K cd6 "is_arrow" = true) (k6 : PySem.W.keepIn K (.ref f6) = true)
    (a7 : PySem.W.nsIn K mainGlobals "arrow_text" = some (some (.ref f7))) (l7 : K.lookup f7 = some ⟨oc7, od7, .func (PySem.W.fnOf "arrow_text" "arrow_text" (defArgs s_arrow_text) (defBody s_arrow_text) (defScope s_arrow_text) .none kV7 dc7 pm7 an7 cd7 ct7), sl7⟩) (c7 : PySem.W.codeIn K cd7 "arrow_text" = true) (k7 : PySem.W.keepIn K (.ref f7) = true)
    (a8 : PySem.W.nsIn K mainGlobals "part_text" = some (some (.ref f8))) (l8 : K.lookup f8 = some ⟨oc8, od8, .func (PySem.W.fnOf "part_text" "part_text" (defArgs s_part_text) (defBody s_part_text) (defScope s_part_text) .none kV8 dc8 pm8 an8 cd8 ct8), sl8⟩) (c8 : PySem.W.codeIn K cd8 "part_text" = true) (k8 : PySem.W.keepIn K (.ref f8) = true)
    (a9 : PySem.W.nsIn K mainGlobals "text_of" = some (some (.ref f9))) (l9 : K.lookup f9 = some ⟨oc9, od9, .func (PySem.W.fnOf "text_of" "text_of" (defArgs s_text_of) (defBody s_text_of) (defScope s_text_of) .none kV9 dc9 pm9 an9 cd9 ct9), sl9⟩) (c9 : PySem.W.codeIn K cd9 "text_of" = true) (k9 : PySem.W.keepIn K (.ref f9) = true)
    (a10 : PySem.W.nsIn K mainGlobals "_law_begin" = some (some (.ref f10))) (l10 : K.lookup f10 = some ⟨oc10, od10, .func (PySem.W.fnOf "_law_begin" "_law_begin" (defArgs s__law_begin) (defBody s__law_begin) (defScope s__law_begin) .none kV10 dc10 pm10 an10 cd10 ct10), sl10⟩) (c10 : PySem.W.codeIn K cd10 "_law_begin" = true) (k10 : PySem.W.keepIn K (.ref f10) = true)
    (a11 : PySem.W.nsIn K mainGlobals "_law_draw" = some (some (.ref f11))) (l11 : K.lookup f11 = some ⟨oc11, od11, .func (PySem.W.fnOf "_law_draw" "_law_draw" (defArgs s__law_draw) (defBody s__law_draw) (defScope s__law_draw) .none kV11 dc11 pm11 an11 cd11 ct11), sl11⟩) (c11 : PySem.W.codeIn K cd11 "_law_draw" = true) (k11 : PySem.W.keepIn K (.ref f11) = true)
    (a12 : PySem.W.nsIn K mainGlobals "_law_pick" = some (some (.ref f12))) (l12 : K.lookup f12 = some ⟨oc12, od12, .func (PySem.W.fnOf "_law_pick" "_law_pick" (defArgs s__law_pick) (defBody s__law_pick) (defScope s__law_pick) .none kV12 dc12 pm12 an12 cd12 ct12), sl12⟩) (c12 : PySem.W.codeIn K cd12 "_law_pick" = true) (k12 : PySem.W.keepIn K (.ref f12) = true)
    (a13 : PySem.W.nsIn K mainGlobals "_law_odd" = some (some (.ref f13))) (l13 : K.lookup f13 = some ⟨oc13, od13, .func (PySem.W.fnOf "_law_odd" "_law_odd" (defArgs s__law_odd) (defBody s__law_odd) (defScope s__law_odd) .none kV13 dc13 pm13 an13 cd13 ct13), sl13⟩) (c13 : PySem.W.codeIn K cd13 "_law_odd" = true) (k13 : PySem.W.keepIn K (.ref f13) = true)
    (a14 : PySem.W.nsIn K mainGlobals "_law_words" = some (some (.ref f14))) (l14 : K.lookup f14 = some ⟨oc14, od14, .func (PySem.W.fnOf "_law_words" "_law_words" (defArgs s__law_words) (defBody s__law_words) (defScope s__law_words) .none kV14 dc14 pm14 an14 cd14 ct14), sl14⟩) (c14 : PySem.W.codeIn K cd14 "_law_words" = true) (k14 : PySem.W.keepIn K (.ref f14) = true)
    (a15 : PySem.W.nsIn K mainGlobals "_law_con" = some (some (.ref f15))) (l15 : K.lookup f15 = some ⟨oc15, od15, .func (PySem.W.fnOf "_law_con" "_law_con" (defArgs s__law_con) (defBody s__law_con) (defScope s__law_con) .none kV15 dc15 pm15 an15 cd15 ct15), sl15⟩) (c15 : PySem.W.codeIn K cd15 "_law_con" = true) (k15 : PySem.W.keepIn K (.ref f15) = true)
    (a16 : PySem.W.nsIn K mainGlobals "_law_to" = some (some (.ref f16))) (l16 : K.lookup f16 = some ⟨oc16, od16, .func (PySem.W.fnOf "_law_to" "_law_to" (defArgs s__law_to) (defBody s__law_to) (defScope s__law_to) .none kV16 dc16 pm16 an16 cd16 ct16), sl16⟩) (c16 : PySem.W.codeIn K cd16 "_law_to" = true) (k16 : PySem.W.keepIn K (.ref f16) = true)
    (a17 : PySem.W.nsIn K mainGlobals "_law_head_of" = some (some (.ref f17))) (l17 : K.lookup f17 = some ⟨oc17, od17, .func (PySem.W.fnOf "_law_head_of" "_law_head_of" (defArgs s__law_head_of) (defBody s__law_head_of) (defScope s__law_head_of) .none kV17 dc17 pm17 an17 cd17 ct17), sl17⟩) (c17 : PySem.W.codeIn K cd17 "_law_head_of" = true) (k17 : PySem.W.keepIn K (.ref f17) = true)
    (a18 : PySem.W.nsIn K mainGlobals "_law_is_right_name" = some (some (.ref f18))) (l18 : K.lookup f18 = some ⟨oc18, od18, .func (PySem.W.fnOf "_law_is_right_name" "_law_is_right_name" (defArgs s__law_is_right_name) (defBody s__law_is_right_name) (defScope s__law_is_right_name) .none kV18 dc18 pm18 an18 cd18 ct18), sl18⟩) (c18 : PySem.W.codeIn K cd18 "_law_is_right_name" = true) (k18 : PySem.W.keepIn K (.ref f18) = true)
    (a19 : PySem.W.nsIn K mainGlobals "_law_is_right_kind" = some (some (.ref f19))) (l19 : K.lookup f19 = some ⟨oc19, od19, .func (PySem.W.fnOf "_law_is_right_kind" "_law_is_right_kind" (defArgs s__law_is_right_kind) (defBody s__law_is_right_kind) (defScope s__law_is_right_kind) .none kV19 dc19 pm19 an19 cd19 ct19), sl19⟩) (c19 : PySem.W.codeIn K cd19 "_law_is_right_kind" = true) (k19 : PySem.W.keepIn K (.ref f19) = true)
    (a20 : PySem.W.nsIn K mainGlobals "_law_pieces" = some (some (.ref f20))) (l20 : K.lookup f20 = some ⟨oc20, od20, .func (PySem.W.fnOf "_law_pieces" "_law_pieces" (defArgs s__law_pieces) (defBody s__law_pieces) (defScope s__law_pieces) .none kV20 dc20 pm20 an20 cd20 ct20), sl20⟩) (c20 : PySem.W.codeIn K cd20 "_law_pieces" = true) (k20 : PySem.W.keepIn K (.ref f20) = true)
    (a21 : PySem.W.nsIn K mainGlobals "_law_is_function" = some (some (.ref f21))) (l21 : K.lookup f21 = some ⟨oc21, od21, .func (PySem.W.fnOf "_law_is_function" "_law_is_function" (defArgs s__law_is_function) (defBody s__law_is_function) (defScope s__law_is_function) .none kV21 dc21 pm21 an21 cd21 ct21), sl21⟩) (c21 : PySem.W.codeIn K cd21 "_law_is_function" = true) (k21 : PySem.W.keepIn K (.ref f21) = true)
    (a22 : PySem.W.nsIn K mainGlobals "_law_wide_kind" = some (some (.ref f22))) (l22 : K.lookup f22 = some ⟨oc22, od22, .func (PySem.W.fnOf "_law_wide_kind" "_law_wide_kind" (defArgs s__law_wide_kind) (defBody s__law_wide_kind) (defScope s__law_wide_kind) .none kV22 dc22 pm22 an22 cd22 ct22), sl22⟩) (c22 : PySem.W.codeIn K cd22 "_law_wide_kind" = true) (k22 : PySem.W.keepIn K (.ref f22) = true)
    (a23 : PySem.W.nsIn K mainGlobals "_law_bent" = some (some (.ref f23))) (l23 : K.lookup f23 = some ⟨oc23, od23, .func (PySem.W.fnOf "_law_bent" "_law_bent" (defArgs s__law_bent) (defBody s__law_bent) (defScope s__law_bent) .none kV23 dc23 pm23 an23 cd23 ct23), sl23⟩) (c23 : PySem.W.codeIn K cd23 "_law_bent" = true) (k23 : PySem.W.keepIn K (.ref f23) = true)
    (a24 : PySem.W.nsIn K mainGlobals "law" = some (some (.ref f24))) (l24 : K.lookup f24 = some ⟨oc24, od24, .func (PySem.W.fnOf "law" "law" (defArgs s_law) (defBody s_law) (defScope s_law) .none kV24 dc24 pm24 an24 cd24 ct24), sl24⟩) (c24 : PySem.W.codeIn K cd24 "law" = true) (k24 : PySem.W.keepIn K (.ref f24) = true)
    (z0 : PySem.W.nsIn K mainGlobals "len" = some none) (z1 : PySem.W.nsIn K mainGlobals "int" = some none) (z2 : PySem.W.nsIn K mainGlobals "list" = some none) (z3 : PySem.W.nsIn K mainGlobals "tuple" = some none) (z4 : PySem.W.nsIn K mainGlobals "dict" = some none) (z5 : PySem.W.nsIn K mainGlobals "repr" = some none) (z6 : PySem.W.nsIn K mainGlobals "range" = some none) (z7 : PySem.W.nsIn K mainGlobals "zip" = some none) (z8 : PySem.W.nsIn K mainGlobals "sorted" = some none) (z9 : PySem.W.nsIn K mainGlobals "isinstance" = some none) (z10 : PySem.W.nsIn K mainGlobals "all" = some none) (z11 : PySem.W.nsIn K mainGlobals "str" = some none) (z12 : PySem.W.nsIn K mainGlobals "tuple" = some none) (z13 : PySem.W.nsIn K mainGlobals "bool" = some none) (z14 : PySem.W.nsIn K mainGlobals "int" = some none) (z15 : PySem.W.nsIn K mainGlobals "ord" = some none) (z16 : PySem.W.nsIn K mainGlobals "abs" = some none) (z17 : PySem.W.nsIn K mainGlobals "max" = some none) (z18 : PySem.W.nsIn K mainGlobals "reversed" = some none)
    (aL : PySem.W.nsIn K mainGlobals "LONGEST" = some (some uL)) (aB : PySem.W.nsIn K mainGlobals "BARRED" = some (some (.ref bA))) (lB : K.lookup bA = some ⟨.type "dict", none, .dict es nB, #[]⟩)
    (rL : RelV (.int 8) uL) (wB : (bA == sysModules) = false) (kB : PySem.W.KeysLit w.params es.toList) (vB : es.toList.map keyNm = barL.map some) :
    ∃ fd : FuncData, (∀ (s : Shared) (v : Value), BindsTo s fd ⟨[v], []⟩ [("_law_script", v)]) ∧ ∀ base : Heap, K.In base → base.Ns mainGlobals mg → LawRun l.prog w K mg base fa fd "_law_script" (spLaw K) := by
  have e := hfa.symm.trans (PySem.W.mg_of X G a24)
  cases e
  have B : Bl mg := ⟨PySem.W.mg_none_of X G z0, PySem.W.mg_none_of X G z1, PySem.W.mg_none_of X G z2, PySem.W.mg_none_of X G z3, PySem.W.mg_none_of X G z4, PySem.W.mg_none_of X G z5, PySem.W.mg_none_of X G z6, PySem.W.mg_none_of X G z7, PySem.W.mg_none_of X G z8⟩
  have B9 : Bl9 mg := ⟨PySem.W.mg_none_of X G z9, PySem.W.mg_none_of X G z10, PySem.W.mg_none_of X G z11, PySem.W.mg_none_of X G z12, PySem.W.mg_none_of X G z13, PySem.W.mg_none_of X G z14, PySem.W.mg_none_of X G z15, PySem.W.mg_none_of X G z16, PySem.W.mg_none_of X G z17⟩
  have B5 : Bl5 mg := ⟨PySem.W.mg_none_of X G z18⟩
  have M : Mn K w mg bA es nB := ⟨⟨_, PySem.W.mg_of X G aL, rL⟩, ⟨_, PySem.W.mg_of X G aB, rfl⟩, ⟨lB, kB, wB⟩, has_of lB vB⟩
  have F1 := fun_mk (st := s_is_word) l1 c1 k1
  have m1 := PySem.W.mg_of X G a1
  have F2 := fun_mk (st := s_is_name) l2 c2 k2
  have m2 := PySem.W.mg_of X G a2
  have F3 := fun_mk (st := s_is_leaf) l3 c3 k3
  have m3 := PySem.W.mg_of X G a3
  have F4 := fun_mk (st := s_is_kind) l4 c4 k4
  have m4 := PySem.W.mg_of X G a4
  have F5 := fun_mk (st := s_spine_of) l5 c5 k5
  have m5 := PySem.W.mg_of X G a5
  have F6 := fun_mk (st := s_is_arrow) l6 c6 k6
  have m6 := PySem.W.mg_of X G a6
  have F7 := fun_mk (st := s_arrow_text) l7 c7 k7
  have m7 := PySem.W.mg_of X G a7
  have F8 := fun_mk (st := s_part_text) l8 c8 k8
  have m8 := PySem.W.mg_of X G a8
  have F9 := fun_mk (st := s_text_of) l9 c9 k9
  have m9 := PySem.W.mg_of X G a9
  have F10 := fun_mk (st := s__law_begin) l10 c10 k10
  have m10 := PySem.W.mg_of X G a10
  have F11 := fun_mk (st := s__law_draw) l11 c11 k11
  have m11 := PySem.W.mg_of X G a11
  have F12 := fun_mk (st := s__law_pick) l12 c12 k12
  have m12 := PySem.W.mg_of X G a12
  have F13 := fun_mk (st := s__law_odd) l13 c13 k13
  have m13 := PySem.W.mg_of X G a13
  have F14 := fun_mk (st := s__law_words) l14 c14 k14
  have m14 := PySem.W.mg_of X G a14
  have F15 := fun_mk (st := s__law_con) l15 c15 k15
  have m15 := PySem.W.mg_of X G a15
  have F16 := fun_mk (st := s__law_to) l16 c16 k16
  have m16 := PySem.W.mg_of X G a16
  have F17 := fun_mk (st := s__law_head_of) l17 c17 k17
  have m17 := PySem.W.mg_of X G a17
  have F18 := fun_mk (st := s__law_is_right_name) l18 c18 k18
  have m18 := PySem.W.mg_of X G a18
  have F19 := fun_mk (st := s__law_is_right_kind) l19 c19 k19
  have m19 := PySem.W.mg_of X G a19
  have F20 := fun_mk (st := s__law_pieces) l20 c20 k20
  have m20 := PySem.W.mg_of X G a20
  have F21 := fun_mk (st := s__law_is_function) l21 c21 k21
  have m21 := PySem.W.mg_of X G a21
  have F22 := fun_mk (st := s__law_wide_kind) l22 c22 k22
  have m22 := PySem.W.mg_of X G a22
  have F23 := fun_mk (st := s__law_bent) l23 c23 k23
  have m23 := PySem.W.mg_of X G a23
  have F24 := fun_mk (st := s_law) l24 c24 k24
  have m24 := PySem.W.mg_of X G a24
  refine ⟨PySem.W.fnOf "law" "law" (defArgs s_law) (defBody s_law) (defScope s_law) .none kV24 dc24 pm24 an24 cd24 ct24, fun s v => .of_eq rfl, fun base _ _ => ?_⟩
  have Dword := Fun.kn (P := l.prog) (w := w) (base := base) (k := 1) F1 m1 (ok_word F1 B B9 M) fun _ _ _ _ _ _ us hl => match us, hl with | [_], _ => rfl
  have Dname := Fun.kn (P := l.prog) (w := w) (base := base) (k := 2) F2 m2 (ok_name F2 M Dword) fun _ _ _ _ _ _ us hl => match us, hl with | [_], _ => rfl
  have Dleaf := Fun.kn (P := l.prog) (w := w) (base := base) (k := 3) F3 m3 (ok_leaf F3 B Dname) fun _ _ _ _ _ _ us hl => match us, hl with | [_], _ => rfl
  have Dkind := Fun.kn (P := l.prog) (w := w) (base := base) (k := 4) F4 m4 (ok_kind F4 B B9 Dleaf) fun _ _ _ _ _ _ us hl => match us, hl with | [_], _ => rfl
  have DKkind : KnK l.prog w K mg base 4 "is_kind" ["value"] spKind := ⟨f4, _, ok_kind F4 B B9 Dleaf, m4, F4.kp, kbinds1 (fun s v => .of_eq rfl) (fun s v => .of_eq rfl)⟩
  have Dspine := Fun.kn (P := l.prog) (w := w) (base := base) (k := 1) F5 m5 (ok_spine F5 B B5) fun _ _ _ _ _ _ us hl => match us, hl with | [_], _ => rfl
  have Darr : ∀ n, Kn l.prog w K mg base 2 "is_arrow" ["kind"] (spArr n) := fun n => Fun.kn (P := l.prog) (w := w) (base := base) (k := 2) F6 m6 (ok_arr F6 B Dspine) fun _ _ _ _ _ _ us hl => match us, hl with | [_], _ => rfl
  have Dtxt := Fun.kn (P := l.prog) (w := w) (base := base) (k := 19) F9 m9 (txt_all F9 F7 F8 m9 m7 m8 B Dspine Darr 8) fun _ _ _ _ _ _ us hl => match us, hl with | [_], _ => rfl
  have Dbegin := Fun.kn (P := l.prog) (w := w) (base := base) (k := 1) F10 m10 (ok_begin F10) fun _ _ _ _ _ _ us hl => match us, hl with | [_], _ => rfl
  have Ddraw := Fun.kn (P := l.prog) (w := w) (base := base) (k := 1) F11 m11 (ok_draw F11 B) fun _ _ _ _ _ _ us hl => match us, hl with | [_, _], _ => rfl
  have Dpick := Fun.kn (P := l.prog) (w := w) (base := base) (k := 2) F12 m12 (ok_pick F12 B Ddraw) fun _ _ _ _ _ _ us hl => match us, hl with | [_, _], _ => rfl
  have Dodd := Fun.kn (P := l.prog) (w := w) (base := base) (k := 3) F13 m13 (ok_odd F13 Dpick) fun _ _ _ _ _ _ us hl => match us, hl with | [_], _ => rfl
  have Dwords := Fun.kn (P := l.prog) (w := w) (base := base) (k := 3) F14 m14 (ok_words F14 B Ddraw Dpick) fun _ _ _ _ _ _ us hl => match us, hl with | [_, _], _ => rfl
  have Dlcon := Fun.kn (P := l.prog) (w := w) (base := base) (k := 1) F15 m15 (ok_con F15) fun _ _ _ _ _ _ us hl => match us, hl with | [_, _], _ => rfl
  have Dlto := Fun.kn (P := l.prog) (w := w) (base := base) (k := 2) F16 m16 (ok_lto F16 Dlcon) fun _ _ _ _ _ _ us hl => match us, hl with | [_], _ => rfl
  have Dhead := Fun.kn (P := l.prog) (w := w) (base := base) (k := 1) F17 m17 (ok_head F17) fun _ _ _ _ _ _ us hl => match us, hl with | [_], _ => rfl
  have Disf : ∀ n, Kn l.prog w K mg base 2 "_law_is_function" ["_law_kind"] (spArr n) := fun n => Fun.kn (P := l.prog) (w := w) (base := base) (k := 2) F21 m21 (ok_isf F21 B Dhead) fun _ _ _ _ _ _ us hl => match us, hl with | [_], _ => rfl
  have Dpcs := Fun.kn (P := l.prog) (w := w) (base := base) (k := 11) F20 m20 (pcs_all F20 m20 B Dhead Disf 8) fun _ _ _ _ _ _ us hl => match us, hl with | [_], _ => rfl
  have Drn := Fun.kn (P := l.prog) (w := w) (base := base) (k := 1) F18 m18 (ok_rn F18 B B9) fun _ _ _ _ _ _ us hl => match us, hl with | [_], _ => rfl
  have Drk := Fun.kn (P := l.prog) (w := w) (base := base) (k := 22) F19 m19 (rk_all F19 m19 B B9 Drn 20) fun _ _ _ _ _ _ us hl => match us, hl with | [_], _ => rfl
  have Dwk := Fun.kn (P := l.prog) (w := w) (base := base) (k := 7) F22 m22 (fn_wks fun n hn => (wide_all F22 m22 B Ddraw Dpick Dlto n).mono (by omega)) fun _ _ _ _ _ _ us hl => match us, hl with | [_, _, _, _], _ => rfl
  have Dbent := Fun.kn (P := l.prog) (w := w) (base := base) (k := 20) F23 m23 (bent_all F23 m23 B B9 Ddraw Dpick Dodd 16) fun _ _ _ _ _ _ us hl => match us, hl with | [_, _], _ => rfl
  exact law_run F24 B Dbegin Ddraw Dwords Dwk Dkind DKkind Dtxt Dpcs Dbent Dodd Drk
end L3

open PySem PySem.W PyProof.Rows in
set_option maxRecDepth 100000 in
set_option maxHeartbeats 0 in
theorem PySem.Challenge.cw_leastneeds_k06_what_is_a_kind_and_its_te_holds : PySem.Challenge.rw_leastneeds_k06_what_is_a_kind_and_its_te.Holds := by
  w_on; o_law; k_head; (case hw => w_witness2)
  k_fill
  refine L3.walkG (l := PySem.Challenge.rw_leastneeds_k06_what_is_a_kind_and_its_te) (n := 63) (x := "_law_script") (sp := L3.spLaw) rfl (by decide) rfl (fun w h Y => PySem.W.kIn_of Y) ?F (fun K H a ns _ hS => ⟨a, ns, rfl, hS, fun _ => rfl⟩)
  case F =>
    intro w mg fa h KX G hmg
    refine' L3.all_mk KX G hmg ?a1 ?l1 ?c1 ?k1 ?a2 ?l2 ?c2 ?k2 ?a3 ?l3 ?c3 ?k3 ?a4 ?l4 ?c4 ?k4 ?a5 ?l5 ?c5 ?k5 ?a6 ?l6 ?c6 ?k6 ?a7 ?l7 ?c7 ?k7 ?a8 ?l8 ?c8 ?k8 ?a9 ?l9 ?c9 ?k9 ?a10 ?l10 ?c10 ?k10 ?a11 ?l11 ?c11 ?k11 ?a12 ?l12 ?c12 ?k12 ?a13 ?l13 ?c13 ?k13 ?a14 ?l14 ?c14 ?k14 ?a15 ?l15 ?c15 ?k15 ?a16 ?l16 ?c16 ?k16 ?a17 ?l17 ?c17 ?k17 ?a18 ?l18 ?c18 ?k18 ?a19 ?l19 ?c19 ?k19 ?a20 ?l20 ?c20 ?k20 ?a21 ?l21 ?c21 ?k21 ?a22 ?l22 ?c22 ?k22 ?a23 ?l23 ?c23 ?k23 ?a24 ?l24 ?c24 ?k24 ?z0 ?z1 ?z2 ?z3 ?z4 ?z5 ?z6 ?z7 ?z8 ?z9 ?z10 ?z11 ?z12 ?z13 ?z14 ?z15 ?z16 ?z17 ?z18 ?aL ?aB ?lB ?rL ?wB ?kB ?vB
    (case a1 => k_is)
    (case l1 => k_is)
    (case c1 => k_is)
    (case k1 => k_is)
    (case a2 => k_is)
    (case l2 => k_is)
    (case c2 => k_is)
    (case k2 => k_is)
    (case a3 => k_is)
    (case l3 => k_is)
    (case c3 => k_is)
    (case k3 => k_is)
    (case a4 => k_is)
    (case l4 => k_is)
    (case c4 => k_is)
    (case k4 => k_is)
    (case a5 => k_is)
    (case l5 => k_is)
    (case c5 => k_is)
    (case k5 => k_is)
    (case a6 => k_is)
    (case l6 => k_is)
    (case c6 => k_is)
    (case k6 => k_is)
    (case a7 => k_is)
    (case l7 => k_is)
    (case c7 => k_is)
    (case k7 => k_is)
    (case a8 => k_is)
    (case l8 => k_is)
    (case c8 => k_is)
    (case k8 => k_is)
    (case a9 => k_is)
    (case l9 => k_is)
    (case c9 => k_is)
    (case k9 => k_is)
    (case a10 => k_is)
    (case l10 => k_is)
    (case c10 => k_is)
    (case k10 => k_is)
    (case a11 => k_is)
    (case l11 => k_is)
    (case c11 => k_is)
    (case k11 => k_is)
    (case a12 => k_is)
    (case l12 => k_is)
    (case c12 => k_is)
    (case k12 => k_is)
    (case a13 => k_is)
    (case l13 => k_is)
    (case c13 => k_is)
    (case k13 => k_is)
    (case a14 => k_is)
    (case l14 => k_is)
    (case c14 => k_is)
    (case k14 => k_is)
    (case a15 => k_is)
    (case l15 => k_is)
    (case c15 => k_is)
    (case k15 => k_is)
    (case a16 => k_is)
    (case l16 => k_is)
    (case c16 => k_is)
    (case k16 => k_is)
    (case a17 => k_is)
    (case l17 => k_is)
    (case c17 => k_is)
    (case k17 => k_is)
    (case a18 => k_is)
    (case l18 => k_is)
    (case c18 => k_is)
    (case k18 => k_is)
    (case a19 => k_is)
    (case l19 => k_is)
    (case c19 => k_is)
    (case k19 => k_is)
    (case a20 => k_is)
    (case l20 => k_is)
    (case c20 => k_is)
    (case k20 => k_is)
    (case a21 => k_is)
    (case l21 => k_is)
    (case c21 => k_is)
    (case k21 => k_is)
    (case a22 => k_is)
    (case l22 => k_is)
    (case c22 => k_is)
    (case k22 => k_is)
    (case a23 => k_is)
    (case l23 => k_is)
    (case c23 => k_is)
    (case k23 => k_is)
    (case a24 => k_is)
    (case l24 => k_is)
    (case c24 => k_is)
    (case k24 => k_is)
    (case z0 => k_is)
    (case z1 => k_is)
    (case z2 => k_is)
    (case z3 => k_is)
    (case z4 => k_is)
    (case z5 => k_is)
    (case z6 => k_is)
    (case z7 => k_is)
    (case z8 => k_is)
    (case z9 => k_is)
    (case z10 => k_is)
    (case z11 => k_is)
    (case z12 => k_is)
    (case z13 => k_is)
    (case z14 => k_is)
    (case z15 => k_is)
    (case z16 => k_is)
    (case z17 => k_is)
    (case z18 => k_is)
    (case aL => k_is)
    (case aB => k_is)
    (case lB => k_is)
    (case rL => exact ⟨_, rfl⟩)
    (case wB => rfl)
    (case kB => exact ⟨⟨_, _, rfl, rfl⟩, ⟨⟨_, _, rfl, rfl⟩, ⟨⟨_, _, rfl, rfl⟩, ⟨⟨_, _, rfl, rfl⟩, ⟨⟨_, _, rfl, rfl⟩, ⟨⟨_, _, rfl, rfl⟩, ⟨⟨_, _, rfl, rfl⟩, ⟨⟨_, _, rfl, rfl⟩, ⟨⟨_, _, rfl, rfl⟩, ⟨⟨_, _, rfl, rfl⟩, ⟨⟨_, _, rfl, rfl⟩, ⟨⟨_, _, rfl, rfl⟩, ⟨⟨_, _, rfl, rfl⟩, ⟨⟨_, _, rfl, rfl⟩, ⟨⟨_, _, rfl, rfl⟩, ⟨⟨_, _, rfl, rfl⟩, ⟨⟨_, _, rfl, rfl⟩, trivial⟩⟩⟩⟩⟩⟩⟩⟩⟩⟩⟩⟩⟩⟩⟩⟩⟩)
    (case vB => rfl)
