import PyProof.Rows.All
import Wide.All
import OpenK.AllK
import Wide.FinOn
import HandS.ForMost
import HandS.Flow
import HandS.Small
import HandS.SetKeys
import HandS.Zip
import HandS.Style
import HandS.More
import HandS.Deep
import PySem.Challenge.RW_leastneeds_k08_whole_patterns_that_fit
import KE.KDictZip
import HandS.ListItems
import HandS.DictComp
import PyProof.ReprLen
import PyProof.StrLawsRepr
import PyProof.Rows.StrMeet
set_option Elab.async false
set_option linter.all false
set_option maxRecDepth 100000
set_option maxHeartbeats 4000000
namespace L3
open PySem L2
/-! ### a def that is known by its name -/
section
variable {P : Program} {w : World} {K : PySem.W.Frag} {mg : Str → Option Value} {base : Heap}
structure Kn (P : Program) (w : World) (K : PySem.W.Frag) (mg : Str → Option Value) (base : Heap) (k : Nat) (x : Str) (ps : List Str) (sp : Sp) : Prop where
  ex : ∃ (f : Addr) (fd : FuncData), FnOk P w K mg base CX0 k f fd ps sp ∧ mg x = some (.ref f) ∧ PySem.W.keepIn K (.ref f) = true ∧ Binds K fd ps []
end
section
variable {X : Cx} {x : Str} {k : Nat} {ps : List Str} {sp : Sp} {e : Expr} {es : List Expr} {t : TA} {p pos : Pos}
theorem pe_kn (D : Kn X.prog X.w X.K X.mg X.base k x ps sp) (hr : Room k X.A) (ha : PA X (e :: es) t) (hg : Gl X x := by rfl) (hdb : (x == ("__debug__" : Str)) = false := by decide)
    (he : starEach (e :: es) X.env = (false, eval e X.env) :: starEach es X.env := by rfl) (hpl : (backTo pos (starEach es X.env)).any (·.1) = false := by rfl) :
    PE X (.Call (.Name x p) (e :: es) [] pos) (tCall sp [] E0 t) := by
  obtain ⟨f, fd, F, hm, hk, hb⟩ := D.ex
  exact pe_call F hr hg hm hk hb .nil pass0 ha hdb he hpl
theorem pe_kn0 (D : Kn X.prog X.w X.K X.mg X.base k x ps sp) (hr : Room k X.A) (hg : Gl X x := by rfl) (hdb : (x == ("__debug__" : Str)) = false := by decide) :
    PE X (.Call (.Name x p) [] [] pos) (tCall sp [] E0 tNil) := by
  obtain ⟨f, fd, F, hm, hk, hb⟩ := D.ex
  exact pe_call0 F hr hg hm hk hb .nil pass0 hdb
end
/-- built-in names that the text leaves alone -/
structure Bl (mg : Str → Option Value) : Prop where
  len : mg "len" = none
  int : mg "int" = none
  list : mg "list" = none
  tuple : mg "tuple" = none
  dict : mg "dict" = none
  repr : mg "repr" = none
  range : mg "range" = none
  zip : mg "zip" = none
  sorted : mg "sorted" = none

/-! ### the tape -/
/-- all but the object at t is kept -/
def Ext (t : Addr) (H H' : Hp) : Prop := ∀ b o, b ≠ t → H b = some o → H' b = some o
theorem Ext.refl (t : Addr) (H : Hp) : Ext t H H := fun _ _ _ h => h
theorem Ext.trans {t : Addr} {H H1 H2 : Hp} (a : Ext t H H1) (b : Ext t H1 H2) : Ext t H H2 := fun c o n h => b c o n (a c o n h)
theorem Ext.new {t p : Addr} {H : Hp} {o : HO} (h : H p = none) : Ext t H (upd H p o) := fun b u _ e => by
  rw [upd_ne (ne_of_none e h)]
  exact e
theorem Ext.put {t : Addr} {H : Hp} {o : HO} : Ext t H (upd H t o) := fun b u n e => by
  rw [upd_ne n]
  exact e
theorem same_ext {t : Addr} {H H' : Hp} (h : Same H H') : Ext t H H' := fun b o _ e => h b o e
theorem same_new {p : Addr} {H : Hp} {o : HO} (h : H p = none) : Same H (upd H p o) := fun b u e => by
  rw [upd_ne (ne_of_none e h)]
  exact e
def tp (c : Addr) (p l : Int) : List (Key × V) := [(.inr "cells", .ref c), (.inr "place", .int p), (.inr "left", .int l)]
theorem tp_cells (c : Addr) (p l : Int) : valV (tp c p l) (.inr "cells") = some (.ref c) := by rfl
theorem tp_place (c : Addr) (p l : Int) : valV (tp c p l) (.inr "place") = some (.int p) := by rfl
theorem tp_left (c : Addr) (p l : Int) : valV (tp c p l) (.inr "left") = some (.int l) := by rfl
theorem tp_putP (c : Addr) (p l q : Int) : putK (tp c p l) (.inr "place") (.int q) = tp c q l := by rfl
theorem tp_putL (c : Addr) (p l q : Int) : putK (tp c p l) (.inr "left") (.int q) = tp c p q := by rfl
/-- at t a tape stands, its cells at c, from which b more cells may be taken -/
def Tape (K : PySem.W.Frag) (H : Hp) (t c : Addr) (b : Nat) : Prop :=
  ∃ (p l : Int) (ns : List Int), H t = some (.dK (tp c p l)) ∧ SqL K H c (ns.map V.int) ∧ c ≠ t ∧ 0 < ns.length ∧ ns.length ≤ 63 ∧ 0 ≤ p ∧ p + b ≤ 1000000 ∧ 0 ≤ l
theorem Tape.less {K : PySem.W.Frag} {H : Hp} {t c : Addr} {b b' : Nat} (h : Tape K H t c b) (hb : b' ≤ b) : Tape K H t c b' := by
  obtain ⟨p, l, ns, h1, h2, h3, h4, h5, h6, h7, h8⟩ := h
  exact ⟨p, l, ns, h1, h2, h3, h4, h5, h6, by omega, h8⟩
theorem SqL.same {K : PySem.W.Frag} {H H' : Hp} {a : Addr} {xs : List V} (h : SqL K H a xs) (k : ∀ o, H a = some o → H' a = some o) : SqL K H' a xs := by
  rcases h with (h | ⟨o, h⟩) | h
  · exact .inl (.inl (k _ h))
  · exact .inl (.inr ⟨o, k _ h⟩)
  · exact .inr h
theorem SqL.ext {K : PySem.W.Frag} {t : Addr} {H H' : Hp} {a : Addr} {xs : List V} (h : SqL K H a xs) (e : Ext t H H') (n : a ≠ t) : SqL K H' a xs := SqL.same h fun o q => e a o n q
/-- the tape is untouched -/
theorem Tape.same {K : PySem.W.Frag} {H H' : Hp} {t c : Addr} {b : Nat} (h : Tape K H t c b) (k : Same H H') : Tape K H' t c b := by
  obtain ⟨p, l, ns, h1, h2, h3, h4, h5, h6, h7, h8⟩ := h
  exact ⟨p, l, ns, k _ _ h1, k.seq h2, h3, h4, h5, h6, h7, h8⟩
theorem Tape.new {K : PySem.W.Frag} {H : Hp} {t c : Addr} {b : Nat} {q : Addr} {o : HO} (h : Tape K H t c b) (n : H q = none) : Tape K (upd H q o) t c b := h.same (same_new n)
theorem Tape.dict {K : PySem.W.Frag} {H : Hp} {t c : Addr} {b : Nat} (h : Tape K H t c b) : ∃ kvs, H t = some (.dK kvs) := by
  obtain ⟨p, l, ns, h1, _⟩ := h
  exact ⟨_, h1⟩
theorem Tape.ne {K : PySem.W.Frag} {H : Hp} {t c : Addr} {b : Nat} (h : Tape K H t c b) {l : Addr} (n : H l = none) : l ≠ t := fun e => by
  obtain ⟨kvs, q⟩ := h.dict
  rw [e, q] at n
  cases n
theorem Ext.free {t : Addr} {H H' : Hp} (e : Ext t H H') {l : Addr} (n : l ≠ t) (h : H' l = none) : H l = none := by
  cases q : H l with
  | none => rfl
  | some o =>
    rw [e l o n q] at h
    cases h
/-- an object D that was not there at H0 is stored into -/
theorem Tape.put {K : PySem.W.Frag} {H0 H : Hp} {t c : Addr} {b0 b : Nat} {D : Addr} {o : HO} (h0 : Tape K H0 t c b0) (e : Ext t H0 H) (h : Tape K H t c b) (n : H0 D = none) : Tape K (upd H D o) t c b := by
  have nt : t ≠ D := (h0.ne n).symm
  obtain ⟨_, _, ns, _, g2, g3, g4, g5, _⟩ := h0
  obtain ⟨p, l, _, h1, _, _, _, _, h6, h7, h8⟩ := h
  refine ⟨p, l, ns, by rw [upd_ne nt]; exact h1, SqL.same g2 fun u q => ?_, g3, g4, g5, h6, h7, h8⟩
  rw [upd_ne (ne_of_none q n)]
  exact e _ _ g3 q
theorem Ext.upd {t : Addr} {H0 H : Hp} {D : Addr} {o : HO} (e : Ext t H0 H) (n : H0 D = none) : Ext t H0 (upd H D o) := fun q u h1 h2 => by
  rw [upd_ne (ne_of_none h2 n)]
  exact e q u h1 h2
end L3

namespace L3
open PySem L2
theorem slz {n : Nat} (h : Nat.ble n 1000 = true) : n ≤ sizeLine := Nat.le_of_lt (small1000 (Nat.le_of_ble_eq_true h))
theorem iT {c : Bool} {A B : Prop} (h : c = true) (a : A) : if c = true then A else B := by
  rw [if_pos h]
  exact a
theorem iF {c : Bool} {A B : Prop} (h : c = false) (b : B) : if c = true then A else B := by
  rw [h]
  exact iteF b
theorem tg_aa : decide (V.str ("apply" : Str) = V.str ("apply" : Str)) = true := decide_eq_true rfl
theorem tg_va : decide (V.str ("var" : Str) = V.str ("apply" : Str)) = false := by decide +kernel
theorem tg_ca : decide (V.str ("con" : Str) = V.str ("apply" : Str)) = false := by decide +kernel
theorem tg_vv : decide (V.str ("var" : Str) = V.str ("var" : Str)) = true := decide_eq_true rfl
theorem tg_cv : decide (V.str ("con" : Str) = V.str ("var" : Str)) = false := by decide +kernel
theorem tg_av : decide (V.str ("apply" : Str) = V.str ("var" : Str)) = false := by decide +kernel
theorem tg_ac : decide (V.str ("apply" : Str) = V.str ("con" : Str)) = false := by decide +kernel
theorem tg_vc : decide (V.str ("var" : Str) = V.str ("con" : Str)) = false := by decide +kernel
theorem tg_cc : decide (V.str ("con" : Str) = V.str ("con" : Str)) = true := decide_eq_true rfl
/-! ### kinds -/
inductive Kd where
  | var (x : Str) | con (x : Str) | app (a b : Kd)
  deriving DecidableEq
def Kd.tag : Kd → Str
  | .var _ => "var" | .con _ => "con" | .app _ _ => "apply"
/-- a word of 1 to 8 letters from a to z -/
def Wok (x : Str) : Prop := 1 ≤ x.length ∧ x.length ≤ 8 ∧ ∀ c ∈ x.cps.toList, 97 ≤ c ∧ c ≤ 122
/-- at most n deep, of words -/
def Kd.fit : Nat → Kd → Prop
  | _, .var x => Wok x
  | _, .con x => Wok x
  | 0, .app _ _ => False
  | n + 1, .app a b => Kd.fit n a ∧ Kd.fit n b
theorem Kd.fit_mono : ∀ {k : Kd} {n m : Nat}, n ≤ m → Kd.fit n k → Kd.fit m k
  | .var _, n, m, _, h => by cases n <;> cases m <;> exact h
  | .con _, n, m, _, h => by cases n <;> cases m <;> exact h
  | .app a b, 0, _, _, h => h.elim
  | .app a b, n + 1, 0, e, _ => absurd e (by omega)
  | .app a b, n + 1, m + 1, e, h => ⟨Kd.fit_mono (by omega) h.1, Kd.fit_mono (by omega) h.2⟩
theorem Kd.fit_app {n : Nat} {a b : Kd} (h : Kd.fit n (.app a b)) : ∃ m, n = m + 1 ∧ Kd.fit m a ∧ Kd.fit m b := by
  cases n with
  | zero => exact h.elim
  | succ m => exact ⟨m, rfl, h.1, h.2⟩
def KdAt (H : Hp) : V → Kd → Prop
  | v, .var x => ∃ a, v = .ref a ∧ H a = some (.tup [.str "var", .str x])
  | v, .con x => ∃ a, v = .ref a ∧ H a = some (.tup [.str "con", .str x])
  | v, .app k l => ∃ a u z, v = .ref a ∧ H a = some (.tup [.str "apply", u, z]) ∧ KdAt H u k ∧ KdAt H z l
/-- tuples stay -/
def Tups (H H' : Hp) : Prop := ∀ b xs, H b = some (.tup xs) → H' b = some (.tup xs)
theorem same_tups {H H' : Hp} (h : Same H H') : Tups H H' := fun b xs e => h b _ e
theorem Tups.trans {H H1 H2 : Hp} (a : Tups H H1) (b : Tups H1 H2) : Tups H H2 := fun c xs e => b c xs (a c xs e)
theorem Tups.put {H : Hp} {d : Addr} {o u : HO} (h : H d = some o) (n : ∀ xs, o ≠ .tup xs) : Tups H (upd H d u) := fun b xs e => by
  rw [upd_ne (fun q => by rw [q, h] at e; exact n xs (Option.some.inj e))]
  exact e
theorem Tups.new {H : Hp} {d : Addr} {u : HO} (h : H d = none) : Tups H (upd H d u) := same_tups (same_new h)
theorem Ext.tups {K : PySem.W.Frag} {t c : Addr} {b : Nat} {H H' : Hp} (e : Ext t H H') (h : Tape K H t c b) : Tups H H' := fun q xs z => by
  obtain ⟨kvs, hk⟩ := h.dict
  exact e q _ (ne_of z hk (by intro r; cases r)) z
theorem KdAt.tups {H H' : Hp} (h : Tups H H') : ∀ {k : Kd} {v : V}, KdAt H v k → KdAt H' v k
  | .var _, _, ⟨a, e, q⟩ => ⟨a, e, h _ _ q⟩
  | .con _, _, ⟨a, e, q⟩ => ⟨a, e, h _ _ q⟩
  | .app _ _, _, ⟨a, u, z, e, q, h1, h2⟩ => ⟨a, u, z, e, h _ _ q, KdAt.tups h h1, KdAt.tups h h2⟩
/-- the tuple of a kind, and its first item -/
theorem KdAt.top {H : Hp} : ∀ {k : Kd} {v : V}, KdAt H v k → ∃ a xs, v = .ref a ∧ H a = some (.tup xs) ∧ xs[0]? = some (.str k.tag)
  | .var _, _, ⟨a, e, q⟩ => ⟨a, _, e, q, rfl⟩
  | .con _, _, ⟨a, e, q⟩ => ⟨a, _, e, q, rfl⟩
  | .app _ _, _, ⟨a, u, z, e, q, _⟩ => ⟨a, _, e, q, rfl⟩
def Kd.dat : Kd → PyData
  | .var x => .tuple [.str "var", .str x]
  | .con x => .tuple [.str "con", .str x]
  | .app a b => .tuple [.str "apply", a.dat, b.dat]
theorem KdAt.dp {K : PySem.W.Frag} {H : Hp} : ∀ {k : Kd} {v : V}, KdAt H v k → Dp K H v k.dat
  | .var x, _, ⟨a, e, q⟩ => by subst e; exact .tup (SqT.of q) (.cons (.str _) (.cons (.str _) .nil))
  | .con x, _, ⟨a, e, q⟩ => by subst e; exact .tup (SqT.of q) (.cons (.str _) (.cons (.str _) .nil))
  | .app _ _, _, ⟨a, u, z, e, q, h1, h2⟩ => by subst e; exact .tup (SqT.of q) (.cons (.str _) (.cons h1.dp (.cons h2.dp .nil)))
theorem ne_vc : ¬ (("var" : Str) = "con") := by decide +kernel
theorem ne_cv : ¬ (("con" : Str) = "var") := by decide +kernel
theorem ne_va : ¬ (("var" : Str) = "apply") := by decide +kernel
theorem ne_av : ¬ (("apply" : Str) = "var") := by decide +kernel
theorem ne_ca : ¬ (("con" : Str) = "apply") := by decide +kernel
theorem ne_ac : ¬ (("apply" : Str) = "con") := by decide +kernel
theorem str_beq (x y : Str) : (x == y) = decide (x = y) := by
  rw [Bool.eq_iff_iff]
  simp
theorem eqv_tt (xs ys : List PyData) : PyData.eqv (.tuple xs) (.tuple ys) = PyData.eqvAll xs ys := by rw [PyData.eqv]
theorem eqv_cc (x y : PyData) (xs ys : List PyData) : PyData.eqvAll (x :: xs) (y :: ys) = (PyData.eqv x y && PyData.eqvAll xs ys) := by rw [PyData.eqvAll]
theorem eqv_nn : PyData.eqvAll [] [] = true := by rw [PyData.eqvAll]
theorem eqv_nc (y : PyData) (ys : List PyData) : PyData.eqvAll [] (y :: ys) = false := by rw [PyData.eqvAll]
theorem eqv_cn (y : PyData) (ys : List PyData) : PyData.eqvAll (y :: ys) [] = false := by rw [PyData.eqvAll]
theorem eqv_ss (x y : Str) : PyData.eqv (.str x) (.str y) = decide (x = y) := by rw [PyData.eqv]; exact str_beq x y
theorem Kd.eqv (a b : Kd) : PyData.eqv a.dat b.dat = decide (a = b) := by
  induction a generalizing b with
  | var x =>
    cases b with
    | var y => simp only [Kd.dat, eqv_tt, eqv_cc, eqv_ss, eqv_nn, decide_true, Bool.true_and, Bool.and_true, Kd.var.injEq]
    | con y => simp only [Kd.dat, eqv_tt, eqv_cc, eqv_ss, decide_eq_false ne_vc, Bool.false_and, reduceCtorEq, decide_false]
    | app c d => simp only [Kd.dat, eqv_tt, eqv_cc, eqv_ss, decide_eq_false ne_va, Bool.false_and, reduceCtorEq, decide_false]
  | con x =>
    cases b with
    | con y => simp only [Kd.dat, eqv_tt, eqv_cc, eqv_ss, eqv_nn, decide_true, Bool.true_and, Bool.and_true, Kd.con.injEq]
    | var y => simp only [Kd.dat, eqv_tt, eqv_cc, eqv_ss, decide_eq_false ne_cv, Bool.false_and, reduceCtorEq, decide_false]
    | app c d => simp only [Kd.dat, eqv_tt, eqv_cc, eqv_ss, decide_eq_false ne_ca, Bool.false_and, reduceCtorEq, decide_false]
  | app a1 a2 h1 h2 =>
    cases b with
    | var y => simp only [Kd.dat, eqv_tt, eqv_cc, eqv_ss, decide_eq_false ne_av, Bool.false_and, reduceCtorEq, decide_false]
    | con y => simp only [Kd.dat, eqv_tt, eqv_cc, eqv_ss, decide_eq_false ne_ac, Bool.false_and, reduceCtorEq, decide_false]
    | app c d =>
      simp only [Kd.dat, eqv_tt, eqv_cc, eqv_ss, eqv_nn, h1, h2, decide_true, Bool.true_and, Bool.and_true, Kd.app.injEq, Bool.decide_and]
theorem SqL.extT {K : PySem.W.Frag} {t c : Addr} {b : Nat} {H H' : Hp} {a : Addr} {xs : List V} (h : SqL K H a xs) (hT : Tape K H t c b) (e : Ext t H H') : SqL K H' a xs := by
  obtain ⟨kvs, hk⟩ := hT.dict
  rcases h with (h | ⟨o, h⟩) | h
  · exact .inl (.inl (e _ _ (ne_of h hk (by intro r; cases r)) h))
  · exact .inl (.inr ⟨o, e _ _ (ne_of h hk (by intro r; cases r)) h⟩)
  · exact .inr h
theorem Wok.str {x : Str} (h : Wok x) : PyData.strOk x = true := by
  unfold PyData.strOk
  rw [Array.all_eq_true']
  intro c hc
  have := h.2.2 c (by simpa using hc)
  exact decide_eq_true (by omega)
theorem Kd.lay : ∀ {k : Kd} {n : Nat}, Kd.fit n k → k.dat.canLay0 = true ∧ k.dat.depth ≤ n + 1
  | .var x, n, h => by
    have w : Wok x := by cases n <;> exact h
    refine ⟨?_, ?_⟩
    · simp only [Kd.dat, PyData.canLay0, PyData.canLayAll0, w.str, Bool.and_true]
      decide +kernel
    · simp [Kd.dat, PyData.depth, PyData.depthAll]
  | .con x, n, h => by
    have w : Wok x := by cases n <;> exact h
    refine ⟨?_, ?_⟩
    · simp only [Kd.dat, PyData.canLay0, PyData.canLayAll0, w.str, Bool.and_true]
      decide +kernel
    · simp [Kd.dat, PyData.depth, PyData.depthAll]
  | .app a b, n, h => by
    obtain ⟨m, rfl, h1, h2⟩ := Kd.fit_app h
    obtain ⟨a1, a2⟩ := Kd.lay h1
    obtain ⟨b1, b2⟩ := Kd.lay h2
    refine ⟨?_, ?_⟩
    · simp only [Kd.dat, PyData.canLay0, PyData.canLayAll0, a1, b1, Bool.and_true]
      decide +kernel
    · simp only [Kd.dat, PyData.depth, PyData.depthAll]
      omega
theorem Kd.shaped {k : Kd} {n : Nat} (h : Kd.fit n k) (hn : n ≤ 60) : SeqAt.shaped k.dat = true := by
  obtain ⟨h1, h2⟩ := Kd.lay h
  unfold SeqAt.shaped
  rw [h1, Bool.true_and]
  exact decide_eq_true (by omega)
/-- a list of words -/
theorem dp_words {K : PySem.W.Frag} {H : Hp} : ∀ ws : List Str, DpAll K H (ws.map V.str) (ws.map PyData.str)
  | [] => .nil
  | _ :: r => .cons (.str _) (dp_words r)
theorem lay_words : ∀ {ws : List Str}, (∀ x ∈ ws, Wok x) → PyData.canLayAll0 (ws.map PyData.str) = true ∧ PyData.depthAll (ws.map PyData.str) = 0
  | [], _ => ⟨by simp [PyData.canLayAll0], by simp [PyData.depthAll]⟩
  | x :: r, h => by
    obtain ⟨h1, h2⟩ := lay_words (ws := r) fun y hy => h y (List.mem_cons_of_mem _ hy)
    refine ⟨?_, ?_⟩
    · simp only [List.map_cons, PyData.canLayAll0, PyData.canLay0, (h x List.mem_cons_self).str, h1, Bool.true_and]
    · simp only [List.map_cons, PyData.depthAll, PyData.depth, h2]; rfl
theorem shaped_words {ws : List Str} (h : ∀ x ∈ ws, Wok x) : SeqAt.shaped (.list (ws.map PyData.str)) = true := by
  obtain ⟨h1, h2⟩ := lay_words h
  unfold SeqAt.shaped
  simp only [PyData.canLay0, h1, PyData.depth, h2]
  decide
theorem shaped_nil : SeqAt.shaped (.list []) = true := by decide
/-! ### rows of kinds, dicts of kinds -/
abbrev KdsAt (H : Hp) : List V → List Kd → Prop := Paired (KdAt H)
theorem paired_get {α β : Type} {F : α → β → Prop} : ∀ {xs : List α} {ys : List β} {i : Nat} {x : α}, Paired F xs ys → xs[i]? = some x → ∃ y, ys[i]? = some y ∧ F x y
  | _, _, _, _, .nil, e => by simp at e
  | _, _, 0, _, .cons r _, e => by simp at e; subst e; exact ⟨_, rfl, r⟩
  | _, _, i + 1, x, .cons _ t, e => by
    obtain ⟨y, h1, h2⟩ := paired_get (i := i) (x := x) t (by simpa using e)
    exact ⟨y, by simpa using h1, h2⟩
theorem paired_map {α β : Type} {F G : α → β → Prop} (h : ∀ a b, F a b → G a b) : ∀ {xs : List α} {ys : List β}, Paired F xs ys → Paired G xs ys
  | _, _, .nil => .nil
  | _, _, .cons r t => .cons (h _ _ r) (paired_map h t)
theorem KdsAt.tups {H H' : Hp} (h : Tups H H') {xs : List V} {ks : List Kd} (r : KdsAt H xs ks) : KdsAt H' xs ks := paired_map (fun _ _ q => KdAt.tups h q) r
theorem KdsAt.dp {K : PySem.W.Frag} {H : Hp} : ∀ {xs : List V} {ks : List Kd}, KdsAt H xs ks → DpAll K H xs (ks.map Kd.dat)
  | _, _, .nil => .nil
  | _, _, .cons r t => .cons r.dp (KdsAt.dp t)
abbrev By := List (Str × Kd)
def lk (by' : By) (x : Str) : Option Kd := (by'.find? fun p => decide (p.1 = x)).map (·.2)
theorem lk_nil (x : Str) : lk [] x = none := rfl
theorem lk_pos {p : Str × Kd} {r : By} {x : Str} (e : p.1 = x) : lk (p :: r) x = some p.2 := by simp [lk, List.find?_cons, e]
theorem lk_neg {p : Str × Kd} {r : By} {x : Str} (e : ¬ p.1 = x) : lk (p :: r) x = lk r x := by simp [lk, List.find?_cons, e]
abbrev ByAt (H : Hp) : List (Key × V) → By → Prop := Paired fun p q => p.1 = .inr q.1 ∧ KdAt H p.2 q.2
theorem ByAt.tups {H H' : Hp} (h : Tups H H') {kvs : List (Key × V)} {by' : By} (r : ByAt H kvs by') : ByAt H' kvs by' := paired_map (fun _ _ q => ⟨q.1, KdAt.tups h q.2⟩) r
theorem ByAt.get {H : Hp} (x : Str) : ∀ {kvs : List (Key × V)} {by' : By}, ByAt H kvs by' → (valV kvs (.inr x) = none ∧ lk by' x = none) ∨ ∃ v k, valV kvs (.inr x) = some v ∧ lk by' x = some k ∧ KdAt H v k
  | _, _, .nil => .inl ⟨rfl, rfl⟩
  | p :: kvs, q :: by', .cons r t => by
    by_cases e : q.1 = x
    · exact .inr ⟨p.2, q.2, valV_pos (by rw [r.1, e]), lk_pos e, r.2⟩
    · have e' : ¬ p.1 = (.inr x : Key) := by
        rw [r.1]
        intro z
        exact e (Sum.inr.inj z)
      rw [valV_neg e', lk_neg e]
      exact ByAt.get x t
def Kd.put (by' : By) : Kd → Kd
  | .var x => (lk by' x).getD (.var x)
  | .con x => .con x
  | .app a b => .app (a.put by') (b.put by')
def conK (x : Str) (ks : List Kd) : Kd := ks.foldl Kd.app (.con x)
theorem conK_snoc (x : Str) (ks : List Kd) (k : Kd) : conK x (ks ++ [k]) = .app (conK x ks) k := by
  unfold conK
  rw [List.foldl_append]
  rfl
theorem Kd.fit_put {by' : By} {m : Nat} (hb : ∀ x k, lk by' x = some k → Kd.fit m k) : ∀ {k : Kd} {n : Nat}, Kd.fit n k → Kd.fit (n + m) (k.put by')
  | .var x, n, h => by
    have w : Wok x := by cases n <;> exact h
    show Kd.fit (n + m) ((lk by' x).getD (.var x))
    cases e : lk by' x with
    | none =>
      show Kd.fit (n + m) (.var x)
      generalize n + m = j
      cases j <;> exact w
    | some k => exact Kd.fit_mono (by omega) (hb x k e)
  | .con x, n, h => by
    have w : Wok x := by cases n <;> exact h
    show Kd.fit (n + m) (.con x)
    generalize n + m = j
    cases j <;> exact w
  | .app a b, n, h => by
    obtain ⟨j, rfl, h1, h2⟩ := Kd.fit_app h
    show Kd.fit (j + 1 + m) (.app (a.put by') (b.put by'))
    rw [show j + 1 + m = j + m + 1 by omega]
    exact ⟨Kd.fit_put hb h1, Kd.fit_put hb h2⟩
theorem fitV {n : Nat} {x : Str} (w : Wok x) : Kd.fit n (.var x) := by cases n <;> exact w
theorem fitC {n : Nat} {x : Str} (w : Wok x) : Kd.fit n (.con x) := by cases n <;> exact w
theorem wok_of_var {n : Nat} {x : Str} (h : Kd.fit n (.var x)) : Wok x := by cases n <;> exact h
theorem wok_of_con {n : Nat} {x : Str} (h : Kd.fit n (.con x)) : Wok x := by cases n <;> exact h
theorem fit_fold {j : Nat} : ∀ {ks : List Kd} {h : Kd} {i : Nat}, Kd.fit i h → (∀ k ∈ ks, Kd.fit j k) → j ≤ i → Kd.fit (i + ks.length) (ks.foldl Kd.app h)
  | [], h, i, h1, _, _ => h1
  | k :: r, h, i, h1, h2, h3 => by
    have q : Kd.fit (i + 1) (.app h k) := ⟨h1, Kd.fit_mono h3 (h2 k List.mem_cons_self)⟩
    have z := fit_fold (ks := r) q (fun y hy => h2 y (List.mem_cons_of_mem _ hy)) (by omega)
    rw [List.length_cons, show i + (r.length + 1) = i + 1 + r.length by omega]
    exact z
theorem fit_conK {j : Nat} {x : Str} {ks : List Kd} (w : Wok x) (h : ∀ k ∈ ks, Kd.fit j k) : Kd.fit (j + ks.length) (conK x ks) := fit_fold (fitC w) h (Nat.le_refl _)
theorem eqv_ll (xs ys : List PyData) : PyData.eqv (.list xs) (.list ys) = PyData.eqvAll xs ys := by rw [PyData.eqv]
theorem words_ne {ws : List Str} : (!PyData.eqv (.list (ws.map PyData.str)) (.list [])) = !ws.isEmpty := by
  rw [eqv_ll]
  cases ws with
  | nil => rw [List.map_nil, eqv_nn]; rfl
  | cons x r => rw [List.map_cons, eqv_cn]; rfl
/-- rows (word, how many parts) -/
def ConsAt (K : PySem.W.Frag) (H : Hp) (l : Addr) : Prop := ∃ xs, SqL K H l xs ∧ 0 < xs.length ∧ xs.length < 1000 ∧ ∀ v ∈ xs, ∃ (a : Addr) (x : Str) (m : Nat), v = .ref a ∧ H a = some (.tup [.str x, .int (m : Int)]) ∧ m ≤ 2 ∧ Wok x
theorem ConsAt.ext {K : PySem.W.Frag} {t c : Addr} {b : Nat} {H H' : Hp} {l : Addr} (h : ConsAt K H l) (hT : Tape K H t c b) (e : Ext t H H') : ConsAt K H' l := by
  obtain ⟨xs, h1, h2, h3, h4⟩ := h
  refine ⟨xs, SqL.extT h1 hT e, h2, h3, fun v hv => ?_⟩
  obtain ⟨a, x, m, e1, e2, e3, e4⟩ := h4 v hv
  exact ⟨a, x, m, e1, Ext.tups e hT _ _ e2, e3, e4⟩
/-- the variables of kinds are among some words -/
def Kd.of (ws : List Str) : Kd → Prop
  | .var x => x ∈ ws
  | .con _ => True
  | .app a b => Kd.of ws a ∧ Kd.of ws b
theorem of_fold {ws : List Str} : ∀ {ks : List Kd} {h : Kd}, Kd.of ws h → (∀ k ∈ ks, Kd.of ws k) → Kd.of ws (ks.foldl Kd.app h)
  | [], _, h1, _ => h1
  | k :: r, h, h1, h2 => of_fold (ks := r) (h := .app h k) ⟨h1, h2 k List.mem_cons_self⟩ fun y hy => h2 y (List.mem_cons_of_mem _ hy)
theorem of_conK {ws : List Str} {x : Str} {ks : List Kd} (h : ∀ k ∈ ks, Kd.of ws k) : Kd.of ws (conK x ks) := of_fold (h := .con x) trivial h
/-! ### recursion -/
theorem fn_false {P : Program} {w : World} {K : PySem.W.Frag} {mg : Str → Option Value} {base : Heap} {f : Addr} {fd : FuncData} {ps : List Str} : FnOk P w K mg base CX0 0 f fd ps (fun _ _ _ _ => False) :=
  ⟨fun _ _ _ _ h => h.elim, fun _ _ _ _ _ _ _ _ _ _ _ _ _ h => h.elim⟩
end L3

namespace L3
open PySem L2
def topS (i : Nat) : Stmt := PySem.Challenge.pw_leastneeds_k08_whole_patterns_that_fit.main.body.getD i (.Pass ⟨0, 0, 0, 0⟩)
section
variable {P : Program} {w : World} {K : PySem.W.Frag} {mg : Str → Option Value} {base : Heap}

abbrev s__law_begin : Stmt := topS 4
abbrev N__law_begin : List Str := ["_law_script"]
theorem sc__law_begin : FnScope N__law_begin ["_law_script"] (defScope s__law_begin) := ⟨rfl, rfl, rfl, by decide +kernel, rfl, by decide +kernel, by decide +kernel⟩
def spBegin (K : PySem.W.Frag) : Sp := fun vs H Q _ => ∃ (a : Addr) (ns : List Int), vs = [.ref a] ∧ SqL K H a (ns.map V.int) ∧ ∀ (H' : Hp) (t c : Addr), Same H H' → H t = none → Tape K H' t c 1000000 → Q (.ref t) H'
theorem cut63 (ns : List Int) : cutV (ns.map V.int) none (some 63) = (ns.take 63).map V.int := by
  unfold cutV
  rw [HT.sIx_none, show (63 : Int) = ((63 : Nat) : Int) from rfl, HT.sIx_nat, List.drop_zero, List.length_map, Nat.sub_zero, List.map_take]
  by_cases h : 63 ≤ ns.length
  · rw [Nat.min_eq_left h]
  · rw [Nat.min_eq_right (by omega), List.take_of_length_le (by simp), List.take_of_length_le (by simp; omega)]
theorem ok_begin {f : Addr} {fd : FuncData} (F : Fun K "_law_begin" "_law_begin" s__law_begin f fd) : FnOk P w K mg base CX0 1 f fd ["_law_script"] (spBegin K) := by
  refine F.ok sc__law_begin (fun vs H Q E h => ?_) (fun cdv A outer s H vs Q E hr h => ?_)
  · obtain ⟨a, ns, rfl, _⟩ := h
    rfl
  · obtain ⟨a, ns, rfl, hS, k⟩ := h
    refine ⟨_, (pss_one (ps_ret (pe_disp (pps_cons pe_str (pe_orT (pe_slice sl_list (pv 0) po_none (po_some pe_int)) (pe_one (pe_lst (pa_cons pe_int pa_nil)))) (pps_cons pe_str pe_int (pps_cons pe_str pe_int pps_nil))) (by rfl) (by rfl) (fun z => by cases z) (by decide)))), ?_⟩
    intro t ht
    have s0 : Same H (upd H t (.dK [])) := same_new ht
    refine ⟨_, rfl, _, rfl, a, _, rfl, s0.seq hS, fun q hq => ?_⟩
    rw [cut63]
    have nq : t ≠ q := fun e => by
      rw [← e, upd_same] at hq
      cases hq
    have s1 : Same (upd H t (.dK [])) (upd (upd H t (.dK [])) q (.lst ((ns.take 63).map V.int))) := same_new hq
    -- what stands at the end
    have fin : ∀ (H2 : Hp) (c : Addr) (ms : List Int), Same (upd H t (.dK [])) H2 → H2 c = some (.lst (ms.map V.int)) → c ≠ t → 0 < ms.length → ms.length ≤ 63 →
        H2 t = some (.dK []) ∧ ∃ kvs : List (Key × V), [(V.str "cells", V.ref c), (V.str "place", V.int 0), (V.str "left", V.int 0)] = kvs.map (fun kv => (kV kv.1, kv.2)) ∧ kvs.length ≤ 15 ∧ Q (.ref t) (upd H2 t (.dK (mergeK [] kvs))) := by
      intro H2 c ms h2 hc nc h0 h63
      refine ⟨h2 _ _ upd_same, tp c 0 0, rfl, by show 3 ≤ 15; decide, ?_⟩
      refine k _ t c (fun b o e => ?_) ht ⟨0, 0, ms, ?_, SqL.of ?_, nc, h0, h63, by omega, by omega, by omega⟩
      · have n : b ≠ t := ne_of_none e ht
        rw [upd_ne n]
        exact h2 _ _ (s0 _ _ e)
      · rw [upd_same]
        rfl
      · rw [upd_ne nc]
        exact hc
    refine ⟨_, .inl ⟨_, SqL.of upd_same, rfl⟩, ?_⟩
    cases hns : ns.take 63 with
    | nil =>
      rw [hns] at s1
      refine iteF ?_
      refine ⟨by decide, fun r hr2 => ?_⟩
      refine fin _ r [0] (s1.trans (same_new hr2)) upd_same (fun e => ?_) (by decide) (by decide)
      rw [e, upd_ne nq, upd_same] at hr2
      cases hr2
    | cons z zs =>
      refine iteT ?_
      refine fin _ q (z :: zs) (by rw [← hns]; exact s1) (by rw [upd_same]) nq.symm (Nat.zero_lt_succ _) ?_
      rw [← hns, List.length_take]
      omega

/-! ### a number from the tape -/
abbrev s__law_draw : Stmt := topS 5
abbrev N__law_draw : List Str := ["_law_tape", "_law_many", "_law_spot", "_law_size", "_law_cell", "_law_got"]
theorem sc__law_draw : FnScope N__law_draw ["_law_tape", "_law_many"] (defScope s__law_draw) := ⟨rfl, rfl, rfl, by decide +kernel, rfl, by decide +kernel, by decide +kernel⟩
theorem get_left {H : Hp} {t c : Addr} {p l : Int} (h : H t = some (.dK (tp c p l))) : DGet H t (.str "left") (some (.int l)) := DGet.k (k := .inr "left") h
theorem get_place {H : Hp} {t c : Addr} {p l : Int} (h : H t = some (.dK (tp c p l))) : DGet H t (.str "place") (some (.int p)) := DGet.k (k := .inr "place") h
theorem get_cells {H : Hp} {t c : Addr} {p l : Int} (h : H t = some (.dK (tp c p l))) : DGet H t (.str "cells") (some (.ref c)) := DGet.k (k := .inr "cells") h
theorem put_left {H : Hp} {t c : Addr} {p l q : Int} (h : H t = some (.dK (tp c p l))) : DPut H t (.str "left") (.int q) (upd H t (.dK (tp c p q))) := DPut.k (k := .inr "left") (v := .int q) h (by show 3 < sizeLine; decide)
theorem put_place {H : Hp} {t c : Addr} {p l q : Int} (h : H t = some (.dK (tp c p l))) : DPut H t (.str "place") (.int q) (upd H t (.dK (tp c q l))) := DPut.k (k := .inr "place") (v := .int q) h (by show 3 < sizeLine; decide)
def spDraw (K : PySem.W.Frag) : Sp := fun vs H Q _ => ∃ (t c : Addr) (n : Int) (b : Nat), vs = [.ref t, .int n] ∧ 1 ≤ n ∧ n < 1000000 ∧ Tape K H t c (b + 1) ∧
  ∀ (H' : Hp) (r : Int), Ext t H H' → Tape K H' t c b → 0 ≤ r → r < n → Q (.int r) H'
theorem ok_draw {f : Addr} {fd : FuncData} (F : Fun K "_law_draw" "_law_draw" s__law_draw f fd) (B : Bl mg) : FnOk P w K mg base CX0 1 f fd ["_law_tape", "_law_many"] (spDraw K) := by
  refine F.ok sc__law_draw (fun vs H Q E h => ?_) (fun cdv A outer s H vs Q E hr h => ?_)
  · obtain ⟨t, c, n, b, rfl, _⟩ := h
    rfl
  · obtain ⟨t, c, n, b, rfl, hn1, hn2, ⟨p, l, ns, h1, h2, h3, h4, h5, h6, h7, h8⟩, k⟩ := h
    have hu := hu_of hr
    refine ⟨_, (pss_cons (ps_if (pt_cmpR op_lt (pe_dget hu (pv 0) pe_str (fun _ _ => rfl)) (pv 1) (nomark _))
  (pss_cons (ps_par (i := 2) (j := 3) (by rfl) sc__law_draw.nd rfl rfl (by decide) rfl rfl (pa_cons (pe_dget hu (pv 0) pe_str (fun _ _ => rfl)) (pa_cons (pe_callB call_len (by rfl) B.len PySem.boot_len (pa_cons (pe_dget hu (pv 0) pe_str (fun _ _ => rfl)) pa_nil)) pa_nil)) (by rfl))
  (pss_cons (ps_asg (pe_tup (pa_cons (pe_ix ix_list (pe_dget hu (pv 0) pe_str (fun _ _ => rfl)) (pe_op op_mod (pe_callTy call_int1 (by rfl) B.int (by decide +kernel) (pa_cons (pv 2) pa_nil)) (pv 3)) (fun _ _ => rfl)) (pa_cons (pe_op op_add (pv 2) pe_int) pa_nil))) (pg_tup (by rfl) (pgs_cons (pg_name (i := 4) sc__law_draw.nd rfl (Or.inl rfl)) (pgs_cons (pg_sub (pv 0) pe_str (set_dict hu)) pgs_nil))))
  (pss_cons (ps_dput hu (pv 0) pe_str (pe_op op_mod (pe_callTy call_int1 (by rfl) B.int (by decide +kernel) (pa_cons (pe_op op_pow (pe_op op_add (pe_op op_add (pe_op op_mod (pe_callTy call_int1 (by rfl) B.int (by decide +kernel) (pa_cons (pv 4) pa_nil)) pe_int) (pe_op op_mul pe_int (pv 2))) pe_int) pe_int) pa_nil)) (pe_op op_add (pe_op op_pow pe_int pe_int) pe_int)) rfl)
  (pss_one (ps_if (PW.pt (pw_and (pt_cmpR op_ge (pv 4) (pe_op op_pow pe_int pe_int) (nomark _)) (pw_and1 (pt_cmpR op_lt (pv 2) (pv 3) (nomark _)))))
  (pss_one (ps_dput hu (pv 0) pe_str (pe_op op_sub (pv 4) (pe_op op_pow pe_int pe_int)) rfl))
  pss_nil)))))
  pss_nil)
  (pss_cons (ps_asg (pe_tup (pa_cons (pe_op op_mod (pe_callTy call_int1 (by rfl) B.int (by decide +kernel) (pa_cons (pe_dget hu (pv 0) pe_str (fun _ _ => rfl)) pa_nil)) (pv 1)) (pa_cons (pe_op op_fdivN (pe_dget hu (pv 0) pe_str (fun _ _ => rfl)) (pv 1)) pa_nil))) (pg_tup (by rfl) (pgs_cons (pg_name (i := 5) sc__law_draw.nd rfl (Or.inl rfl)) (pgs_cons (pg_sub (pv 0) pe_str (set_dict hu)) pgs_nil))))
  (pss_one (ps_ret (pv 5))))), ?_⟩
    -- the last two rows, from any tape
    have fin : ∀ (H1 : Hp) (p l : Int) (v2 v3 v4 : Option V), Ext t H H1 → H1 t = some (.dK (tp c p l)) → SqL K H1 c (ns.map V.int) → 0 ≤ p → p + b ≤ 1000000 → 0 ≤ l →
        tSeq (tAsg (tTup (tCons (tOp (rI (fun _ j => 0 < j) fun i j => .int (i % j)) (tCB (fun xs H Q => (∃ i, xs = [.int i] ∧ Q (.int i) H) ∨ ∃ k, xs = [.bl k] ∧ Q (.int (if k then 1 else 0)) H) (tCons (tDGet (tVar 0) (tC (.str "left"))) tNil)) (tVar 1)) (tCons (tOp (rI CDivN fun i j => .int (i.fdiv j)) (tDGet (tVar 0) (tC (.str "left"))) (tVar 1)) tNil)))
          (gTup K 2 (gCons (gName 5) (gCons (gSub (tVar 0) (tC (.str "left")) rSetD) gNil)))) (tRet (tVar 5)) { nx := fun _ H' => Q .non H', rt := Q } [some (.ref t), some (.int n), v2, v3, v4, none] H1 := by
      intro H1 p l v2 v3 v4 e1 g1 g2 g3 g4 g5
      refine ⟨_, rfl, _, _, rfl, get_left g1, .inl ⟨_, rfl, _, rfl, _, _, rfl, rfl, (by omega), ?_⟩⟩
      refine ⟨_, rfl, _, _, rfl, get_left g1, _, rfl, _, _, rfl, rfl, ⟨by omega, by omega⟩, slz rfl, fun q hq => ?_⟩
      have nq : t ≠ q := ne_of_none g1 hq
      refine ⟨q, _, rfl, SqT.of upd_same, rfl, _, _, rfl, _, _, rfl, _, rfl, t, _, rfl, put_left (by rw [upd_ne nq]; exact g1), rfl, ?_⟩
      refine ⟨_, rfl, ?_⟩
      have e2 : Ext t H (upd H1 q (.tup [.int (l % n), .int (l.fdiv n)])) := e1.trans (Ext.new hq)
      refine k _ _ (e2.trans Ext.put) ⟨p, l.fdiv n, ns, upd_same, (SqL.ext g2 ((Ext.new hq).trans Ext.put) h3), h3, h4, h5, g3, g4, Int.fdiv_nonneg g5 (by omega)⟩ (Int.emod_nonneg _ (by omega)) (Int.emod_lt_of_pos _ (by omega))
    refine ⟨_, rfl, _, _, rfl, get_left h1, _, rfl, _, _, rfl, rfl, _, rfl, ?_⟩
    refine ite2 (fun hc => ?_) (fun hc => ?_)
    · refine ⟨_, rfl, _, _, rfl, get_place h1, _, rfl, _, _, rfl, get_cells h1, _, _, rfl, .inl ⟨_, h2, rfl⟩, _, _, rfl, ?_⟩
      have hm : p % ((ns.map V.int).length : Int) = ((p % ((ns.map V.int).length : Int)).toNat : Int) := (Int.toNat_of_nonneg (Int.emod_nonneg _ (by rw [List.length_map]; omega))).symm
      have hlt : (p % ((ns.map V.int).length : Int)).toNat < ns.length := by
        have := Int.emod_lt_of_pos p (show (0 : Int) < ((ns.map V.int).length : Int) by rw [List.length_map]; omega)
        rw [List.length_map] at this ⊢
        omega
      refine ⟨_, rfl, _, _, rfl, get_cells h1, _, rfl, .inl ⟨_, rfl, _, rfl, _, _, rfl, rfl, (by rw [List.length_map]; omega), c, _, _, V.int (ns[(p % ((ns.map V.int).length : Int)).toNat]), rfl, rfl, h2, at_of hm (by rw [List.getElem?_map, List.getElem?_eq_getElem hlt]; rfl), ?_⟩⟩
      generalize ns[(p % ((ns.map V.int).length : Int)).toNat] = cell
      refine ⟨_, rfl, _, _, rfl, rfl, slz rfl, fun q hq => ?_⟩
      have nq : t ≠ q := ne_of_none h1 hq
      have g0 : (upd H q (.tup [.int cell, .int (p + 1)])) t = some (.dK (tp c p l)) := by rw [upd_ne nq]; exact h1
      refine ⟨q, _, rfl, SqT.of upd_same, rfl, _, _, rfl, _, _, rfl, _, rfl, t, _, rfl, put_place g0, rfl, ?_⟩
      have e1 : Ext t H (upd (upd H q (.tup [.int cell, .int (p + 1)])) t (.dK (tp c (p + 1) l))) := (Ext.new hq).trans Ext.put
      have hu1 : 0 ≤ cell % 2147483587 := Int.emod_nonneg _ (by decide)
      have hu2 : cell % 2147483587 < 2147483587 := Int.emod_lt_of_pos _ (by decide)
      refine ⟨_, rfl, .inl ⟨_, rfl, _, _, rfl, rfl, (show (0 : Int) < 2147483587 by decide), _, rfl, _, _, rfl, rfl, .inr ⟨by omega, by omega⟩, _, _, rfl, rfl, _, _, rfl, rfl, ?_⟩⟩
      refine ⟨_, _, rfl, rfl, ⟨by decide, by decide, ?_⟩, .inl ⟨_, rfl, ?_⟩⟩
      · show (cell % 2147483587 + 48271 * p + 16807).natAbs < 2 ^ 64
        omega
      generalize (cell % 2147483587 + 48271 * p + 16807) ^ (13 : Int).toNat = big
      refine ⟨_, _, rfl, rfl, ⟨by decide, by decide, by decide⟩, _, _, rfl, rfl, _, _, rfl, rfl, (show (0 : Int) < 10 ^ (50 : Int).toNat + 57 by decide +kernel), ?_⟩
      refine ⟨_, rfl, t, _, rfl, put_left upd_same, ?_⟩
      have hl : 0 ≤ big % (10 ^ (50 : Int).toNat + 57) := Int.emod_nonneg _ (by decide +kernel)
      generalize big % (10 ^ (50 : Int).toNat + 57) = l2 at hl ⊢
      have e3 : Ext t H (upd (upd (upd H q (.tup [.int cell, .int (p + 1)])) t (.dK (tp c (p + 1) l))) t (.dK (tp c (p + 1) l2))) := e1.trans Ext.put
      refine ⟨_, rfl, _, _, rfl, rfl, ⟨by decide, by decide, by decide⟩, _, _, rfl, rfl, _, rfl, ?_⟩
      refine ite2 (fun hc1 => ?_) (fun hc1 => ?_)
      · refine ⟨_, rfl, _, rfl, _, _, rfl, rfl, _, rfl, ?_⟩
        refine ite2 (fun hc2 => ?_) (fun hc2 => ?_)
        · refine ⟨_, rfl, _, _, rfl, rfl, ⟨by decide, by decide, by decide⟩, _, _, rfl, rfl, ?_⟩
          refine ⟨_, rfl, t, _, rfl, put_left upd_same, ?_⟩
          have hc3 : (10 : Int) ^ (18 : Int).toNat ≤ cell := of_decide_eq_true hc1
          exact fin _ (p + 1) _ _ _ _ (e3.trans Ext.put) upd_same (SqL.ext h2 (e3.trans Ext.put) h3) (by omega) (by omega) (by omega)
        · exact fin _ (p + 1) _ _ _ _ e3 upd_same (SqL.ext h2 e3 h3) (by omega) (by omega) hl
      · refine iteF ?_
        exact fin _ (p + 1) _ _ _ _ e3 upd_same (SqL.ext h2 e3 h3) (by omega) (by omega) hl
    · exact fin H p l none none none (Ext.refl _ _) h1 h2 h6 (by omega) h8
end
end L3

namespace L3
open PySem L2
section
variable {P : Program} {w : World} {K : PySem.W.Frag} {mg : Str → Option Value} {base : Heap}
theorem Fun.kn {x : Str} {st : Stmt} {f : Addr} {fd : FuncData} {k : Nat} {ps : List Str} {sp : Sp} (F : Fun K x x st f fd) (hm : mg x = some (.ref f)) (h : FnOk P w K mg base CX0 k f fd ps sp)
    (b : ∀ (kV doc pm : Value) (an : Option Addr) (cdv ct : Value) (us : List Value), us.length = ps.length → bindArgs (PySem.W.fnOf x x (defArgs st) (defBody st) (defScope st) .none kV doc pm an cdv ct) ⟨us, []⟩ = pure (ps.zip us)) : Kn P w K mg base k x ps sp :=
  ⟨f, fd, h, hm, F.kp, F.binds b⟩
abbrev s__law_pick : Stmt := topS 6
abbrev N__law_pick : List Str := ["_law_tape", "_law_items"]
theorem sc__law_pick : FnScope N__law_pick ["_law_tape", "_law_items"] (defScope s__law_pick) := ⟨rfl, rfl, rfl, by decide +kernel, rfl, by decide +kernel, by decide +kernel⟩
def spPick (K : PySem.W.Frag) : Sp := fun vs H Q _ => ∃ (t c l : Addr) (xs : List V) (b : Nat), vs = [.ref t, .ref l] ∧ SqL K H l xs ∧ 0 < xs.length ∧ xs.length < 1000000 ∧ Tape K H t c (b + 1) ∧
  ∀ (H' : Hp) (v : V), Ext t H H' → Tape K H' t c b → v ∈ xs → Q v H'
theorem ok_pick {f : Addr} {fd : FuncData} (F : Fun K "_law_pick" "_law_pick" s__law_pick f fd) (B : Bl mg) (D__law_draw : Kn P w K mg base 1 "_law_draw" ["_law_tape", "_law_many"] (spDraw K)) : FnOk P w K mg base CX0 2 f fd ["_law_tape", "_law_items"] (spPick K) := by
  refine F.ok sc__law_pick (fun vs H Q E h => ?_) (fun cdv A outer s H vs Q E hr h => ?_)
  · obtain ⟨t, c, l, xs, b, rfl, _⟩ := h
    rfl
  · obtain ⟨t, c, l, xs, b, rfl, h1, h2, h3, h4, k⟩ := h
    have hr__law_draw := hr
    refine ⟨_, (pss_one (ps_ret (pe_ix ix_list (pv 1) (pe_kn D__law_draw hr__law_draw (pa_cons (pv 0) (pa_cons (pe_callB call_len (by rfl) B.len PySem.boot_len (pa_cons (pv 1) pa_nil)) pa_nil))) (fun _ _ => rfl)))), ?_⟩
    refine ⟨_, rfl, _, rfl, _, rfl, _, _, rfl, .inl ⟨_, h1, rfl⟩, t, c, _, b, rfl, by omega, by omega, h4, fun H' r e1 e2 r1 r2 => ?_⟩
    have hj : r = (r.toNat : Int) := (Int.toNat_of_nonneg r1).symm
    have hlt : r.toNat < xs.length := by omega
    exact ⟨l, xs, r, xs[r.toNat], rfl, rfl, SqL.extT h1 h4 e1, at_of hj (List.getElem?_eq_getElem hlt), k H' _ e1 e2 (List.getElem_mem hlt)⟩

/-! ### words -/
def sgn (j : Nat) : Str := ⟨#[97 + j]⟩
def mkW (rest : Str) (d : Bool) (c : Str) : Str := if d then rest ++ c else c ++ rest
abbrev s__law_words : Stmt := topS 7
abbrev N__law_words : List Str := ["_law_tape", "_law_many", "_law_rest", "_law_first", "_law_letters", "_law_is_behind", "_law_k", "_law_letter"]
theorem sc__law_words : FnScope N__law_words ["_law_tape", "_law_many"] (defScope s__law_words) := ⟨rfl, rfl, rfl, by decide +kernel, rfl, by decide +kernel, by decide +kernel⟩
def rests : List Str := ["", "x", "oo", "zzzz", "ery", "bbbbbbb"]
def lets (first n : Nat) : List Str := (List.range n).map fun k => sgn ((first + 7 * k) % 26)
def spWords (K : PySem.W.Frag) : Sp := fun vs H Q _ => ∃ (t c : Addr) (n b : Nat), vs = [.ref t, .int (n : Int)] ∧ n ≤ 100 ∧ Tape K H t c (b + 3) ∧
  ∀ (H' : Hp) (l : Addr) (rest : Str) (first : Nat) (d : Bool), Ext t H H' → Tape K H' t c b → H l = none → rest ∈ rests → first < 26 → H' l = some (.lst (((lets first n).map (mkW rest d)).map V.str)) → Q (.ref l) H'
theorem at_ofG {α : Type} {xs : List α} {z : Int} {j : Nat} {v : α} (e : z = (j : Int)) (h : xs[j]? = some v) : atI xs z = some v := by
  rw [e]
  exact atI_nat h
theorem abc_at : ∀ j : Nat, j < 26 → ("abcdefghijklmnopqrstuvwxyz" : Str).cps.toList[j]? = some (97 + j) := by decide +kernel
theorem lets_succ (first n : Nat) : lets first (n + 1) = lets first n ++ [sgn ((first + 7 * n) % 26)] := by
  unfold lets
  rw [List.range_succ, List.map_append]
  rfl
theorem lets_length (first n : Nat) : (lets first n).length = n := by
  unfold lets
  rw [List.length_map, List.length_range]
theorem rests_len : ∀ r ∈ rests, r.length ≤ 7 := by decide +kernel
theorem ok_words {f : Addr} {fd : FuncData} (F : Fun K "_law_words" "_law_words" s__law_words f fd) (B : Bl mg) (D__law_draw : Kn P w K mg base 1 "_law_draw" ["_law_tape", "_law_many"] (spDraw K)) (D__law_pick : Kn P w K mg base 2 "_law_pick" ["_law_tape", "_law_items"] (spPick K)) :
    FnOk P w K mg base CX0 3 f fd ["_law_tape", "_law_many"] (spWords K) := by
  refine F.ok sc__law_words (fun vs H Q E h => ?_) (fun cdv A outer s H vs Q E hr h => ?_)
  · obtain ⟨t, c, n, b, rfl, _⟩ := h
    rfl
  · obtain ⟨t, c, n, b, rfl, hn, hT, k⟩ := h
    have hr__law_draw : Room 1 _ := hr.mono (by decide)
    have hr__law_pick : Room 2 _ := hr
    refine ⟨_, (pss_cons (ps_asg (pe_tup (pa_cons (pe_kn D__law_pick hr__law_pick (pa_cons (pv 0) (pa_cons (pe_lst (pa_cons pe_str (pa_cons pe_str (pa_cons pe_str (pa_cons pe_str (pa_cons pe_str (pa_cons pe_str pa_nil))))))) pa_nil))) (pa_cons (pe_kn D__law_draw hr__law_draw (pa_cons (pv 0) (pa_cons pe_int pa_nil))) pa_nil))) (pg_tup (by rfl) (pgs_cons (pg_name (i := 2) sc__law_words.nd rfl (Or.inr rfl)) (pgs_cons (pg_name (i := 3) sc__law_words.nd rfl (Or.inr rfl)) pgs_nil))))
  (pss_cons (ps_setLc (i := 4) (own := [("_law_k", 6)]) rfl sc__law_words.nd rfl rfl (sw_true rfl rfl rfl (by decide +kernel)) (pi_range1 (by rfl) B.range (pa_cons (pv 1) pa_nil)) (blkOk_by (N := N__law_words) (sc := (defScope s__law_words)) (own := [("_law_k", 6)]) (by decide +kernel)) (fun _ _ _ _ _ => (pg_name (i := 6) sc__law_words.nd rfl (Or.inl rfl))) (fun _ _ _ _ _ => pts_nil) (fun _ _ _ _ _ => (pe_ix ix_str pe_str (pe_op op_mod (pe_callTy call_int1 (by rfl) B.int (by decide +kernel) (pa_cons (pe_op op_add (pv 3) (pe_op op_mul pe_int (pv 6))) pa_nil)) pe_int) (fun _ _ => rfl))))
  (pss_cons (ps_set (i := 5) sc__law_words.nd rfl (Or.inr rfl) (pe_cmpR op_eq (pe_kn D__law_draw hr__law_draw (pa_cons (pv 0) (pa_cons pe_int pa_nil))) pe_int (nomark _)))
  (pss_one (ps_ret (pe_lc (own := [("_law_letter", 7)]) rfl sc__law_words.nd (pi_list (pv 4)) (blkOk_by (N := N__law_words) (sc := (defScope s__law_words)) (own := [("_law_letter", 7)]) (by decide +kernel)) (fun _ _ _ _ _ => (pg_name (i := 7) sc__law_words.nd rfl (Or.inl rfl))) (fun _ _ _ _ _ => pts_nil) (fun _ _ _ _ _ => (pe_ifExp (pt_val (pv 5)) (pe_op op_add_str (pv 2) (pv 7)) (pe_op op_add_str (pv 7) (pv 2)))))))))), ?_⟩
    refine ⟨_, rfl, slz rfl, fun l0 hl0 => ?_⟩
    refine ⟨t, c, l0, rests.map V.str, b + 2, rfl, SqL.of upd_same, by decide, by decide, hT.new hl0, fun H1 v e1 T1 hv => ?_⟩
    obtain ⟨rest, hrest, rfl⟩ := List.mem_map.mp hv
    refine ⟨_, rfl, t, c, 26, b + 1, rfl, by decide, by decide, T1, fun H2 r e2 T2 r1 r2 => ?_⟩
    obtain ⟨first, rfl⟩ : ∃ m : Nat, r = (m : Int) := ⟨r.toNat, (Int.toNat_of_nonneg r1).symm⟩
    have hf : first < 26 := by omega
    refine ⟨slz rfl, fun q hq => ⟨q, _, rfl, SqT.of upd_same, rfl, _, _, rfl, _, _, rfl, rfl, ?_⟩⟩
    have E2 : Ext t H (upd H2 q (.tup [.str rest, .int (first : Int)])) := (((Ext.new hl0).trans e1).trans e2).trans (Ext.new hq)
    have T3 := T2.new (o := .tup [.str rest, .int (first : Int)]) hq
    generalize upd H2 q (.tup [.str rest, .int (first : Int)]) = H3 at E2 T3 ⊢
    refine ⟨_, rfl, (n : Int), rfl, by omega, by omega, fun D hD => ?_⟩
    refine lc_range (lo := 0) (n := n) (fun i H' => Same H3 H' ∧ H' D = some (.lst ((lets first i).map V.str))) ⟨same_new hD, upd_same⟩ (fun i H' hi ⟨s1, g1⟩ => ⟨rfl, ?_⟩) (fun H4 ⟨s4, g4⟩ => ?_)
    · refine ⟨_, rfl, _, rfl, _, _, rfl, rfl, .inl ⟨by decide, by decide⟩, _, _, rfl, rfl, .inl ⟨_, rfl, ?_⟩⟩
      refine ⟨_, _, rfl, rfl, (show (0 : Int) < 26 by decide), _, _, _, rfl, rfl, slz rfl, at_ofG (show ((first : Int) + 7 * (0 + (i : Int))) % 26 = (((first + 7 * i) % 26 : Nat) : Int) by omega) (abc_at _ (by omega)), ?_⟩
      refine ⟨_, g1, ?_, ?_⟩
      · rw [List.length_map, lets_length]
        exact small1000 (by omega)
      · refine ⟨fun b' o z => ?_, ?_⟩
        · rw [upd_ne (ne_of_none z hD)]
          exact s1 _ _ z
        · rw [upd_same, lets_succ, List.map_append]
          rfl
    · have T4 := T3.same s4
      refine ⟨_, rfl, t, c, 2, b, rfl, by decide, by decide, T4, fun H5 r5 e5 T5 r51 r52 => ?_⟩
      refine ⟨rfl, ?_⟩
      have n5 : D ≠ t := T3.ne hD
      have g5 := e5 _ _ n5 g4
      refine ⟨_, rfl, D, rfl, ⟨_, SqL.of g5⟩, fun D2 hD2 => ?_⟩
      have nD : D ≠ D2 := ne_of_none g5 hD2
      refine lc_list (K := K) (a := D) (xs := (lets first n).map V.str) (fun i H' => Same H5 H' ∧ H' D2 = some (.lst ((((lets first n).take i).map (mkW rest (decide (V.int r5 = V.int 0)))).map V.str))) ⟨same_new hD2, upd_same⟩ (fun i H' _ ⟨s1, _⟩ => SqL.of (s1 _ _ g5)) (fun i x H' hx ⟨s1, g1⟩ => ⟨rfl, ?_⟩) (fun H6 ⟨s6, g6⟩ => ?_)
      · rw [List.getElem?_map] at hx
        obtain ⟨ch, hc, rfl⟩ := Option.map_eq_some_iff.mp hx
        have hi : i < (lets first n).length := (List.getElem?_eq_some_iff.mp hc).1
        have c1 : ch.length = 1 := by
          unfold lets at hc
          rw [List.getElem?_map] at hc
          obtain ⟨j, _, rfl⟩ := Option.map_eq_some_iff.mp hc
          rfl
        have rl := rests_len _ hrest
        have tk : (lets first n).take (i + 1) = (lets first n).take i ++ [ch] := by
          rw [List.take_add_one, hc]
          rfl
        have fin : ∀ z : Str, z = mkW rest (decide (V.int r5 = V.int 0)) ch → ∃ acc, H' D2 = some (.lst acc) ∧ acc.length < sizeLine ∧ Same H5 (upd H' D2 (.lst (acc ++ [V.str z]))) ∧ upd H' D2 (.lst (acc ++ [V.str z])) D2 = some (.lst ((((lets first n).take (i + 1)).map (mkW rest (decide (V.int r5 = V.int 0)))).map V.str)) := by
          rintro z rfl
          refine ⟨_, g1, ?_, fun b' o z => ?_, ?_⟩
          · rw [List.length_map, List.length_map, List.length_take]
            rw [lets_length] at hi
            exact small1000 (by omega)
          · rw [upd_ne (ne_of_none z hD2)]
            exact s1 _ _ z
          · rw [upd_same, tk, List.map_append, List.map_append]
            rfl
        refine ⟨_, rfl, _, rfl, ?_⟩
        refine ite2 (fun hc1 => ?_) (fun hc1 => ?_)
        · refine ⟨_, rfl, _, rfl, _, _, rfl, rfl, Nat.le_trans (show rest.length + ch.length ≤ 8 by omega) (slz rfl), ?_⟩
          refine fin _ ?_
          unfold mkW
          rw [if_pos hc1]
        · refine ⟨_, rfl, _, rfl, _, _, rfl, rfl, Nat.le_trans (show ch.length + rest.length ≤ 8 by omega) (slz rfl), ?_⟩
          refine fin _ ?_
          unfold mkW
          rw [if_neg hc1]
      · have T6 := T5.same s6
        rw [List.length_map, List.take_of_length_le (Nat.le_refl _)] at g6
        have n2 : D2 ≠ t := T5.ne hD2
        have EE : Ext t H H6 := ((E2.trans (same_ext s4)).trans e5).trans (same_ext s6)
        refine k H6 D2 rest first _ EE T6 ?_ hrest hf g6
        exact ((E2.trans (same_ext s4)).trans e5).free n2 hD2
end
end L3

namespace L3
open PySem L2
section
variable {P : Program} {w : World} {K : PySem.W.Frag} {mg : Str → Option Value} {base : Heap}
abbrev s__law_con : Stmt := topS 8
abbrev N__law_con : List Str := ["_law_name", "_law_parts", "_law_found", "_law_part"]
theorem sc__law_con : FnScope N__law_con ["_law_name", "_law_parts"] (defScope s__law_con) := ⟨rfl, rfl, rfl, by decide +kernel, rfl, by decide +kernel, by decide +kernel⟩
def spCon (K : PySem.W.Frag) : Sp := fun vs H Q _ => ∃ (x : Str) (l : Addr) (xs : List V) (ks : List Kd), vs = [.str x, .ref l] ∧ SqL K H l xs ∧ KdsAt H xs ks ∧
  ∀ (H' : Hp) (v : V), Same H H' → KdAt H' v (conK x ks) → Q v H'
theorem ok_con {f : Addr} {fd : FuncData} (F : Fun K "_law_con" "_law_con" s__law_con f fd) : FnOk P w K mg base CX0 1 f fd ["_law_name", "_law_parts"] (spCon K) := by
  refine F.ok sc__law_con (fun vs H Q E h => ?_) (fun cdv A outer s H vs Q E hr h => ?_)
  · obtain ⟨x, l, xs, ks, rfl, _⟩ := h
    rfl
  · obtain ⟨x, l, xs, ks, rfl, h1, h2, k⟩ := h
    refine ⟨_, (pss_cons (ps_set (i := 2) sc__law_con.nd rfl (Or.inl rfl) (pe_tup (pa_cons pe_str (pa_cons (pv 0) pa_nil))))
  (pss_cons (ps_for PassesOwn.never rfl (pi_list (pv 1)) (pg_name (i := 3) sc__law_con.nd rfl (Or.inl rfl))
  (pss_one (ps_set (i := 2) sc__law_con.nd rfl (Or.inl rfl) (pe_tup (pa_cons pe_str (pa_cons (pv 2) (pa_cons (pv 3) pa_nil)))))))
  (pss_one (ps_ret (pv 2))))), ?_⟩
    refine ⟨_, rfl, slz rfl, fun p hp => ?_⟩
    have s0 : Same H (upd H p (.tup [.str "con", .str x])) := same_new hp
    refine ⟨_, rfl, l, rfl, ⟨_, s0.seq h1⟩, for_list (K := K) (a := l) (xs := xs) (fun i σ H' => Same H H' ∧ ∃ (v : V) (pv : Option V), σ = [some (.str x), some (.ref l), some v, pv] ∧ KdAt H' v (conK x (ks.take i))) ⟨s0, .ref p, none, rfl, ⟨p, rfl, upd_same⟩⟩ (fun i σ H' _ ⟨s1, _⟩ => s1.seq h1) ?_ ?_⟩
    · rintro i y σ H' hi ⟨s1, v, pv, rfl, hv⟩
      obtain ⟨ky, hky, hy⟩ := paired_get h2 hi
      refine ⟨_, rfl, _, rfl, slz rfl, fun q hq => ?_⟩
      have s2 : Same H' (upd H' q (.tup [.str "apply", v, y])) := same_new hq
      refine ⟨s1.trans s2, _, _, rfl, ?_⟩
      have tk : ks.take (i + 1) = ks.take i ++ [ky] := by
        rw [List.take_add_one, hky]
        rfl
      rw [tk, conK_snoc]
      exact ⟨q, v, y, rfl, upd_same, KdAt.tups (same_tups s2) hv, KdAt.tups (same_tups (s1.trans s2)) hy⟩
    · rintro σ H' ⟨s1, v, pv, rfl, hv⟩
      have e : ks.take xs.length = ks := by rw [Paired.length h2, List.take_length]
      rw [e] at hv
      exact ⟨_, rfl, k _ _ s1 hv⟩

/-! ### put -/
abbrev s__law_put : Stmt := topS 9
abbrev N__law_put : List Str := ["_law_kind", "_law_by"]
theorem sc__law_put : FnScope N__law_put ["_law_kind", "_law_by"] (defScope s__law_put) := ⟨rfl, rfl, rfl, by decide +kernel, rfl, by decide +kernel, by decide +kernel⟩
def spPut (K : PySem.W.Frag) (n : Nat) : Sp := fun vs H Q _ => ∃ (v : V) (d : Addr) (k : Kd) (kvs : List (Key × V)) (by' : By), vs = [v, .ref d] ∧ KdAt H v k ∧ k.fit n ∧ H d = some (.dK kvs) ∧ ByAt H kvs by' ∧
  ∀ (H' : Hp) (v' : V), Same H H' → KdAt H' v' (k.put by') → Q v' H'
def spPrev (f : Nat → Sp) : Nat → Sp
  | 0 => fun _ _ _ _ => False
  | n + 1 => f n
theorem ok_put_step {n : Nat} {f : Addr} {fd : FuncData} (F : Fun K "_law_put" "_law_put" s__law_put f fd) (D__law_put : Kn P w K mg base n "_law_put" ["_law_kind", "_law_by"] (spPrev (spPut K) n)) : FnOk P w K mg base CX0 (n + 1) f fd ["_law_kind", "_law_by"] (spPut K n) := by
  refine F.ok sc__law_put (fun vs H Q E h => ?_) (fun cdv A outer s H vs Q E hr h => ?_)
  · obtain ⟨v, d, k, kvs, by', rfl, _⟩ := h
    rfl
  · obtain ⟨v, d, kd, kvs, by', rfl, h1, h2, h3, h4, k⟩ := h
    have hr__law_put := hr
    have hu := hu_of hr
    refine ⟨_, (pss_cons (ps_if (pt_cmpR op_eq (pe_ix ix_tup (pv 0) pe_int (fun _ _ => rfl)) pe_str (nomark _))
  (pss_one (ps_ret (pe_tup (pa_cons pe_str (pa_cons (pe_kn D__law_put hr__law_put (pa_cons (pe_ix ix_tup (pv 0) pe_int (fun _ _ => rfl)) (pa_cons (pv 1) pa_nil))) (pa_cons (pe_kn D__law_put hr__law_put (pa_cons (pe_ix ix_tup (pv 0) pe_int (fun _ _ => rfl)) (pa_cons (pv 1) pa_nil))) pa_nil))))))
  pss_nil)
  (pss_one (ps_ret (pe_ifExp (pt_cmpR op_eq (pe_ix ix_tup (pv 0) pe_int (fun _ _ => rfl)) pe_str (nomark _)) (pe_dget2 hu (pv 1) (pe_ix ix_tup (pv 0) pe_int (fun _ _ => rfl)) (pv 0) ⟨rfl, rfl, rfl, rfl⟩) (pv 0))))), ?_⟩
    cases kd with
    | app a b =>
      obtain ⟨m, rfl, ha, hb⟩ := Kd.fit_app h2
      obtain ⟨p, u, z, rfl, hp, hu1, hz1⟩ := h1
      refine ⟨_, rfl, _, _, _, _, rfl, rfl, SqT.of hp, rfl, rfl, _, rfl, iT tg_aa ?_⟩
      refine ⟨_, rfl, _, _, _, _, rfl, rfl, SqT.of hp, rfl, _, rfl, u, d, a, kvs, by', rfl, hu1, ha, h3, h4, fun H1 v1 s1 g1 => ?_⟩
      refine ⟨_, rfl, _, _, _, _, rfl, rfl, SqT.of (s1 _ _ hp), rfl, _, rfl, z, d, b, kvs, by', rfl, KdAt.tups (same_tups s1) hz1, hb, s1 _ _ h3, ByAt.tups (same_tups s1) h4, fun H2 v2 s2 g2 => ?_⟩
      refine ⟨slz rfl, fun q hq => ?_⟩
      have s3 : Same H2 (upd H2 q (.tup [.str "apply", v1, v2])) := same_new hq
      exact k _ _ ((s1.trans s2).trans s3) ⟨q, v1, v2, rfl, upd_same, KdAt.tups (same_tups (s2.trans s3)) g1, KdAt.tups (same_tups s3) g2⟩
    | var x =>
      obtain ⟨p, rfl, hp⟩ := id h1
      refine ⟨_, rfl, _, _, _, _, rfl, rfl, SqT.of hp, rfl, rfl, _, rfl, iF tg_va ?_⟩
      refine ⟨_, rfl, _, _, _, _, rfl, rfl, SqT.of hp, rfl, rfl, _, rfl, iT tg_vv ?_⟩
      refine ⟨_, rfl, d, rfl, .inl ⟨_, .inl h3⟩, _, rfl, _, _, _, _, rfl, rfl, SqT.of hp, rfl, _, rfl, _, DGet.k (k := .inr x) h3, ?_⟩
      rcases h4.get x with ⟨e1, e2⟩ | ⟨v, kd, e1, e2, g⟩
      · rw [e1]
        refine k _ _ (Same.refl _) ?_
        show KdAt H (.ref p) ((lk by' x).getD (.var x))
        rw [e2]
        exact h1
      · rw [e1]
        refine k _ _ (Same.refl _) ?_
        show KdAt H v ((lk by' x).getD (.var x))
        rw [e2]
        exact g
    | con x =>
      obtain ⟨p, rfl, hp⟩ := id h1
      refine ⟨_, rfl, _, _, _, _, rfl, rfl, SqT.of hp, rfl, rfl, _, rfl, iF tg_ca ?_⟩
      refine ⟨_, rfl, _, _, _, _, rfl, rfl, SqT.of hp, rfl, rfl, _, rfl, iF tg_cv ?_⟩
      exact ⟨_, rfl, k _ _ (Same.refl _) h1⟩
theorem ok_put {f : Addr} {fd : FuncData} (F : Fun K "_law_put" "_law_put" s__law_put f fd) (hm : mg "_law_put" = some (.ref f)) : ∀ n, FnOk P w K mg base CX0 (n + 1) f fd ["_law_kind", "_law_by"] (spPut K n)
  | 0 => ok_put_step F ⟨f, fd, fn_false, hm, F.kp, F.binds fun _ _ _ _ _ _ us hl => match us, hl with | [_, _], _ => rfl⟩
  | n + 1 => ok_put_step F ⟨f, fd, ok_put F hm n, hm, F.kp, F.binds fun _ _ _ _ _ _ us hl => match us, hl with | [_, _], _ => rfl⟩
end
end L3

namespace L3
open PySem L2
section
variable {P : Program} {w : World} {K : PySem.W.Frag} {mg : Str → Option Value} {base : Heap}
abbrev s__law_letter_kind : Stmt := topS 13
abbrev N__law_letter_kind : List Str := ["_law_tape", "_law_names", "_law_cons", "_law_deep", "_law_name", "_law_many", "_law_parts", "_law_k"]
theorem sc__law_letter_kind : FnScope N__law_letter_kind ["_law_tape", "_law_names", "_law_cons", "_law_deep"] (defScope s__law_letter_kind) := ⟨rfl, rfl, rfl, by decide +kernel, rfl, by decide +kernel, by decide +kernel⟩
def cost : Nat → Nat
  | 0 => 3
  | n + 1 => 5 + 2 * cost n
def spLK (K : PySem.W.Frag) (n : Nat) : Sp := fun vs H Q _ => ∃ (t c ln lc : Addr) (ws : List Str) (b : Nat), vs = [.ref t, .ref ln, .ref lc, .int (n : Int)] ∧ SqL K H ln (ws.map V.str) ∧ (∀ x ∈ ws, Wok x) ∧ ws.length < 1000 ∧ ConsAt K H lc ∧ Tape K H t c (b + cost n) ∧
  ∀ (H' : Hp) (v : V) (k : Kd), Ext t H H' → Tape K H' t c b → KdAt H' v k → k.fit (2 * n) → Kd.of ws k → Q v H'
theorem ok_letter_step {n : Nat} {f : Addr} {fd : FuncData} (F : Fun K "_law_letter_kind" "_law_letter_kind" s__law_letter_kind f fd) (B : Bl mg) (D__law_draw : Kn P w K mg base 1 "_law_draw" ["_law_tape", "_law_many"] (spDraw K)) (D__law_pick : Kn P w K mg base 2 "_law_pick" ["_law_tape", "_law_items"] (spPick K))
    (D__law_con : Kn P w K mg base 1 "_law_con" ["_law_name", "_law_parts"] (spCon K)) (D__law_letter_kind : Kn P w K mg base (n + 2) "_law_letter_kind" ["_law_tape", "_law_names", "_law_cons", "_law_deep"] (spPrev (spLK K) n)) : FnOk P w K mg base CX0 (n + 3) f fd ["_law_tape", "_law_names", "_law_cons", "_law_deep"] (spLK K n) := by
  refine F.ok sc__law_letter_kind (fun vs H Q E h => ?_) (fun cdv A outer s H vs Q E hr h => ?_)
  · obtain ⟨t, c, ln, lc, ws, b, rfl, _⟩ := h
    rfl
  · obtain ⟨t, c, ln, lc, ws, b, rfl, h1, h2, h3, h4, hT, k⟩ := h
    have hr__law_draw : Room 1 _ := hr.mono (by omega)
    have hr__law_con : Room 1 _ := hr.mono (by omega)
    have hr__law_pick : Room 2 _ := hr.mono (by omega)
    have hr__law_letter_kind := hr
    have hu64 := hr.units
    have c3 : 3 ≤ cost n := by cases n <;> simp only [cost] <;> omega
    refine ⟨_, (pss_cons (ps_if (PW.pt (pw_or (pt_cmpR op_eq (pv 3) pe_int (nomark _)) (pw_or1 (pt_cmpR op_eq (pe_kn D__law_draw hr__law_draw (pa_cons (pv 0) (pa_cons pe_int pa_nil))) pe_int (nomark _)))))
  (pss_one (ps_ret (pe_ifExp (PW.pt (pw_and (pt_cmpR (op_neD hu64) (pv 1) (pe_lst pa_nil) (nomark _)) (pw_and1 (pt_cmpR op_eq (pe_kn D__law_draw hr__law_draw (pa_cons (pv 0) (pa_cons pe_int pa_nil))) pe_int (nomark _))))) (pe_tup (pa_cons pe_str (pa_cons (pe_kn D__law_pick hr__law_pick (pa_cons (pv 0) (pa_cons (pv 1) pa_nil))) pa_nil))) (pe_tup (pa_cons pe_str (pa_cons (pe_ix ix_tup (pe_kn D__law_pick hr__law_pick (pa_cons (pv 0) (pa_cons (pv 2) pa_nil))) pe_int (fun _ _ => rfl)) pa_nil))))))
  pss_nil)
  (pss_cons (ps_asg (pe_kn D__law_pick hr__law_pick (pa_cons (pv 0) (pa_cons (pv 2) pa_nil))) (pg_tup (by rfl) (pgs_cons (pg_name (i := 4) sc__law_letter_kind.nd rfl (Or.inl rfl)) (pgs_cons (pg_name (i := 5) sc__law_letter_kind.nd rfl (Or.inl rfl)) pgs_nil))))
  (pss_cons (ps_setLc (i := 6) (own := [("_law_k", 7)]) rfl sc__law_letter_kind.nd rfl rfl (sw_true rfl rfl rfl (by decide +kernel)) (pi_range1 (by rfl) B.range (pa_cons (pv 5) pa_nil)) (blkOk_by (N := N__law_letter_kind) (sc := (defScope s__law_letter_kind)) (own := [("_law_k", 7)]) (by decide +kernel)) (fun _ _ _ _ _ => (pg_name (i := 7) sc__law_letter_kind.nd rfl (Or.inl rfl))) (fun _ _ _ _ _ => pts_nil) (fun _ _ _ _ _ => (pe_kn D__law_letter_kind hr__law_letter_kind (pa_cons (pv 0) (pa_cons (pv 1) (pa_cons (pv 2) (pa_cons (pe_op op_sub (pv 3) pe_int) pa_nil)))))))
  (pss_cons (ps_if (PW.pt (pw_and (pt_cmpR (op_neD hu64) (pv 1) (pe_lst pa_nil) (nomark _)) (pw_and (pt_cmpR op_eq (pv 5) pe_int (nomark _)) (pw_and1 (pt_cmpR op_eq (pe_kn D__law_draw hr__law_draw (pa_cons (pv 0) (pa_cons pe_int pa_nil))) pe_int (nomark _))))))
  (pss_one (ps_ret (pe_tup (pa_cons pe_str (pa_cons (pe_tup (pa_cons pe_str (pa_cons (pe_kn D__law_pick hr__law_pick (pa_cons (pv 0) (pa_cons (pv 1) pa_nil))) pa_nil))) (pa_cons (pe_ix ix_list (pv 6) pe_int (fun _ _ => rfl)) pa_nil))))))
  pss_nil)
  (pss_one (ps_ret (pe_kn D__law_con hr__law_con (pa_cons (pv 4) (pa_cons (pv 6) pa_nil))))))))), ?_⟩
    -- the leaf ("con", pick(cons)[0])
    have con_leaf : ∀ H3 : Hp, Ext t H H3 → Tape K H3 t c (b + 1) → tTup (tCons (tC (.str "con")) (tCons (tOp (rIxT K) (tCall (spPick K) [] E0 (tCons (tVar 0) (tCons (tVar 2) tNil))) (tC (.int 0))) tNil)) [some (.ref t), some (.ref ln), some (.ref lc), some (.int (n : Int)), none, none, none, none] H3 Q := by
      intro H3 E3 T3
      obtain ⟨xs, h41, h42, h43, h44⟩ := h4.ext hT E3
      refine ⟨_, rfl, _, rfl, t, c, lc, xs, b, rfl, h41, h42, by omega, T3, fun H4 v E4 T4 hv => ?_⟩
      obtain ⟨a, x, m, rfl, ha, _, wx⟩ := h44 v hv
      refine ⟨_, _, _, _, rfl, rfl, SqT.of (Ext.tups E4 T3 _ _ ha), rfl, slz rfl, fun q hq => ?_⟩
      exact k _ _ (.con x) ((E3.trans E4).trans (Ext.new hq)) (T4.new hq) ⟨q, rfl, upd_same⟩ (fitC wx) trivial
    refine ⟨_, rfl, rfl, _, rfl, ite2 (fun z => ?g1) (fun hn0 => ?g2)⟩
    case' g1 =>
      refine iteT ?_
      have E1 : Ext t H H := Ext.refl _ _
      have T1 : Tape K H t c (b + 2) := hT.less (by omega)
    case' g2 =>
      refine ⟨_, rfl, t, c, 3, b + (cost n - 1), rfl, by decide, by decide, hT.less (by omega), fun H1 r1 E1 T1 hr1 hr2 => ⟨rfl, _, rfl, ite2 (fun z => ?g3) (fun z => ?g4)⟩⟩
    case' g3 => replace T1 := T1.less (show b + 2 ≤ _ by omega)
    case g1 | g3 =>
      refine ⟨_, rfl, slz rfl, fun e he => ?_⟩
      have E2 := E1.trans (Ext.new (o := .lst []) he)
      have T2 := T1.new (o := .lst []) he
      refine ⟨_, _, .lst (SqL.extT h1 hT E2) (dp_words ws), .lst (SqL.of upd_same) .nil, shaped_words h2, shaped_nil, _, rfl, ?_⟩
      rw [words_ne]
      refine ite2 (fun hws => ?_) (fun hws => ?_)
      · have ne : 0 < ws.length := by
          cases ws with
          | nil => cases hws
          | cons x r => exact Nat.zero_lt_succ _
        refine ⟨_, rfl, t, c, 2, b + 1, rfl, by decide, by decide, T2, fun H3 r3 E3 T3 hr31 hr32 => ⟨rfl, _, rfl, ite2 (fun z => ?_) (fun z => ?_)⟩⟩
        · refine ⟨_, rfl, _, rfl, t, c, ln, ws.map V.str, b, rfl, SqL.extT h1 hT (E2.trans E3), by rw [List.length_map]; exact ne, by rw [List.length_map]; omega, T3, fun H4 v E4 T4 hv => ?_⟩
          obtain ⟨x, hx, rfl⟩ := List.mem_map.mp hv
          refine ⟨slz rfl, fun q hq => ?_⟩
          exact k _ _ (.var x) (((E2.trans E3).trans E4).trans (Ext.new hq)) (T4.new hq) ⟨q, rfl, upd_same⟩ (fitV (h2 x hx)) hx
        · exact con_leaf H3 (E2.trans E3) (T3.less (by omega))
      · exact iteF (con_leaf _ E2 (T2.less (by omega)))
    case g4 =>
      obtain ⟨j, rfl⟩ : ∃ j, n = j + 1 := by
        cases n with
        | zero => exact absurd rfl hn0
        | succ j => exact ⟨j, rfl⟩
      obtain ⟨xs, h41, h42, h43, h44⟩ := h4.ext hT E1
      refine ⟨_, rfl, _, rfl, t, c, lc, xs, b + 3 + 2 * cost j, rfl, h41, h42, by omega, T1.less (by simp only [cost]; omega), fun H2 v E2 T2 hv => ?_⟩
      obtain ⟨a, x, m, rfl, ha, hm, wx⟩ := h44 v hv
      have EE := E1.trans E2
      refine ⟨a, _, rfl, SqT.of (Ext.tups E2 T1 _ _ ha), rfl, _, _, rfl, _, _, rfl, rfl, ?_⟩
      refine ⟨_, rfl, (m : Int), rfl, by omega, by omega, fun D hD => ?_⟩
      refine lc_range (lo := 0) (n := m) (fun i H' => Ext t H2 H' ∧ Tape K H' t c (b + 2 + (m - i) * cost j) ∧ ∃ (vs : List V) (ks : List Kd), H' D = some (.lst vs) ∧ KdsAt H' vs ks ∧ vs.length = i ∧ ∀ k ∈ ks, k.fit (2 * j) ∧ Kd.of ws k)
        ⟨Ext.new hD, (T2.new hD).less ?_, [], [], upd_same, .nil, rfl, fun _ q => nomatch q⟩ (fun i H' hi ⟨e1, t1, vs, ks, g1, g2, g3, g4⟩ => ⟨rfl, ?_⟩) (fun H3 ⟨e1, t1, vs, ks, g1, g2, g3, g4⟩ => ?_)
      · have : m * cost j ≤ 2 * cost j := Nat.mul_le_mul_right _ hm
        rw [Nat.sub_zero]
        omega
      · have em : (m - i) * cost j = (m - (i + 1)) * cost j + cost j := by
          rw [show m - i = (m - (i + 1)) + 1 by omega, Nat.succ_mul]
        refine ⟨_, rfl, _, rfl, _, rfl, _, rfl, _, _, rfl, rfl, ?_⟩
        refine ⟨t, c, ln, lc, ws, b + 2 + (m - (i + 1)) * cost j, congrArg (fun z : Int => [V.ref t, V.ref ln, V.ref lc, V.int z]) (by omega), SqL.extT h1 hT (EE.trans e1), h2, h3, h4.ext hT (EE.trans e1), t1.less (by omega), fun H4 v k4 e4 t4 f1 f2 f3 => ?_⟩
        have nD : D ≠ t := T2.ne hD
        refine ⟨vs, e4 _ _ nD g1, small1000 (by omega), (e1.trans e4).upd hD, Tape.put T2 (e1.trans e4) t4 hD, vs ++ [v], ks ++ [k4], upd_same, ?_, by rw [List.length_append, g3]; rfl, ?_⟩
        · have tu : Tups H4 (upd H4 D (.lst (vs ++ [v]))) := Tups.put (e4 _ _ nD g1) (by intro xs z; cases z)
          exact Paired.snoc (KdsAt.tups ((Ext.tups e4 t1).trans tu) g2) (KdAt.tups tu f1)
        · intro k hk
          rcases List.mem_append.mp hk with q | q
          · exact g4 k q
          · rw [List.mem_singleton.mp q]
            exact ⟨f2, f3⟩
      · have EE3 := EE.trans e1
        have lks : ks.length = m := by rw [← Paired.length g2, g3]
        -- the kind with its parts
        have con_all : ∀ H5 : Hp, Ext t H3 H5 → Tape K H5 t c b → tRet (tCall (spCon K) [] E0 (tCons (tVar 4) (tCons (tVar 6) tNil))) { nx := fun _ H' => Q .non H', rt := Q } [some (.ref t), some (.ref ln), some (.ref lc), some (.int ((j + 1 : Nat) : Int)), some (.str x), some (.int (m : Int)), some (.ref D), none] H5 := by
          intro H5 e5 t5
          refine ⟨_, rfl, _, rfl, x, D, vs, ks, rfl, SqL.of (e5 _ _ (T2.ne hD) g1), KdsAt.tups (Ext.tups e5 t1) g2, fun H6 v s6 f6 => ?_⟩
          exact k _ _ _ ((EE3.trans e5).trans (same_ext s6)) (t5.same s6) f6 (Kd.fit_mono (by omega) (fit_conK wx fun q hq => (g4 q hq).1)) (of_conK fun q hq => (g4 q hq).2)
        refine ⟨_, rfl, slz rfl, fun e he => ?_⟩
        have e6 := Ext.new (t := t) (o := .lst []) he
        have t6 := t1.new (o := .lst []) he
        refine ⟨_, _, .lst (SqL.extT h1 hT (EE3.trans e6)) (dp_words ws), .lst (SqL.of upd_same) .nil, shaped_words h2, shaped_nil, _, rfl, ?_⟩
        rw [words_ne]
        refine ite2 (fun hws => ?_) (fun hws => ?_)
        · refine ⟨_, rfl, rfl, _, rfl, ite2 (fun hm1 => ?_) (fun hm1 => ?_)⟩
          · have m1 : m = 1 := by
              have q := V.int.inj (of_decide_eq_true hm1)
              omega
            refine ⟨_, rfl, t, c, 4, b + 1, rfl, by decide, by decide, t6.less (by omega), fun H7 r7 e7 t7 hr71 hr72 => ⟨rfl, _, rfl, ite2 (fun z => ?_) (fun z => ?_)⟩⟩
            · have ne : 0 < ws.length := by
                cases ws with
                | nil => cases hws
                | cons x r => exact Nat.zero_lt_succ _
              refine ⟨_, rfl, _, rfl, t, c, ln, ws.map V.str, b, rfl, SqL.extT h1 hT ((EE3.trans e6).trans e7), by rw [List.length_map]; exact ne, by rw [List.length_map]; omega, t7, fun H8 v e8 t8 hv => ?_⟩
              obtain ⟨y, hy, rfl⟩ := List.mem_map.mp hv
              refine ⟨slz rfl, fun q hq => ?_⟩
              subst m1
              obtain ⟨v0, rfl⟩ : ∃ v0, vs = [v0] := by
                match vs, g3 with
                | [v0], _ => exact ⟨v0, rfl⟩
              obtain ⟨k0, rfl⟩ : ∃ k0, ks = [k0] := by
                match ks, lks with
                | [k0], _ => exact ⟨k0, rfl⟩
              have gD : H8 D = some (.lst [v0]) := e8 _ _ (T2.ne hD) (e7 _ _ (T2.ne hD) (e6 _ _ (T2.ne hD) g1))
              have nq : D ≠ q := ne_of_none gD hq
              refine ⟨_, rfl, _, _, _, _, rfl, rfl, SqL.of (by rw [upd_ne nq]; exact gD), rfl, slz rfl, fun q2 hq2 => ?_⟩
              have k0at : KdAt H3 v0 k0 := by cases g2 with | cons r _ => exact r
              have e9 : Ext t H8 (upd H8 q (.tup [.str "var", .str y])) := Ext.new hq
              have t9 := t8.new (o := .tup [.str "var", .str y]) hq
              have e10 := Ext.new (t := t) (o := .tup [.str "apply", .ref q, v0]) hq2
              have up : Tups H3 _ := Ext.tups (((e6.trans e7).trans e8).trans (e9.trans e10)) t1
              refine k _ _ (.app (.var y) k0) (((((EE3.trans e6).trans e7).trans e8).trans e9).trans e10) (t9.new hq2) ⟨q2, .ref q, v0, rfl, upd_same, ⟨q, rfl, Ext.tups e10 t9 _ _ upd_same⟩, KdAt.tups up k0at⟩ ?_ ⟨hy, (g4 k0 List.mem_cons_self).2⟩
              exact ⟨fitV (h2 y hy), show Kd.fit (2 * j + 1) k0 from Kd.fit_mono (by omega) (g4 k0 List.mem_cons_self).1⟩
            · exact con_all H7 (e6.trans e7) (t7.less (by omega))
          · exact iteF (con_all _ e6 (t6.less (by omega)))
        · exact iteF (con_all _ e6 (t6.less (by omega)))
theorem ok_letter {f : Addr} {fd : FuncData} (F : Fun K "_law_letter_kind" "_law_letter_kind" s__law_letter_kind f fd) (hm : mg "_law_letter_kind" = some (.ref f)) (B : Bl mg) (D1 : Kn P w K mg base 1 "_law_draw" ["_law_tape", "_law_many"] (spDraw K)) (D2 : Kn P w K mg base 2 "_law_pick" ["_law_tape", "_law_items"] (spPick K))
    (D3 : Kn P w K mg base 1 "_law_con" ["_law_name", "_law_parts"] (spCon K)) : ∀ n, FnOk P w K mg base CX0 (n + 3) f fd ["_law_tape", "_law_names", "_law_cons", "_law_deep"] (spLK K n)
  | 0 => ok_letter_step F B D1 D2 D3 ⟨f, fd, fn_false.mono (by decide), hm, F.kp, F.binds fun _ _ _ _ _ _ us hl => match us, hl with | [_, _, _, _], _ => rfl⟩
  | n + 1 => ok_letter_step F B D1 D2 D3 ⟨f, fd, ok_letter F hm B D1 D2 D3 n, hm, F.kp, F.binds fun _ _ _ _ _ _ us hl => match us, hl with | [_, _, _, _], _ => rfl⟩
end
end L3

namespace L3
open PySem L2
/-! ### variables in order -/
def addV (fs : List Str) (x : Str) : List Str := if x ∈ fs then fs else fs ++ [x]
def Kd.vs : Kd → List Str → List Str
  | .var x, fs => addV fs x
  | .con _, fs => fs
  | .app a b, fs => b.vs (a.vs fs)
def vsL : List Kd → List Str → List Str
  | [], fs => fs
  | k :: r, fs => vsL r (k.vs fs)
def Kd.size : Kd → Nat
  | .var _ => 1
  | .con _ => 1
  | .app a b => a.size + b.size + 1
def sizeL : List Kd → Nat
  | [] => 0
  | k :: r => k.size + sizeL r
theorem Kd.size_pos (k : Kd) : 0 < k.size := by cases k <;> simp [Kd.size]
theorem eqV_str (x y : Str) : eqV (.str y) (.str x) = decide (y = x) := str_beq y x
theorem inV_words (x : Str) : ∀ fs : List Str, inV (.str x) (fs.map V.str) = decide (x ∈ fs)
  | [] => rfl
  | y :: r => by
    have ih := inV_words x r
    unfold inV at ih ⊢
    rw [List.map_cons, List.any_cons, ih, eqV_str]
    by_cases h : y = x
    · subst h
      simp
    · have h2 : ¬ x = y := fun e => h e.symm
      simp [h, h2]
theorem flat_words : ∀ fs : List Str, (fs.map V.str).all flatV = true
  | [] => rfl
  | _ :: r => by
    rw [List.map_cons, List.all_cons, flat_words r]
    rfl
/-- the last of a row -/
theorem paired_last {α β : Type} {F : α → β → Prop} : ∀ {xs : List α} {ys : List β} {y : β}, Paired F xs (ys ++ [y]) → ∃ xs0 x, xs = xs0 ++ [x] ∧ Paired F xs0 ys ∧ F x y
  | [], [], _, h => nomatch h
  | [], _ :: _, _, h => nomatch h
  | x :: xs, [], y, .cons r t => by
    cases t
    exact ⟨[], x, rfl, .nil, r⟩
  | x :: xs, z :: ys, y, .cons r t => by
    obtain ⟨xs0, w, e, h1, h2⟩ := paired_last (ys := ys) t
    exact ⟨x :: xs0, w, by rw [e]; rfl, .cons r h1, h2⟩
theorem paired_snoc {α β : Type} {F : α → β → Prop} {xs : List α} {ys : List β} {x : α} {y : β} (h : Paired F xs ys) (r : F x y) : Paired F (xs ++ [x]) (ys ++ [y]) := Paired.snoc h r
theorem paired_rev {α β : Type} {F : α → β → Prop} : ∀ {xs : List α} {ys : List β}, Paired F xs ys → Paired F xs.reverse ys.reverse
  | _, _, .nil => .nil
  | _, _, .cons r t => by
    rw [List.reverse_cons, List.reverse_cons]
    exact Paired.snoc (paired_rev t) r
theorem kds_snoc : ∀ ks : List Kd, ks ≠ [] → ∃ ks0 k, ks = ks0 ++ [k] := fun ks h => ⟨ks.dropLast, ks.getLast h, (List.dropLast_concat_getLast h).symm⟩
theorem shaped_kds {ks : List Kd} (h : ∀ k ∈ ks, k.fit 60) : SeqAt.shaped (.list (ks.map Kd.dat)) = true := by
  have key : ∀ ks : List Kd, (∀ k ∈ ks, k.fit 60) → PyData.canLayAll0 (ks.map Kd.dat) = true ∧ PyData.depthAll (ks.map Kd.dat) ≤ 61 := by
    intro ks
    induction ks with
    | nil => intro _; exact ⟨by simp [PyData.canLayAll0], by simp [PyData.depthAll]⟩
    | cons k r ih =>
      intro h
      obtain ⟨h1, h2⟩ := ih fun y hy => h y (List.mem_cons_of_mem _ hy)
      obtain ⟨h3, h4⟩ := Kd.lay (h k List.mem_cons_self)
      refine ⟨by simp only [List.map_cons, PyData.canLayAll0, h3, h1, Bool.true_and], ?_⟩
      simp only [List.map_cons, PyData.depthAll]
      omega
  obtain ⟨h1, h2⟩ := key ks h
  unfold SeqAt.shaped
  simp only [PyData.canLay0, h1, PyData.depth, Bool.true_and]
  exact decide_eq_true (by omega)
theorem kds_ne {ks : List Kd} : (!PyData.eqv (.list (ks.map Kd.dat)) (.list [])) = !ks.isEmpty := by
  rw [eqv_ll]
  cases ks with
  | nil => rw [List.map_nil, eqv_nn]; rfl
  | cons x r => rw [List.map_cons, eqv_cn]; rfl
/-! ### matching -/
def Kd.mt : Kd → Kd → By → Bool × By
  | .var x, k, b => match lk b x with
    | some k' => (decide (k' = k), b)
    | none => (true, b ++ [(x, k)])
  | .con x, k, b => (decide (Kd.con x = k), b)
  | .app a c, .app d e, b => if (a.mt d b).1 = true then c.mt e (a.mt d b).2 else (false, (a.mt d b).2)
  | .app _ _, .var _, b => (false, b)
  | .app _ _, .con _, b => (false, b)
def mtL : List Kd → List Kd → By → Option By
  | p :: ps, k :: ks, b => if (p.mt k b).1 = true then mtL ps ks (p.mt k b).2 else none
  | _, _, b => some b
def mtP : List (Kd × Kd) → By → Option By
  | [], b => some b
  | (p, k) :: r, b => if (p.mt k b).1 = true then mtP r (p.mt k b).2 else none
theorem mtP_zip : ∀ (ps ks : List Kd) (b : By), mtP (ps.zip ks) b = mtL ps ks b
  | [], _, _ => rfl
  | _ :: _, [], _ => rfl
  | p :: ps, k :: ks, b => by
    show (if (p.mt k b).1 = true then mtP (ps.zip ks) (p.mt k b).2 else none) = if (p.mt k b).1 = true then mtL ps ks (p.mt k b).2 else none
    rw [mtP_zip ps ks]
theorem mtP_app (a c d e : Kd) (r : List (Kd × Kd)) (b : By) : mtP ((.app a c, .app d e) :: r) b = mtP ((a, d) :: (c, e) :: r) b := by
  show (if ((Kd.app a c).mt (.app d e) b).1 = true then mtP r ((Kd.app a c).mt (.app d e) b).2 else none) = if (a.mt d b).1 = true then (if (c.mt e (a.mt d b).2).1 = true then mtP r (c.mt e (a.mt d b).2).2 else none) else none
  by_cases h : (a.mt d b).1 = true
  · have q : (Kd.app a c).mt (.app d e) b = c.mt e (a.mt d b).2 := by simp only [Kd.mt, if_pos h]
    rw [if_pos h, q]
  · have q : (Kd.app a c).mt (.app d e) b = (false, (a.mt d b).2) := by simp only [Kd.mt, if_neg h]
    rw [if_neg h, q]
    rfl
theorem lk_snoc {b : By} {x : Str} {k : Kd} (h : lk b x = none) (y : Str) : lk (b ++ [(x, k)]) y = if y = x then some k else lk b y := by
  induction b with
  | nil =>
    by_cases e : x = y
    · rw [if_pos e.symm]
      exact lk_pos e
    · rw [if_neg (fun z => e z.symm)]
      exact lk_neg e
  | cons p r ih =>
    have hk : ¬ p.1 = x := fun z => by rw [lk_pos z] at h; cases h
    rw [lk_neg hk] at h
    rw [List.cons_append]
    by_cases e : p.1 = y
    · rw [lk_pos e, lk_pos e, if_neg (fun z => hk (e.trans z))]
    · rw [lk_neg e, lk_neg e, ih h]
theorem lk_mem {b : By} {x : Str} {k : Kd} (h : lk b x = some k) : (x, k) ∈ b := by
  induction b with
  | nil => cases h
  | cons p r ih =>
    by_cases e : p.1 = x
    · rw [lk_pos e] at h
      have : p = (x, k) := by
        obtain ⟨p1, p2⟩ := p
        have e' : p1 = x := e
        have h' : p2 = k := Option.some.inj h
        rw [e', h']
      rw [this]
      exact List.mem_cons_self
    · rw [lk_neg e] at h
      exact List.mem_cons_of_mem _ (ih h)
/-- what matching adds -/
theorem Kd.mt_grow {m : Nat} : ∀ (p k : Kd) (b : By), k.fit m → (∀ q ∈ b, q.2.fit m) → (p.mt k b).2.length ≤ b.length + p.size ∧ ∀ q ∈ (p.mt k b).2, q.2.fit m
  | .var x, k, b, hk, hb => by
    simp only [Kd.mt]
    cases e : lk b x with
    | some k' => exact ⟨Nat.le_add_right _ _, hb⟩
    | none =>
      refine ⟨by simp [Kd.size], fun q hq => ?_⟩
      rcases List.mem_append.mp hq with h | h
      · exact hb q h
      · rw [List.mem_singleton.mp h]
        exact hk
  | .con x, k, b, hk, hb => ⟨Nat.le_add_right _ _, hb⟩
  | .app a c, .app d e, b, hk, hb => by
    obtain ⟨j, rfl, h1, h2⟩ := Kd.fit_app hk
    have h1' := Kd.fit_mono (Nat.le_succ j) h1
    have h2' := Kd.fit_mono (Nat.le_succ j) h2
    obtain ⟨g1, g2⟩ := Kd.mt_grow a d b h1' hb
    obtain ⟨g3, g4⟩ := Kd.mt_grow c e (a.mt d b).2 h2' g2
    simp only [Kd.mt]
    by_cases h : (a.mt d b).1 = true
    · rw [if_pos h]
      refine ⟨?_, g4⟩
      simp only [Kd.size]
      omega
    · rw [if_neg h]
      refine ⟨?_, g2⟩
      simp only [Kd.size]
      omega
  | .app _ _, .var _, b, _, hb => ⟨Nat.le_add_right _ _, hb⟩
  | .app _ _, .con _, b, _, hb => ⟨Nat.le_add_right _ _, hb⟩
/-- the names, as the variables come -/
def names (b : By) : List Str := b.map (·.1)
theorem lk_names (b : By) (x : Str) : (lk b x).isSome = decide (x ∈ names b) := by
  induction b with
  | nil => rfl
  | cons p r ih =>
    by_cases e : p.1 = x
    · rw [lk_pos e]
      simp [names, e]
    · rw [lk_neg e, ih]
      have e' : ¬ x = p.1 := fun z => e z.symm
      have q : names (p :: r) = p.1 :: names r := rfl
      rw [q]
      simp [e']
theorem Kd.mt_names : ∀ (p k : Kd) (b : By), (p.mt k b).1 = true → names (p.mt k b).2 = p.vs (names b)
  | .var x, k, b, h => by
    have hn := lk_names b x
    simp only [Kd.mt, Kd.vs, addV] at h ⊢
    cases e : lk b x with
    | some k' =>
      rw [e] at hn
      have : x ∈ names b := of_decide_eq_true hn.symm
      simp only [this, if_true]
    | none =>
      rw [e] at hn
      have : ¬ x ∈ names b := of_decide_eq_false hn.symm
      rw [if_neg this]
      simp [names]
  | .con x, k, b, _ => rfl
  | .app a c, .app d e, b, h => by
    simp only [Kd.mt, Kd.vs] at h ⊢
    by_cases h1 : (a.mt d b).1 = true
    · rw [if_pos h1] at h ⊢
      rw [Kd.mt_names c e _ h, Kd.mt_names a d b h1]
    · rw [if_neg h1] at h
      cases h
  | .app _ _, .var _, b, h => by simp [Kd.mt] at h
  | .app _ _, .con _, b, h => by simp [Kd.mt] at h
theorem mtL_names : ∀ (ps ks : List Kd) (b c : By), ps.length = ks.length → mtL ps ks b = some c → names c = vsL ps (names b)
  | [], [], b, c, _, h => by cases h; rfl
  | [], _ :: _, _, _, h, _ => by cases h
  | _ :: _, [], _, _, h, _ => by cases h
  | p :: ps, k :: ks, b, c, hl, h => by
    simp only [mtL] at h
    by_cases h1 : (p.mt k b).1 = true
    · rw [if_pos h1] at h
      rw [mtL_names ps ks _ c (Nat.succ.inj hl) h, Kd.mt_names p k b h1]
      rfl
    · rw [if_neg h1] at h
      cases h
end L3

namespace L3
open PySem L2
section
variable {P : Program} {w : World} {K : PySem.W.Frag} {mg : Str → Option Value} {base : Heap}
/-! ### changed -/
abbrev s__law_changed : Stmt := topS 14
abbrev N__law_changed : List Str := ["_law_tape", "_law_kind", "_law_names", "_law_cons"]
theorem sc__law_changed : FnScope N__law_changed ["_law_tape", "_law_kind", "_law_names", "_law_cons"] (defScope s__law_changed) := ⟨rfl, rfl, rfl, by decide +kernel, rfl, by decide +kernel, by decide +kernel⟩
def spCh (K : PySem.W.Frag) (n : Nat) : Sp := fun vs H Q _ => ∃ (t c ln lc : Addr) (v : V) (k : Kd) (ws : List Str) (b : Nat), vs = [.ref t, v, .ref ln, .ref lc] ∧ KdAt H v k ∧ k.fit n ∧ SqL K H ln (ws.map V.str) ∧ (∀ x ∈ ws, Wok x) ∧ ws.length < 1000 ∧ ConsAt K H lc ∧ Tape K H t c (b + 2 * n + 13) ∧
  ∀ (H' : Hp) (v' : V) (k' : Kd), Ext t H H' → Tape K H' t c b → KdAt H' v' k' → k'.fit (n + 2) → Q v' H'
theorem ok_ch_step {n : Nat} {f : Addr} {fd : FuncData} (F : Fun K "_law_changed" "_law_changed" s__law_changed f fd) (D__law_draw : Kn P w K mg base 1 "_law_draw" ["_law_tape", "_law_many"] (spDraw K))
    (D__law_letter_kind : Kn P w K mg base 4 "_law_letter_kind" ["_law_tape", "_law_names", "_law_cons", "_law_deep"] (spLK K 1)) (D__law_changed : Kn P w K mg base (n + 4) "_law_changed" ["_law_tape", "_law_kind", "_law_names", "_law_cons"] (spPrev (spCh K) n)) : FnOk P w K mg base CX0 (n + 5) f fd ["_law_tape", "_law_kind", "_law_names", "_law_cons"] (spCh K n) := by
  refine F.ok sc__law_changed (fun vs H Q E h => ?_) (fun cdv A outer s H vs Q E hr h => ?_)
  · obtain ⟨t, c, ln, lc, v, k, ws, b, rfl, _⟩ := h
    rfl
  · obtain ⟨t, c, ln, lc, v, kd, ws, b, rfl, hk, hf, h1, h2, h3, h4, hT, k⟩ := h
    have hr__law_draw : Room 1 _ := hr.mono (by omega)
    have hr__law_letter_kind : Room 4 _ := hr.mono (by omega)
    have hr__law_changed := hr
    -- a new kind in its place
    have leaf : ∀ H1 : Hp, Ext t H H1 → Tape K H1 t c (b + 11) → tRet (tCall (spLK K 1) [] E0 (tCons (tVar 0) (tCons (tVar 2) (tCons (tVar 3) (tCons (tC (.int 1)) tNil))))) { nx := fun _ H' => Q .non H', rt := Q } [some (.ref t), some v, some (.ref ln), some (.ref lc)] H1 := by
      intro H1 e1 t1
      exact ⟨_, rfl, _, rfl, _, rfl, t, c, ln, lc, ws, b, rfl, SqL.extT h1 hT e1, h2, h3, h4.ext hT e1, t1, fun H2 v2 k2 e2 t2 g2 f2 _ => k _ _ _ (e1.trans e2) t2 g2 (Kd.fit_mono (by omega) f2)⟩
    refine ⟨_, (pss_cons (ps_if (PW.pt (pw_and (pt_cmpR op_eq (pe_ix ix_tup (pv 1) pe_int (fun _ _ => rfl)) pe_str (nomark _)) (pw_and1 (pt_cmpR op_gt (pe_kn D__law_draw hr__law_draw (pa_cons (pv 0) (pa_cons pe_int pa_nil))) pe_int (nomark _)))))
  (pss_cons (ps_if (pt_cmpR op_eq (pe_kn D__law_draw hr__law_draw (pa_cons (pv 0) (pa_cons pe_int pa_nil))) pe_int (nomark _))
  (pss_one (ps_ret (pe_tup (pa_cons pe_str (pa_cons (pe_kn D__law_changed hr__law_changed (pa_cons (pv 0) (pa_cons (pe_ix ix_tup (pv 1) pe_int (fun _ _ => rfl)) (pa_cons (pv 2) (pa_cons (pv 3) pa_nil))))) (pa_cons (pe_ix ix_tup (pv 1) pe_int (fun _ _ => rfl)) pa_nil))))))
  pss_nil)
  (pss_one (ps_ret (pe_tup (pa_cons pe_str (pa_cons (pe_ix ix_tup (pv 1) pe_int (fun _ _ => rfl)) (pa_cons (pe_kn D__law_changed hr__law_changed (pa_cons (pv 0) (pa_cons (pe_ix ix_tup (pv 1) pe_int (fun _ _ => rfl)) (pa_cons (pv 2) (pa_cons (pv 3) pa_nil))))) pa_nil)))))))
  pss_nil)
  (pss_one (ps_ret (pe_kn D__law_letter_kind hr__law_letter_kind (pa_cons (pv 0) (pa_cons (pv 2) (pa_cons (pv 3) (pa_cons pe_int pa_nil)))))))), ?_⟩
    cases kd with
    | app a d =>
      obtain ⟨m, rfl, ha, hb⟩ := Kd.fit_app hf
      obtain ⟨p, u, z, rfl, hp, hu1, hz1⟩ := id hk
      refine ⟨_, rfl, _, _, _, _, rfl, rfl, SqT.of hp, rfl, rfl, _, rfl, iT tg_aa ?_⟩
      refine ⟨_, rfl, t, c, 3, b + 2 * m + 14, rfl, by decide, by decide, hT.less (by omega), fun H1 r1 e1 t1 hr1 hr2 => ?_⟩
      have tu1 : Tups H H1 := Ext.tups e1 hT
      refine ⟨_, _, rfl, rfl, _, rfl, ite2 (fun hc => ?_) (fun hc => ?_)⟩
      · refine ⟨_, rfl, t, c, 2, b + 2 * m + 13, rfl, by decide, by decide, t1.less (by omega), fun H2 r2 e2 t2 hr21 hr22 => ⟨rfl, _, rfl, ?_⟩⟩
        have tu2 : Tups H H2 := tu1.trans (Ext.tups e2 t1)
        have E2 := e1.trans e2
        refine ite2 (fun hc2 => ?_) (fun hc2 => ?_)
        · refine ⟨_, rfl, _, rfl, _, _, _, _, rfl, rfl, SqT.of (tu2 _ _ hp), rfl, _, rfl, _, rfl, ?_⟩
          refine ⟨t, c, ln, lc, u, a, ws, b, rfl, KdAt.tups tu2 hu1, ha, SqL.extT h1 hT E2, h2, h3, h4.ext hT E2, t2, fun H3 v3 k3 e3 t3 g3 f3 => ?_⟩
          have tu3 : Tups H H3 := tu2.trans (Ext.tups e3 t2)
          refine ⟨_, rfl, _, _, _, _, rfl, rfl, SqT.of (tu3 _ _ hp), rfl, slz rfl, fun q hq => ?_⟩
          have tu4 : Tups H3 (upd H3 q (.tup [.str "apply", v3, z])) := Tups.new hq
          refine k _ _ (.app k3 d) ((E2.trans e3).trans (Ext.new hq)) (t3.new hq) ⟨q, v3, z, rfl, upd_same, KdAt.tups tu4 g3, KdAt.tups (tu3.trans tu4) hz1⟩ ?_
          exact ⟨f3, Kd.fit_mono (by omega) hb⟩
        · refine ⟨_, rfl, _, _, _, _, rfl, rfl, SqT.of (tu2 _ _ hp), rfl, ?_⟩
          refine ⟨_, rfl, _, rfl, _, _, _, _, rfl, rfl, SqT.of (tu2 _ _ hp), rfl, _, rfl, _, rfl, ?_⟩
          refine ⟨t, c, ln, lc, z, d, ws, b, rfl, KdAt.tups tu2 hz1, hb, SqL.extT h1 hT E2, h2, h3, h4.ext hT E2, t2, fun H3 v3 k3 e3 t3 g3 f3 => ?_⟩
          have tu3 : Tups H H3 := tu2.trans (Ext.tups e3 t2)
          refine ⟨slz rfl, fun q hq => ?_⟩
          have tu4 : Tups H3 (upd H3 q (.tup [.str "apply", u, v3])) := Tups.new hq
          refine k _ _ (.app a k3) ((E2.trans e3).trans (Ext.new hq)) (t3.new hq) ⟨q, u, v3, rfl, upd_same, KdAt.tups (tu3.trans tu4) hu1, KdAt.tups tu4 g3⟩ ?_
          exact ⟨Kd.fit_mono (by omega) ha, f3⟩
      · exact leaf H1 e1 (t1.less (by omega))
    | var x =>
      obtain ⟨p, rfl, hp⟩ := id hk
      refine ⟨_, rfl, _, _, _, _, rfl, rfl, SqT.of hp, rfl, rfl, _, rfl, iF tg_va (iteF ?_)⟩
      exact leaf H (Ext.refl _ _) (hT.less (by omega))
    | con x =>
      obtain ⟨p, rfl, hp⟩ := id hk
      refine ⟨_, rfl, _, _, _, _, rfl, rfl, SqT.of hp, rfl, rfl, _, rfl, iF tg_ca (iteF ?_)⟩
      exact leaf H (Ext.refl _ _) (hT.less (by omega))
theorem ok_ch {f : Addr} {fd : FuncData} (F : Fun K "_law_changed" "_law_changed" s__law_changed f fd) (hm : mg "_law_changed" = some (.ref f)) (D1 : Kn P w K mg base 1 "_law_draw" ["_law_tape", "_law_many"] (spDraw K))
    (D2 : Kn P w K mg base 4 "_law_letter_kind" ["_law_tape", "_law_names", "_law_cons", "_law_deep"] (spLK K 1)) : ∀ n, FnOk P w K mg base CX0 (n + 5) f fd ["_law_tape", "_law_kind", "_law_names", "_law_cons"] (spCh K n)
  | 0 => ok_ch_step F D1 D2 ⟨f, fd, fn_false.mono (by decide), hm, F.kp, F.binds fun _ _ _ _ _ _ us hl => match us, hl with | [_, _, _, _], _ => rfl⟩
  | n + 1 => ok_ch_step F D1 D2 ⟨f, fd, ok_ch F hm D1 D2 n, hm, F.kp, F.binds fun _ _ _ _ _ _ us hl => match us, hl with | [_, _, _, _], _ => rfl⟩

/-! ### vars -/
abbrev s__law_vars : Stmt := topS 10
abbrev N__law_vars : List Str := ["_law_kinds", "_law_found", "_law_waiting", "_law_kind"]
theorem sc__law_vars : FnScope N__law_vars ["_law_kinds"] (defScope s__law_vars) := ⟨rfl, rfl, rfl, by decide +kernel, rfl, by decide +kernel, by decide +kernel⟩
def spVars (K : PySem.W.Frag) : Sp := fun vs H Q _ => ∃ (l : Addr) (xs : List V) (ks : List Kd), vs = [.ref l] ∧ SqL K H l xs ∧ KdsAt H xs ks ∧ (∀ k ∈ ks, k.fit 60) ∧ sizeL ks ≤ 100000 ∧
  ∀ (H' : Hp) (p : Addr), Same H H' → H p = none → H' p = some (.lst ((vsL ks []).map V.str)) → Q (.ref p) H'
theorem vsL_append : ∀ (a b : List Kd) (fs : List Str), vsL (a ++ b) fs = vsL b (vsL a fs)
  | [], _, _ => rfl
  | k :: r, b, fs => vsL_append r b (k.vs fs)
theorem sizeL_append : ∀ (a b : List Kd), sizeL (a ++ b) = sizeL a + sizeL b
  | [], b => (Nat.zero_add _).symm
  | k :: r, b => by
    show k.size + sizeL (r ++ b) = k.size + sizeL r + sizeL b
    rw [sizeL_append r b, Nat.add_assoc]
theorem sizeL_rev : ∀ (a : List Kd), sizeL a.reverse = sizeL a
  | [] => rfl
  | k :: r => by
    rw [List.reverse_cons, sizeL_append, sizeL_rev r]
    show sizeL r + (k.size + 0) = k.size + sizeL r
    omega
theorem sizeL_len : ∀ (a : List Kd), a.length ≤ sizeL a
  | [] => Nat.le_refl _
  | k :: r => by
    have := sizeL_len r
    have := k.size_pos
    simp only [List.length_cons, sizeL]
    omega
theorem size_line {n : Nat} (h : n ≤ 1000000) : n < sizeLine := Nat.lt_of_le_of_lt h (by decide)
theorem ok_vars {f : Addr} {fd : FuncData} (F : Fun K "_law_vars" "_law_vars" s__law_vars f fd) (B : Bl mg) : FnOk P w K mg base CX0 1 f fd ["_law_kinds"] (spVars K) := by
  refine F.ok sc__law_vars (fun vs H Q E h => ?_) (fun cdv A outer s H vs Q E hr h => ?_)
  · obtain ⟨l, xs, ks, rfl, _⟩ := h
    rfl
  · obtain ⟨l, xs, ks, rfl, h1, h2, h3, h4, k⟩ := h
    have hu64 := hr.units
    refine ⟨_, (pss_cons (ps_par (i := 1) (j := 2) (by rfl) sc__law_vars.nd rfl rfl (by decide) rfl rfl (pa_cons (pe_lst pa_nil) (pa_cons (pe_revL (pe_callTy call_list_of (by rfl) B.list (by decide +kernel) (pa_cons (pv 0) pa_nil))) pa_nil)) (by rfl))
  (pss_cons (ps_while PassesOwn.never (pt_cmpR (op_neD hu64) (pv 2) (pe_lst pa_nil) (nomark _))
  (pss_cons (ps_set (i := 3) sc__law_vars.nd rfl (Or.inl rfl) (pe_bm0 PySem.F.plainAttrs_list PySem.F.slot_list_pop PySem.F.type_list_pop mt_pop (pv 2)))
  (pss_one (ps_if (pt_cmpR op_eq (pe_ix ix_tup (pv 3) pe_int (fun _ _ => rfl)) pe_str (nomark _))
  (pss_one (ps_expr (pe_bm PySem.F.plainAttrs_list PySem.F.slot_list_extend PySem.F.type_list_extend mt_extend (pv 2) (pa_cons (pe_lst (pa_cons (pe_ix ix_tup (pv 3) pe_int (fun _ _ => rfl)) (pa_cons (pe_ix ix_tup (pv 3) pe_int (fun _ _ => rfl)) pa_nil))) pa_nil))))
  (pss_one (ps_if (PW.pt (pw_and (pt_cmpR op_eq (pe_ix ix_tup (pv 3) pe_int (fun _ _ => rfl)) pe_str (nomark _)) (pw_and1 (pt_cmpR op_notIn_seq (pe_ix ix_tup (pv 3) pe_int (fun _ _ => rfl)) (pv 1) (by rfl)))))
  (pss_one (ps_expr (pe_bm PySem.F.plainAttrs_list PySem.F.slot_list_append PySem.F.type_list_append mt_append (pv 1) (pa_cons (pe_ix ix_tup (pv 3) pe_int (fun _ _ => rfl)) pa_nil))))
  pss_nil))))))
  (pss_one (ps_ret (pv 1))))), ?_⟩
    refine ⟨slz rfl, fun lf hlf => ?_⟩
    have s1 : Same H (upd H lf (.lst [])) := same_new hlf
    refine ⟨_, rfl, l, xs, rfl, .inl (s1.seq h1), fun l2 hl2 => ?_⟩
    have s2 : Same (upd H lf (.lst [])) (upd (upd H lf (.lst [])) l2 (.lst xs)) := same_new hl2
    refine ⟨l2, xs, rfl, SqL.of upd_same, fun lw hlw => ?_⟩
    have s3 : Same (upd (upd H lf (.lst [])) l2 (.lst xs)) (upd (upd (upd H lf (.lst [])) l2 (.lst xs)) lw (.lst xs.reverse)) := same_new hlw
    have ss := (s1.trans s2).trans s3
    have nlw : H lw = none := (s1.trans s2).free hlw
    have nfw : lf ≠ lw := ne_of_none (s2 _ _ upd_same) hlw
    refine ⟨_, _, rfl, ?_⟩
    -- the loop
    refine ⟨fun m σ H' => ∃ (st : List Kd) (vs : List V) (fs : List Str) (v3 : Option V), σ = [some (.ref l), some (.ref lf), some (.ref lw), v3] ∧ Same H H' ∧ H' lf = some (.lst (fs.map V.str)) ∧ H' lw = some (.lst vs) ∧ KdsAt H' vs st ∧ m = sizeL st ∧
      (∀ k ∈ st, k.fit 60) ∧ fs.length + sizeL st ≤ 100000 ∧ vsL st.reverse fs = vsL ks [], ⟨sizeL ks, ks.reverse, xs.reverse, [], none, rfl, ss, ?_, upd_same, KdsAt.tups (same_tups ss) (paired_rev h2), (sizeL_rev ks).symm, fun q hq => h3 q (List.mem_reverse.mp hq), by rw [sizeL_rev]; simpa using h4, by rw [List.reverse_reverse]⟩, ?_⟩
    · rw [upd_ne nfw]
      exact s2 _ _ upd_same
    · rintro m σ H1 ⟨st, vs, fs, v3, rfl, s4, g1, g2, g3, rfl, g4, g5, g6⟩
      refine ⟨_, rfl, slz rfl, fun e he => ?_⟩
      have s5 : Same H1 (upd H1 e (.lst [])) := same_new he
      refine ⟨_, _, .lst (SqL.of (s5 _ _ g2)) (KdsAt.dp (KdsAt.tups (same_tups s5) g3)), .lst (SqL.of upd_same) .nil, shaped_kds g4, shaped_nil, _, rfl, ?_⟩
      rw [kds_ne]
      have S5 := s4.trans s5
      have g1' := s5 _ _ g1
      have g2' := s5 _ _ g2
      have g3' := KdsAt.tups (same_tups s5) g3
      generalize upd H1 e (.lst []) = H2 at S5 g1' g2' g3' ⊢
      clear g1 g2 g3 s5 s4
      by_cases hst : st = []
      · subst hst
        refine iteF ?_
        refine ⟨_, rfl, k H2 lf S5 hlf ?_⟩
        rw [g1']
        have : fs = vsL ks [] := g6
        rw [this]
      · have hne : (!st.isEmpty) = true := by
          cases st with
          | nil => exact absurd rfl hst
          | cons _ _ => rfl
        refine iT hne ?_
        obtain ⟨st0, kd, rfl⟩ := kds_snoc st hst
        obtain ⟨vs0, v, rfl, g31, g32⟩ := paired_last g3'
        refine ⟨fun σ' H' => ∃ (st : List Kd) (vs : List V) (fs : List Str) (v3 : Option V), σ' = [some (.ref l), some (.ref lf), some (.ref lw), v3] ∧ Same H H' ∧ H' lf = some (.lst (fs.map V.str)) ∧ H' lw = some (.lst vs) ∧ KdsAt H' vs st ∧ sizeL st < sizeL (st0 ++ [kd]) ∧
          (∀ k ∈ st, k.fit 60) ∧ fs.length + sizeL st ≤ 100000 ∧ vsL st.reverse fs = vsL ks [], ?_, ?_⟩
        · rintro σ' H' ⟨st, vs, fs, v3, e1, e2, e3, e4, e5, e6, e7, e8, e9⟩
          exact ⟨sizeL st, e6, st, vs, fs, v3, e1, e2, e3, e4, e5, rfl, e7, e8, e9⟩
        · have lsz : sizeL (st0 ++ [kd]) = sizeL st0 + kd.size := by rw [sizeL_append]; rfl
          rw [List.reverse_append] at g6
          have g6' : vsL st0.reverse (kd.vs fs) = vsL ks [] := g6
          have fitk := g4 kd (List.mem_append_right _ List.mem_cons_self)
          have fit0 : ∀ k ∈ st0, k.fit 60 := fun q hq => g4 q (List.mem_append_left _ hq)
          have S6 : Same H (upd H2 lw (.lst vs0)) := fun b o z => by
            rw [upd_ne (ne_of_none z nlw)]
            exact S5 _ _ z
          have tu : Tups H2 (upd H2 lw (.lst vs0)) := Tups.put g2' (by intro xs z; cases z)
          have gf : (upd H2 lw (.lst vs0)) lf = some (.lst (fs.map V.str)) := by rw [upd_ne nfw]; exact g1'
          refine ⟨_, rfl, .inl ⟨rfl, _, SqL.of g2'⟩, lw, vs0 ++ [v], v, rfl, rfl, g2', by simp, ?_⟩
          rw [List.dropLast_concat]
          have gw : (upd H2 lw (.lst vs0)) lw = some (.lst vs0) := upd_same
          have k1 := KdsAt.tups tu g31
          have k2 := KdAt.tups tu g32
          generalize upd H2 lw (.lst vs0) = H3 at S6 gf gw k1 k2 ⊢
          clear tu
          have hs1 := kd.size_pos
          cases kd with
          | app a d =>
            obtain ⟨p, u, z, rfl, hp, ha, hd⟩ := id k2
            obtain ⟨j, ej, fa, fd'⟩ := Kd.fit_app fitk
            have ej' : j = 59 := by omega
            subst ej'
            refine ⟨_, rfl, _, _, _, _, rfl, rfl, SqT.of hp, rfl, rfl, _, rfl, iT tg_aa ?_⟩
            refine ⟨_, rfl, .inl ⟨rfl, _, SqL.of gw⟩, _, rfl, _, _, _, _, rfl, rfl, SqT.of hp, rfl, _, rfl, _, _, _, _, rfl, rfl, SqT.of hp, rfl, slz rfl, fun q hq => ?_⟩
            have s7 : Same H3 (upd H3 q (.lst [z, u])) := same_new hq
            have nq : lw ≠ q := ne_of_none gw hq
            have lnv : vs0.length ≤ 100000 := by
              have := sizeL_len st0
              rw [Paired.length k1]
              omega
            refine ⟨lw, q, vs0, [z, u], rfl, rfl, s7 _ _ gw, upd_same, Nat.le_of_lt (size_line (by simp; omega)), ?_⟩
            have tu8 : Tups H3 (upd (upd H3 q (.lst [z, u])) lw (.lst (vs0 ++ [z, u]))) := (same_tups s7).trans (Tups.put (s7 _ _ gw) (by intro xs z; cases z))
            refine ⟨st0 ++ [d, a], vs0 ++ [z, u], fs, _, rfl, fun b o zz => ?_, ?_, upd_same, ?_, ?_, ?_, ?_, ?_⟩
            · rw [upd_ne (ne_of_none zz nlw)]
              exact s7 _ _ (S6 _ _ zz)
            · rw [upd_ne nfw]
              exact s7 _ _ gf
            · have q1 := KdsAt.tups tu8 k1
              have q2 := Paired.snoc (Paired.snoc q1 (KdAt.tups tu8 hd)) (KdAt.tups tu8 ha)
              rw [List.append_assoc, List.append_assoc] at q2
              exact q2
            · rw [sizeL_append, lsz]
              simp only [sizeL, Kd.size]
              omega
            · intro k hk
              rcases List.mem_append.mp hk with q | q
              · exact fit0 k q
              · rcases List.mem_cons.mp q with q | q
                · rw [q]; exact Kd.fit_mono (by omega) fd'
                · rw [List.mem_singleton.mp q]; exact Kd.fit_mono (by omega) fa
            · rw [sizeL_append]
              rw [lsz] at g5
              simp only [sizeL, Kd.size] at g5 ⊢
              omega
            · rw [List.reverse_append]
              exact g6'
          | var x =>
            obtain ⟨p, rfl, hp⟩ := id k2
            refine ⟨_, rfl, _, _, _, _, rfl, rfl, SqT.of hp, rfl, rfl, _, rfl, iF tg_va ?_⟩
            refine ⟨_, rfl, _, _, _, _, rfl, rfl, SqT.of hp, rfl, rfl, _, rfl, iT tg_vv ?_⟩
            refine ⟨_, rfl, _, _, _, _, rfl, rfl, SqT.of hp, rfl, _, rfl, lf, _, rfl, .inl (SqL.of gf), rfl, flat_words fs, _, rfl, ?_⟩
            show if (!inV (.str x) (fs.map V.str)) = true then _ else _
            rw [inV_words]
            by_cases hx : x ∈ fs
            · refine iF (by rw [decide_eq_true hx]; rfl) ?_
              refine ⟨st0, vs0, fs, _, rfl, S6, gf, gw, k1, by rw [lsz]; omega, fit0, by rw [lsz] at g5; omega, ?_⟩
              rw [← g6']
              show vsL st0.reverse fs = vsL st0.reverse (addV fs x)
              unfold addV
              rw [if_pos hx]
            · refine iT (by rw [decide_eq_false hx]; rfl) ?_
              have lnf : fs.length ≤ 100000 := by omega
              refine ⟨_, rfl, .inl ⟨rfl, _, SqL.of gf⟩, _, rfl, _, _, _, _, rfl, rfl, SqT.of hp, rfl, lf, _, _, rfl, rfl, gf, by rw [List.length_map]; exact size_line (by omega), ?_⟩
              have tu8 : Tups H3 (upd H3 lf (.lst (fs.map V.str ++ [V.str x]))) := Tups.put gf (by intro xs z; cases z)
              refine ⟨st0, vs0, fs ++ [x], _, rfl, fun b o zz => ?_, by rw [upd_same, List.map_append]; rfl, by rw [upd_ne nfw.symm]; exact gw, KdsAt.tups tu8 k1, by rw [lsz]; omega, fit0, ?_, ?_⟩
              · rw [upd_ne (ne_of_none zz hlf)]
                exact S6 _ _ zz
              · rw [lsz] at g5
                simp only [Kd.size, List.length_append, List.length_singleton] at g5 ⊢
                omega
              · rw [← g6']
                show vsL st0.reverse (fs ++ [x]) = vsL st0.reverse (addV fs x)
                unfold addV
                rw [if_neg hx]
          | con x =>
            obtain ⟨p, rfl, hp⟩ := id k2
            refine ⟨_, rfl, _, _, _, _, rfl, rfl, SqT.of hp, rfl, rfl, _, rfl, iF tg_ca ?_⟩
            refine ⟨_, rfl, _, _, _, _, rfl, rfl, SqT.of hp, rfl, rfl, _, rfl, iF tg_cv ?_⟩
            refine iteF ?_
            exact ⟨st0, vs0, fs, _, rfl, S6, gf, gw, k1, by rw [lsz]; omega, fit0, by rw [lsz] at g5; omega, g6'⟩
end
end L3

namespace L3
open PySem L2
section
variable {P : Program} {w : World} {K : PySem.W.Frag} {mg : Str → Option Value} {base : Heap}
/-- all but the dict at d is kept -/
theorem ext_tupsD {d : Addr} {H H' : Hp} {kvs : List (Key × V)} (e : Ext d H H') (h : H d = some (.dK kvs)) : Tups H H' := fun q xs z => e q _ (ne_of z h (by intro r; cases r)) z
theorem byAt_len {H : Hp} {kvs : List (Key × V)} {b : By} (h : ByAt H kvs b) : kvs.length = b.length := Paired.length h
/-! ### fit -/
abbrev s__law_fit : Stmt := topS 11
abbrev N__law_fit : List Str := ["_law_pattern", "_law_kind", "_law_by"]
theorem sc__law_fit : FnScope N__law_fit ["_law_pattern", "_law_kind", "_law_by"] (defScope s__law_fit) := ⟨rfl, rfl, rfl, by decide +kernel, rfl, by decide +kernel, by decide +kernel⟩
def spFit (K : PySem.W.Frag) (n : Nat) : Sp := fun vs H Q _ => ∃ (v1 v2 : V) (d : Addr) (p k : Kd) (kvs : List (Key × V)) (b : By), vs = [v1, v2, .ref d] ∧ KdAt H v1 p ∧ KdAt H v2 k ∧ p.fit n ∧ n ≤ 60 ∧ k.fit 60 ∧ H d = some (.dK kvs) ∧ ByAt H kvs b ∧ (∀ q ∈ b, q.2.fit 60) ∧ b.length + p.size ≤ 100000 ∧
  ∀ (H' : Hp) (kvs' : List (Key × V)), Ext d H H' → H' d = some (.dK kvs') → ByAt H' kvs' (p.mt k b).2 → Q (.bl (p.mt k b).1) H'
theorem ok_fit_step {n : Nat} {f : Addr} {fd : FuncData} (F : Fun K "_law_fit" "_law_fit" s__law_fit f fd) (D__law_fit : Kn P w K mg base n "_law_fit" ["_law_pattern", "_law_kind", "_law_by"] (spPrev (spFit K) n)) : FnOk P w K mg base CX0 (n + 1) f fd ["_law_pattern", "_law_kind", "_law_by"] (spFit K n) := by
  refine F.ok sc__law_fit (fun vs H Q E h => ?_) (fun cdv A outer s H vs Q E hr h => ?_)
  · obtain ⟨v1, v2, d, p, k, kvs, b, rfl, _⟩ := h
    rfl
  · obtain ⟨v1, v2, d, p, kd, kvs, b, rfl, hp, hk, fp, hn, fk, hd, hb, fb, hl, k⟩ := h
    have hr__law_fit := hr
    have hu := hu_of hr
    have hu64 := hr.units
    refine ⟨_, (pss_cons (ps_if (pt_cmpR op_eq (pe_ix ix_tup (pv 0) pe_int (fun _ _ => rfl)) pe_str (nomark _))
  (pss_cons (ps_expr (pe_dsetd (pv 2) (pe_ix ix_tup (pv 0) pe_int (fun _ _ => rfl)) (pv 1) ⟨rfl, rfl, rfl, rfl⟩))
  (pss_one (ps_ret (pe_cmpR (op_eqD hu64) (pe_dget hu (pv 2) (pe_ix ix_tup (pv 0) pe_int (fun _ _ => rfl)) (fun _ _ => rfl)) (pv 1) (nomark _)))))
  pss_nil)
  (pss_cons (ps_if (pt_cmpR op_ne (pe_ix ix_tup (pv 0) pe_int (fun _ _ => rfl)) (pe_ix ix_tup (pv 1) pe_int (fun _ _ => rfl)) (nomark _))
  (pss_one (ps_ret pe_bl))
  pss_nil)
  (pss_cons (ps_if (pt_cmpR op_eq (pe_ix ix_tup (pv 0) pe_int (fun _ _ => rfl)) pe_str (nomark _))
  (pss_one (ps_ret (pe_cmpR (op_eqD hu64) (pv 0) (pv 1) (nomark _))))
  pss_nil)
  (pss_one (ps_ret (pe_and (pe_kn D__law_fit hr__law_fit (pa_cons (pe_ix ix_tup (pv 0) pe_int (fun _ _ => rfl)) (pa_cons (pe_ix ix_tup (pv 1) pe_int (fun _ _ => rfl)) (pa_cons (pv 2) pa_nil)))) (pe_one (pe_kn D__law_fit hr__law_fit (pa_cons (pe_ix ix_tup (pv 0) pe_int (fun _ _ => rfl)) (pa_cons (pe_ix ix_tup (pv 1) pe_int (fun _ _ => rfl)) (pa_cons (pv 2) pa_nil))))))))))), ?_⟩
    cases p with
    | var x =>
      obtain ⟨a, rfl, ha⟩ := id hp
      refine ⟨_, rfl, _, _, _, _, rfl, rfl, SqT.of ha, rfl, rfl, _, rfl, iT tg_vv ?_⟩
      refine ⟨_, rfl, d, rfl, .inl ⟨_, .inl hd⟩, _, rfl, _, _, _, _, rfl, rfl, SqT.of ha, rfl, _, rfl, kvs, .inr x, hd, rfl, size_line (by rw [byAt_len hb]; omega), ?_⟩
      have fin : ∀ (H1 : Hp) (kvs1 : List (Key × V)) (v : V) (k1 : Kd), Ext d H H1 → H1 d = some (.dK kvs1) → valV kvs1 (.inr x) = some v → KdAt H1 v k1 → k1.fit 60 →
          (∀ Q' : VK, (Q' (.bl (decide (k1 = kd))) H1) → tOp (rEqD K) (tDGet (tVar 2) (tOp (rIxT K) (tVar 0) (tC (.int 1)))) (tVar 1) [some (.ref a), some v2, some (.ref d)] H1 Q') := by
        intro H1 kvs1 v k1 e1 d1 g1 g2 g3 Q' q
        have tu := ext_tupsD e1 hd
        refine ⟨_, rfl, _, rfl, _, _, _, _, rfl, rfl, SqT.of (tu _ _ ha), rfl, d, v, rfl, by rw [← g1]; exact DGet.k (k := .inr x) d1, _, rfl, _, _, g2.dp, (KdAt.tups tu hk).dp, Kd.shaped g3 (by decide), Kd.shaped fk (by decide), ?_⟩
        rw [Kd.eqv]
        exact q
      rcases hb.get x with ⟨e1, e2⟩ | ⟨v, k1, e1, e2, g⟩
      · refine ⟨fun v q => (by rw [e1] at q; cases q), fun _ => ?_⟩
        have em : (Kd.var x).mt kd b = (true, b ++ [(x, kd)]) := by simp only [Kd.mt, e2]
        have tu : Tups H (upd H d (.dK (putK kvs (.inr x) v2))) := ext_tupsD Ext.put hd
        refine fin _ _ v2 kd Ext.put upd_same (by rw [valV_put, if_pos rfl]) (KdAt.tups tu hk) fk _ ?_
        rw [decide_eq_true rfl]
        have q := k (upd H d (.dK (putK kvs (.inr x) v2))) (putK kvs (.inr x) v2) Ext.put upd_same (by
          rw [em, putK_new _ e1]
          exact Paired.snoc (ByAt.tups (ext_tupsD Ext.put hd) hb) ⟨rfl, KdAt.tups (ext_tupsD Ext.put hd) hk⟩)
        rw [em] at q
        exact q
      · refine ⟨fun v' q => ?_, fun q => (by rw [e1] at q; cases q)⟩
        have em : (Kd.var x).mt kd b = (decide (k1 = kd), b) := by simp only [Kd.mt, e2]
        refine fin H kvs v k1 (Ext.refl _ _) hd e1 g (fb _ (lk_mem e2)) _ ?_
        have q := k H kvs (Ext.refl _ _) hd (by rw [em]; exact hb)
        rw [em] at q
        exact q
    | con x =>
      obtain ⟨a, rfl, ha⟩ := id hp
      obtain ⟨a2, xs2, rfl, ha2, hx2⟩ := hk.top
      have e0 : atI xs2 0 = some (.str kd.tag) := atI_nat (j := 0) hx2
      refine ⟨_, rfl, _, _, _, _, rfl, rfl, SqT.of ha, rfl, rfl, _, rfl, iF tg_cv ?_⟩
      refine ⟨_, rfl, _, _, _, _, rfl, rfl, SqT.of ha, rfl, _, rfl, _, _, _, _, rfl, rfl, SqT.of ha2, e0, rfl, _, rfl, ?_⟩
      have fin : Kd.con x = kd ∨ True → tRet (tOp (rEqD K) (tVar 0) (tVar 1)) { nx := fun _ H' => Q .non H', rt := Q } [some (.ref a), some (.ref a2), some (.ref d)] H := by
        intro _
        refine ⟨_, rfl, _, rfl, _, _, hp.dp, hk.dp, Kd.shaped fp hn, Kd.shaped fk (by decide), ?_⟩
        rw [Kd.eqv]
        exact k H kvs (Ext.refl _ _) hd hb
      cases kd with
      | con y =>
        refine iF (by show (!decide (V.str ("con" : Str) = V.str ("con" : Str))) = false; rw [tg_cc]; rfl) ?_
        refine ⟨_, rfl, _, _, _, _, rfl, rfl, SqT.of ha, rfl, rfl, _, rfl, iT tg_cc ?_⟩
        exact fin (.inr trivial)
      | var y =>
        refine iT (by show (!decide (V.str ("con" : Str) = V.str ("var" : Str))) = true; rw [tg_cv]; rfl) ?_
        exact k H kvs (Ext.refl _ _) hd hb
      | app y z =>
        refine iT (by show (!decide (V.str ("con" : Str) = V.str ("apply" : Str))) = true; rw [tg_ca]; rfl) ?_
        exact k H kvs (Ext.refl _ _) hd hb
    | app p1 p2 =>
      obtain ⟨m, rfl, f1, f2⟩ := Kd.fit_app fp
      obtain ⟨a, u, z, rfl, ha, hu1, hz1⟩ := id hp
      obtain ⟨a2, xs2, rfl, ha2, hx2⟩ := hk.top
      have e0 : atI xs2 0 = some (.str kd.tag) := atI_nat (j := 0) hx2
      refine ⟨_, rfl, _, _, _, _, rfl, rfl, SqT.of ha, rfl, rfl, _, rfl, iF tg_av ?_⟩
      refine ⟨_, rfl, _, _, _, _, rfl, rfl, SqT.of ha, rfl, _, rfl, _, _, _, _, rfl, rfl, SqT.of ha2, e0, rfl, _, rfl, ?_⟩
      cases kd with
      | con y =>
        refine iT (by show (!decide (V.str ("apply" : Str) = V.str ("con" : Str))) = true; rw [tg_ac]; rfl) ?_
        exact k H kvs (Ext.refl _ _) hd hb
      | var y =>
        refine iT (by show (!decide (V.str ("apply" : Str) = V.str ("var" : Str))) = true; rw [tg_av]; rfl) ?_
        exact k H kvs (Ext.refl _ _) hd hb
      | app k1 k2 =>
        obtain ⟨a3, u2, z2, e3, ha3, hu2, hz2⟩ := id hk
        cases e3
        obtain ⟨j, ej, g1, g2⟩ := Kd.fit_app fk
        have g1 : k1.fit 60 := Kd.fit_mono (by omega) g1
        have g2 : k2.fit 60 := Kd.fit_mono (by omega) g2
        have hl' : b.length + (p1.size + p2.size + 1) ≤ 100000 := hl
        refine iF (by show (!decide (V.str ("apply" : Str) = V.str ("apply" : Str))) = false; rw [tg_aa]; rfl) ?_
        refine ⟨_, rfl, _, _, _, _, rfl, rfl, SqT.of ha, rfl, rfl, _, rfl, iF tg_ac ?_⟩
        refine ⟨_, rfl, _, _, _, _, rfl, rfl, SqT.of ha, rfl, _, rfl, _, _, _, _, rfl, rfl, SqT.of ha3, rfl, _, rfl, ?_⟩
        refine ⟨u, u2, d, p1, k1, kvs, b, rfl, hu1, hu2, f1, by omega, g1, hd, hb, fb, by omega, fun H1 kvs1 e1 d1 b1 => ⟨_, rfl, ?_⟩⟩
        have tu := ext_tupsD e1 hd
        obtain ⟨w1, w2⟩ := Kd.mt_grow p1 k1 b g1 fb
        by_cases h1 : (p1.mt k1 b).1 = true
        · have em : (Kd.app p1 p2).mt (.app k1 k2) b = p2.mt k2 (p1.mt k1 b).2 := by simp only [Kd.mt, if_pos h1]
          refine iT h1 ?_
          refine ⟨_, rfl, _, _, _, _, rfl, rfl, SqT.of (tu _ _ ha), rfl, _, rfl, _, _, _, _, rfl, rfl, SqT.of (tu _ _ ha3), rfl, _, rfl, ?_⟩
          refine ⟨z, z2, d, p2, k2, kvs1, _, rfl, KdAt.tups tu hz1, KdAt.tups tu hz2, f2, by omega, g2, d1, b1, w2, by omega, fun H2 kvs2 e2 d2 b2 => ?_⟩
          have q := k H2 kvs2 (e1.trans e2) d2 (by rw [em]; exact b2)
          rw [em] at q
          exact q
        · have em : (Kd.app p1 p2).mt (.app k1 k2) b = (false, (p1.mt k1 b).2) := by simp only [Kd.mt, if_neg h1]
          refine iF (by simpa using h1) ?_
          have q := k H1 kvs1 e1 d1 (by rw [em]; exact b1)
          rw [em] at q
          exact q
theorem ok_fit {f : Addr} {fd : FuncData} (F : Fun K "_law_fit" "_law_fit" s__law_fit f fd) (hm : mg "_law_fit" = some (.ref f)) : ∀ n, FnOk P w K mg base CX0 (n + 1) f fd ["_law_pattern", "_law_kind", "_law_by"] (spFit K n)
  | 0 => ok_fit_step F ⟨f, fd, fn_false, hm, F.kp, F.binds fun _ _ _ _ _ _ us hl => match us, hl with | [_, _, _], _ => rfl⟩
  | n + 1 => ok_fit_step F ⟨f, fd, ok_fit F hm n, hm, F.kp, F.binds fun _ _ _ _ _ _ us hl => match us, hl with | [_, _, _], _ => rfl⟩

/-! ### fits of the law -/
abbrev s__law_fits : Stmt := topS 12
abbrev N__law_fits : List Str := ["_law_patterns", "_law_kinds", "_law_by", "_law_pattern", "_law_kind"]
theorem sc__law_fits : FnScope N__law_fits ["_law_patterns", "_law_kinds"] (defScope s__law_fits) := ⟨rfl, rfl, rfl, by decide +kernel, rfl, by decide +kernel, by decide +kernel⟩
/-- what both look-ups hand back -/
def FitsEnd (H : Hp) (Q : VK) (r : Option By) : Prop :=
  match r with
  | none => ∀ H', Same H H' → Q .non H'
  | some b => ∀ (H' : Hp) (d : Addr) (kvs : List (Key × V)), Same H H' → H d = none → H' d = some (.dK kvs) → ByAt H' kvs b → (∀ q ∈ b, q.2.fit 60) → b.length ≤ 100000 → Q (.ref d) H'
def spLF (K : PySem.W.Frag) (n : Nat) : Sp := fun vs H Q _ => ∃ (l1 l2 : Addr) (xs ys : List V) (ps ks : List Kd), vs = [.ref l1, .ref l2] ∧ SqL K H l1 xs ∧ SqL K H l2 ys ∧ KdsAt H xs ps ∧ KdsAt H ys ks ∧ xs.length = ys.length ∧ (∀ p ∈ ps, p.fit n) ∧ n ≤ 60 ∧ (∀ k ∈ ks, k.fit 60) ∧ sizeL ps ≤ 100000 ∧
  FitsEnd H Q (mtL ps ks [])
theorem sizeL_take {ps : List Kd} {i : Nat} {p : Kd} (h : ps[i]? = some p) : sizeL (ps.take (i + 1)) = sizeL (ps.take i) + p.size := by
  rw [List.take_add_one, h, sizeL_append]
  rfl
theorem sizeL_le (ps : List Kd) (i : Nat) : sizeL (ps.take i) ≤ sizeL ps := by
  have := sizeL_append (ps.take i) (ps.drop i)
  rw [List.take_append_drop] at this
  omega
theorem mtL_at : ∀ (ps ks : List Kd) (b : By) (i : Nat) (p k : Kd), ps[i]? = some p → ks[i]? = some k → mtL (ps.drop i) (ks.drop i) b = if (p.mt k b).1 = true then mtL (ps.drop (i + 1)) (ks.drop (i + 1)) (p.mt k b).2 else none
  | [], _, _, _, _, _, h, _ => by simp at h
  | _ :: _, [], _, _, _, _, _, h => by simp at h
  | p :: ps, k :: ks, b, 0, p', k', h1, h2 => by
    cases Option.some.inj h1
    cases Option.some.inj h2
    rfl
  | _ :: ps, _ :: ks, b, i + 1, p, k, h1, h2 => mtL_at ps ks b i p k h1 h2
theorem ok_lf {n : Nat} {f : Addr} {fd : FuncData} (F : Fun K "_law_fits" "_law_fits" s__law_fits f fd) (B : Bl mg) (D__law_fit : Kn P w K mg base (n + 1) "_law_fit" ["_law_pattern", "_law_kind", "_law_by"] (spFit K n)) : FnOk P w K mg base CX0 (n + 2) f fd ["_law_patterns", "_law_kinds"] (spLF K n) := by
  refine F.ok sc__law_fits (fun vs H Q E h => ?_) (fun cdv A outer s H vs Q E hr h => ?_)
  · obtain ⟨l1, l2, xs, ys, ps, ks, rfl, _⟩ := h
    rfl
  · obtain ⟨l1, l2, xs, ys, ps, ks, rfl, h1, h2, hp, hk, hl, fp, hn, fk, hz, k⟩ := h
    have hr__law_fit := hr
    refine ⟨_, (pss_cons (ps_set (i := 2) sc__law_fits.nd rfl (Or.inl rfl) pe_dnewK)
  (pss_cons (ps_for PassesOwn.never rfl (pi_zip (by rfl) B.zip (pa_cons (pv 0) (pa_cons (pv 1) pa_nil))) (pg_tup (by rfl) (pgs_cons (pg_name (i := 3) sc__law_fits.nd rfl (Or.inl rfl)) (pgs_cons (pg_name (i := 4) sc__law_fits.nd rfl (Or.inl rfl)) pgs_nil)))
  (pss_one (ps_if (pt_not (pt_val (pe_kn D__law_fit hr__law_fit (pa_cons (pv 3) (pa_cons (pv 4) (pa_cons (pv 2) pa_nil))))))
  (pss_one (ps_ret pe_non))
  pss_nil)))
  (pss_one (ps_ret (pv 2))))), ?_⟩
    intro d hd
    have s0 : Same H (upd H d (.dK [])) := same_new hd
    refine ⟨_, rfl, _, rfl, l1, l2, xs, ys, rfl, s0.seq h1, s0.seq h2, ?_⟩
    refine RZ.for_zipL (K := K) (a := l1) (b := l2) hl (fun i σ H' => Same H H' ∧ ∃ (v3 v4 : Option V) (kvs : List (Key × V)) (b : By), σ = [some (.ref l1), some (.ref l2), some (.ref d), v3, v4] ∧ H' d = some (.dK kvs) ∧ ByAt H' kvs b ∧ (∀ q ∈ b, q.2.fit 60) ∧ b.length ≤ sizeL (ps.take i) ∧ mtL (ps.drop i) (ks.drop i) b = mtL ps ks [])
      ⟨s0, none, none, [], [], rfl, upd_same, .nil, (fun _ q => nomatch q), Nat.zero_le _, rfl⟩ (fun i σ H' ⟨s1, _⟩ => ⟨s1.seq h1, s1.seq h2⟩) ?_ ?_
    · rintro i x y T σ H1 hx hy ⟨s1, v3, v4, kvs, b, rfl, d1, b1, fb, lb, em⟩ hT
      obtain ⟨p, ep, gp⟩ := paired_get hp hx
      obtain ⟨kd, ek, gk⟩ := paired_get hk hy
      have s2 : Same H1 (upd H1 T (.tup [x, y])) := same_new hT
      have s12 := s1.trans s2
      refine ⟨T, _, rfl, SqT.of upd_same, rfl, _, _, rfl, _, _, rfl, rfl, ?_⟩
      have zt := sizeL_take ep
      have zl := sizeL_le ps (i + 1)
      have fkd := fk kd (List.mem_of_getElem? ek)
      refine ⟨_, rfl, _, rfl, _, rfl, x, y, d, p, kd, kvs, b, rfl, KdAt.tups (same_tups s12) gp, KdAt.tups (same_tups s12) gk, fp p (List.mem_of_getElem? ep), hn, fkd, s2 _ _ d1, ByAt.tups (same_tups s2) b1, fb, by omega, fun H2 kvs2 e2 d2 b2 => ⟨_, rfl, ?_⟩⟩
      obtain ⟨w1, w2⟩ := Kd.mt_grow p kd b fkd fb
      have S2 : Same H H2 := fun q o z => e2 q o (ne_of_none z hd) (s12 _ _ z)
      have ma := mtL_at ps ks b i p kd ep ek
      by_cases hm : (p.mt kd b).1 = true
      · rw [if_pos hm] at ma
        rw [hm]
        refine iteF ?_
        exact ⟨S2, _, _, kvs2, _, rfl, d2, b2, w2, by omega, by rw [← ma]; exact em⟩
      · rw [if_neg hm] at ma
        have hm' : (p.mt kd b).1 = false := by simpa using hm
        rw [hm']
        refine iteT ?_
        rw [← em, ma] at k
        exact k H2 S2
    · rintro σ H1 ⟨s1, v3, v4, kvs, b, rfl, d1, b1, fb, lb, em⟩
      have lp := Paired.length hp
      rw [List.drop_of_length_le (by omega)] at em
      have em' : some b = mtL ps ks [] := em
      rw [← em'] at k
      have zl := sizeL_le ps xs.length
      exact ⟨_, rfl, k H1 d kvs s1 hd d1 b1 fb (by omega)⟩
end
end L3

/-! repr of nested data; a law's own run, where nothing else is being shown -/
namespace L3
open PySem PySem.Spec PyProof.Rows L2
section
variable {X : Cx}
/-- repr of a list or tuple of nested data -/
def rRepr (K : PySem.W.Frag) : List V → Hp → VK → Prop := fun xs H Q => ∃ (a : Addr) (d : PyData), xs = [.ref a] ∧ Dp K H (.ref a) d ∧ d.showable = true ∧ d.hasDict = false ∧ d.depth ≤ 60 ∧ d.shown.length ≤ sizeLine ∧ Q (.str d.shown) H
theorem call_reprD (hg : X.A.guards = some []) (hu : X.A.units + 64 < cLine) : CallR X (.builtin "repr") (rRepr X.K) := by
  intro pins s σ H xs us Q I r h
  obtain ⟨a, d, rfl, hd, hs, hn, hdep, hsz, q⟩ := h
  obtain ⟨u, rfl, rx⟩ := vals1 r
  obtain rfl : u = Value.ref a := rx
  obtain ⟨as, hr⟩ := Dp.reads I d _ _ hd (show RelV (.ref a) (.ref a) from rfl)
  exact repr_of_reads' hr hs (fun z => by rw [hn] at z; cases z) hg (by omega) (fun _ _ e => e) (fun h' u tk hk => ⟨.str d.shown, H, I.kept (t' := tk) hk, ⟨u, rfl⟩, q⟩) hsz
end
/-- the law's own def, called by nobody -/
def LawRun (P : Program) (w : World) (K : PySem.W.Frag) (mg : Str → Option Value) (base : Heap) (f : Addr) (fd : FuncData) (x : Str) (sp : List V → Hp → VK → Prop) : Prop :=
  ∀ (s : Shared) (H : Hp) (args : Args) (u : Value) (v : V) (Q : VK), Env0 P w K mg base callerA [] s H → BindsTo s fd args [(x, u)] → RelV v u → sp [v] H Q → codeAny (model P w) callerA (.call (.ref f) args) (CR CX0 [] P w H s Q E0) s
section
variable {P : Program} {w : World} {K : PySem.W.Frag} {mg : Str → Option Value} {base : Heap}
theorem lawRun_of {st : Stmt} {f : Addr} {fd : FuncData} {N : List Str} {k : Nat} {x : Str} {sp : List V → Hp → VK → Prop} (F : Fun K "law" "law" st f fd) (S : FnScope N [x] (defScope st)) (hroom : Room (k + 1) callerA)
    (hbody : ∀ (cdv : Value) (s : Shared) (H : Hp) (v : V) (Q : VK), Room k (callerA.deeper (envOfC "law" (defScope st) s.heap.objs.size f cdv)) → sp [v] H Q →
      ∃ t, PSs (cxOf CX0 P w K mg base N "law" (defScope st) f cdv callerA [] s H E0).nox (defBody st) t ∧ t { nx := fun _ H' => Q .non H', rt := Q } (start N [v]) H) : LawRun P w K mg base f fd x sp := by
  obtain ⟨oc, od, kV, doc, pm, an, cdv, ct, osl, rfl, lk, hcd⟩ := F.ex
  intro s H args u v Q e0 hb rv hsp
  have inK : K.In s.heap := e0.mod.kin.keeps fun b o z => (e0.bs b o z).1
  have noL : s.heap.NoLimit := e0.mod.nolimit.keeps fun b o z => (e0.bs b o z).1
  have kinds : ∀ y ∈ ([x].zip [u] : List (Str × Value)), (defScope st).names.lookup y.1 = some .local ∨ ((defScope st).names.lookup y.1 = some .cell ∧ ((cellsFrom (s.heap.objs.size + 1) (defScope st).names []).lookup y.1).isSome = true) := by
    rintro ⟨n, z⟩ hy
    rcases S.par n (List.of_mem_zip hy).1 with q | q
    · exact Or.inl q
    · exact Or.inr ⟨q, PySem.W.cellsFrom_some _ _ _ (Or.inl q)⟩
  refine codeAny_call_function (Room.depth hroom) (inK _ _ lk) rfl S.co S.gen rfl (PySem.W.codeRec_of inK hcd) (hb _ _ _ _ ?_)
  refine wpAny_newFunctionEnv_cells S.kind kinds fun env he s1 xx => ?_
  subst he
  refine ⟨noL.keeps xx.toInCall.keep, codeAny_func ?_⟩
  obtain ⟨t, ht, hq⟩ := hbody cdv s H v Q (Room.deeper hroom _) hsp
  have J : Inv (cxOf CX0 P w K mg base N "law" (defScope st) f cdv callerA [] s H E0) [] (start N [v]) H s1 := inv_start S rfl e0 rfl (Paired.cons rv .nil) xx
  refine wpAny_mono ((PSs.nox ht).run [] s1 (start N [v]) H _ J hq) (fun fl s' hs => ?_) (fun e s' hs => hs)
  cases fl with
  | next =>
    obtain ⟨σ', H', J', q⟩ := hs
    exact ⟨V.non, H', J'.os, J'.bare, J'.base, J'.hok, rfl, q⟩
  | ret z =>
    obtain ⟨v', σ', H', J', rz, q⟩ := hs
    exact ⟨v', H', J'.os, J'.bare, J'.base, J'.hok, rz, q⟩
  | brk =>
    obtain ⟨_, _, _, q⟩ := hs
    exact q.elim
  | cont =>
    obtain ⟨_, _, _, q⟩ := hs
    exact q.elim
end
section
variable {P : Program} {w : World} {K : PySem.W.Frag} {mg mb : Str → Option Value} {fa a : Addr} {fd : FuncData} {x : Str} {sp : List V → Hp → VK → Prop} {s1 : Shared} {vs : List Value} {ns : List Int}
/-- what the law's call has to come to -/
abbrev LawEnd (s1 : Shared) (r : Result) (s' : Shared) : Prop := r = .ok (.ret (.bool true)) ∧ OldK s1.heap s'.heap ∧ s'.os = s1.os ∧ AllBare s'.gens
theorem law_core (inK : K.In s1.heap) (gl : s1.heap.Ns mainGlobals mg) (bi : s1.heap.Ns builtinsNs mb) (bb : ∀ y : Str, y ≠ "__name__" → mb y = bootBuiltins y) (nl : s1.heap.NoLimit) (ng : s1.gens = #[])
    (ob : s1.heap.get? a = some { cls := .type "list", data := .seq vs.toArray }) (run : ∀ base : Heap, K.In base → base.Ns mainGlobals mg → LawRun P w K mg base fa fd x sp)
    (bind : ∀ (s : Shared) (u : Value), BindsTo s fd ⟨[u], []⟩ [(x, u)]) (want : ∀ H : Hp, Only H → SqL K H a (ns.map V.int) → sp [.ref a] H (fun v _ => v = .bl true))
    (H : Hp) (hO : Only H) (hS : SqL K H a (ns.map V.int)) (ok : HOk P w H s1.heap) (alone : ∀ b, H b ≠ none → b = a) (off : H a ≠ none → K.lookup a = none) :
    codeAny (model P w) callerA (.call (.ref fa) ⟨[.ref a], []⟩) (LawEnd s1) s1 := by
  -- a thing that is tracked is the script
  have isA : ∀ {b : Addr} {u : HO}, H b = some u → b = a := fun {b u} q => alone b (by rw [q]; simp)
  have hid : ∀ {b : Addr} {o : Obj}, s1.heap.get? b = some o → H b = none → (hidT s1.heap H).get? b = some o := fun z n => hidT_get z n
  have dictFree : ∀ {b : Addr} {o : Obj} {es : Array DictEntry} {ep : Nat}, s1.heap.get? b = some o → o.data = .dict es ep → H b = none := by
    intro b o es ep z dd
    cases q : H b with
    | none => rfl
    | some u =>
      have e' := isA q
      subst e'
      rw [ob] at z
      cases z
      have dd' : Data.seq vs.toArray _ = Data.dict es ep := dd
      cases dd'
  have nsH : ∀ {b : Addr} {m : Str → Option Value}, s1.heap.Ns b m → (hidT s1.heap H).Ns b m := by
    rintro b m ⟨o, es, ep, z, dd, r⟩
    exact ⟨o, es, ep, hid z (dictFree z dd), dd, r⟩
  have inH : K.In (hidT s1.heap H) := by
    intro b o z
    refine hid (inK b o z) ?_
    cases q : H b with
    | none => rfl
    | some u =>
      have e' := isA q
      subst e'
      rw [off (by rw [q]; simp)] at z
      cases z
  have md : Mod K mg (hidT s1.heap H) := by
    obtain ⟨mc, z1, z2⟩ := nl
    exact ⟨inH, nsH gl, ⟨mb, nsH bi, bb⟩, ⟨mc, nsH z1, z2⟩⟩
  have e0 : Env0 P w K mg (hidT s1.heap H) callerA [] s1 H := by
    refine ⟨rfl, md, fun b o z => of_hidT z, Nat.le_of_eq (hidT_size _ _), trivial, ?_, ok, .of_eq ng⟩
    intro b hb
    exact nomatch (show b ∈ ([] : List Addr) from hb)
  refine codeAny_mono (run _ inH (nsH gl) s1 H ⟨[.ref a], []⟩ (.ref a) (.ref a) _ e0 (bind s1 (.ref a)) rfl (want H hO hS)) fun r s' h => ?_
  cases r with
  | error e => exact h.elim
  | ok fl =>
    cases fl with
    | next => exact h.elim
    | brk => exact h.elim
    | cont => exact h.elim
    | ret u =>
      obtain ⟨v, H', os, bare, un, ok', r', q⟩ := h
      obtain rfl : v = .bl true := q
      obtain rfl : u = Value.bool true := r'
      refine ⟨rfl, OldK.of_keep fun b o z => ?_, os, bare⟩
      cases q : H b with
      | none => exact un.keep b o z q (fun y => nomatch (show b ∈ ([] : List Addr) from y)) (fun y => nomatch y)
      | some u =>
        rcases hO b with y | ⟨o2, xs, y⟩
        · rw [q] at y
          cases y
        · obtain ⟨z1, _⟩ := ok b _ y
          obtain ⟨z2, _⟩ := ok' b _ (un.frzs b o2 _ y)
          rw [z] at z1
          cases z1
          exact z2
theorem law_callG (inK : K.In s1.heap) (gl : s1.heap.Ns mainGlobals mg) (bi : s1.heap.Ns builtinsNs mb) (bb : ∀ y : Str, y ≠ "__name__" → mb y = bootBuiltins y) (nl : s1.heap.NoLimit) (ng : s1.gens = #[])
    (ob : s1.heap.get? a = some { cls := .type "list", data := .seq vs.toArray }) (hi : IntsAre vs ns) (hl : ns.length ≤ sizeLine) (run : ∀ base : Heap, K.In base → base.Ns mainGlobals mg → LawRun P w K mg base fa fd x sp)
    (bind : ∀ (s : Shared) (u : Value), BindsTo s fd ⟨[u], []⟩ [(x, u)]) (want : ∀ H : Hp, Only H → SqL K H a (ns.map V.int) → sp [.ref a] H (fun v _ => v = .bl true)) :
    codeAny (model P w) callerA (.call (.ref fa) ⟨[.ref a], []⟩) (LawEnd s1) s1 := by
  have rv := vals_ints hi
  cases hk : K.lookup a with
  | some o =>
    have z := inK a o hk
    rw [ob] at z
    cases z
    have hS : SqL K (fun _ => none) a (ns.map V.int) := Or.inr ⟨_, vs.toArray, _, hk, rfl, rfl, rfl, by rw [List.size_toArray, hi.length]; exact hl, by simpa using rv⟩
    exact law_core inK gl bi bb nl ng ob run bind want (fun _ => none) (fun _ => .inl rfl) hS (fun _ _ z => nomatch (show (none : Option HO) = some _ from z)) (fun _ z => (z rfl).elim) (fun z => (z rfl).elim)
  | none =>
    let fz : HO := .frz { cls := .type "list", data := .seq vs.toArray } (.lst (ns.map V.int))
    have at1 : upd (fun _ => none) a fz a = some fz := upd_same
    refine law_core inK gl bi bb nl ng ob run bind want (upd (fun _ => none) a fz) (fun b => ?_) (.inl (.inr ⟨_, at1⟩)) (fun b u z => ?_) (fun b z => ?_) fun _ => hk
    · by_cases hb : b = a
      · rw [hb, at1]
        exact .inr ⟨_, _, rfl⟩
      · exact .inl (upd_ne hb)
    · by_cases hb : b = a
      · subst hb
        rw [at1] at z
        cases z
        exact ⟨ob, by rw [List.length_map]; exact hl, vs, _, rv, ob⟩
      · rw [upd_ne hb] at z
        cases z
    · by_cases hb : b = a
      · exact hb
      · exact (z (upd_ne hb)).elim
end
/-- the end of a law whose own def is run by LawRun -/
theorem walkG {l : PySem.W.OpenLaw} {n : Nat} {q : Program} {loose : List Str} {XP : (Str → Option Value) → Heap → Prop} {YP : World → Heap → Prop} {d : DefRec} {K : Params → PySem.W.Frag} {sp : PySem.W.Frag → List V → Hp → VK → Prop} {x : Str}
    (hn : l.most = some n) (hn2 : n ≤ sizeLine) (hdf : d.params.defaults = []) (hY : ∀ (w : World) (h : Heap), YP w h → (K w.params).In h)
    (F : ∀ (w : World) (mg : Str → Option Value) (fa : Addr) (h : Heap), (K w.params).In h → h.Ns mainGlobals mg → mg d.name = some (.ref fa) →
      ∃ fd : FuncData, (∀ (s : Shared) (u : Value), BindsTo s fd ⟨[u], []⟩ [(x, u)]) ∧ ∀ base : Heap, (K w.params).In base → base.Ns mainGlobals mg → LawRun l.prog w (K w.params) mg base fa fd x (sp (K w.params)))
    (want : ∀ (K : PySem.W.Frag) (H : Hp) (a : Addr) (ns : List Int), ns.length ≤ n → SqL K H a (ns.map V.int) → sp K [.ref a] H (fun v _ => v = .bl true)) : PySem.W.WalkO q loose XP YP l.row.toRowW d [] (fun f vs => PySem.call f vs) := by
  refine Att.attach_call hn hdf ?_
  intro w s0 s1 mg mb fa o pm cd doc a vs ns G Y ho hd hcd hmg hobj hints hlen hg
  obtain ⟨fd, hb, run⟩ := F w mg fa _ (hY w _ Y) G.T.g hmg
  exact law_callG (hY w _ Y) G.T.g G.T.b G.T.builtins G.T.nolimit hg hobj hints (Nat.le_trans hlen hn2) run hb (fun H _ hS => want _ H a ns hlen hS)
end L3

/-! list(zip(a, b)) over two lists or two tuples of one length -/
namespace L3
open PySem PySem.Spec PyProof.Rows L2
section
variable {prog : Program} {w : World} {A : Around} {E : Value → Shared → Prop} {s : Shared} {z TI TO T i1 i2 l1 l2 : Addr} {f : Bool} {oT : Obj} {xs ys : Array Value}
/-- a zip of tuples whose last pair is still out gives the next pair -/
theorem zt_item {k1 k2 : Nat} {x y : Value} {Q : Option Value → Shared → Prop} (D : ZipApart z TI TO i1 i2 l1 l2) (hz : IsZipHeld s.heap z TI TO T f) (hT : s.heap.get? T = some oT) (hTI : IsPair s.heap TI (.ref i1) (.ref i2))
    (a1 : s.heap.IsTupleIter i1 l1 k1) (a2 : s.heap.IsTupleIter i2 l2 k2) (t1 : s.heap.IsTuple l1 xs) (t2 : s.heap.IsTuple l2 ys) (ex : xs[k1]? = some x) (ey : ys[k2]? = some y)
    (q : ∀ h', IsZipHeld h' z TI TO T true → h'.IsTupleIter i1 l1 (k1 + 1) → h'.IsTupleIter i2 l2 (k2 + 1) → IsPair h' s.heap.objs.size x y → h'.objs.size = s.heap.objs.size + 1 →
      (∀ b o, b ≠ z → b ≠ i1 → b ≠ i2 → s.heap.get? b = some o → h'.get? b = some o) → Q (some (.ref s.heap.objs.size)) { s with heap := h' }) : wpAny (model prog w) A (pyNext (.ref z)) Q E s := by
  have isZip : s.TypeIs (.ref z) "zip" := ⟨_, hz, rfl⟩
  have body : ∀ (A' : Around) (E' : Value → Shared → Prop), wpAny (model prog w) A' (Builtin.«zip.__next__» ⟨[.ref z], []⟩) (fun fin s' => ∃ v, fin = .done (.ret v) ∧ Q (some v) s') E' s := by
    intro A' E'
    show wpAny _ _ (field (.ref z) 2 >>= _) _ _ s
    refine wpAny_bind (wpAny_field (i := 2) hz rfl rfl ?_)
    show wpAny _ _ (field (.ref z) 3 >>= _) _ _ s
    refine wpAny_bind (wpAny_field (i := 3) hz rfl rfl (wpAny_bind (wpAny_seqItems hTI rfl ?_)))
    refine wpAny_bind (wpAny_tupleHeld_zip hz hT fun ha hza hsa => ?_)
    rw [if_neg Bool.false_ne_true]
    refine wpAny_bind ?_
    rw [← Array.forIn_toList]
    simp only [List.forIn_nil, List.forIn_cons]
    refine wpAny_bind (wpAny_bind (wpAny_holding (wpAny_bind (RZ.nextOf_tuple_item (a1.extBut hsa.extBut D.i1z) (t1.extBut hsa.extBut D.l1z) ex fun hb b1 hsb => wpAny_pure (wpAny_pure ?_)))))
    refine wpAny_bind (wpAny_bind (wpAny_holding (wpAny_bind (RZ.nextOf_tuple_item ((a2.extBut hsa.extBut D.i2z).extBut hsb.extBut D.i12.symm) ((t2.extBut hsa.extBut D.l2z).extBut hsb.extBut D.l2i1) ey fun hc c2 hsc => wpAny_pure (wpAny_pure ?_)))))
    refine wpAny_pure ?_
    show wpAny _ _ (newTuple [x, y] >>= _) _ _ _
    refine wpAny_bind (wpAny_newTuple ?_)
    have size3 : hc.objs.size = s.heap.objs.size := (hsc.1.trans hsb.1).trans hsa.1
    have stays : ∀ b o, b ≠ z → b ≠ i1 → b ≠ i2 → s.heap.get? b = some o → hc.get? b = some o := fun b o n1 n2 n3 e => hsc.extBut b o n3 (hsb.extBut b o n2 (hsa.extBut b o n1 e))
    have pz : IsZipHeld hc z TI TO T true := hsc.extBut z _ D.i2z.symm (hsb.extBut z _ D.i1z.symm hza)
    refine wpAny_pure ⟨_, rfl, ?_⟩
    have fresh : IsPair (hc.push { cls := .type "tuple", data := .seq #[x, y] }) hc.objs.size x y := Heap.get?_push_size _ rfl
    have one : (hc.push { cls := .type "tuple", data := .seq #[x, y] }).objs.size = hc.objs.size + 1 := Heap.size_push ..
    show Q (some (.ref hc.objs.size)) _
    rw [size3] at fresh one ⊢
    exact q _ (Heap.get?_push_of_some _ pz) ((b1.extBut hsc.extBut D.i12).at fun o e => Heap.get?_push_of_some _ e) (c2.at fun o e => Heap.get?_push_of_some _ e) fresh one fun b o n1 n2 n3 e => Heap.get?_push_of_some _ (stays b o n1 n2 n3 e)
  unfold pyNext
  refine wpAny_bind (wpAny_attempt (wpAny_callSpecial?_slot (name := Str.ofString "__next__") isZip F.slot_zip_next (wpAny_call_entry F.slot_zip_next isZip F.entry_zip_next ?_ (F.args_zip_next_1 _))))
  exact wpAny_mono (body _ _) (fun fin s' ⟨v, e, h⟩ => ⟨v, e, wpAny_pure h⟩) fun _ _ h => h
theorem zt_end {k1 : Nat} {Q : Option Value → Shared → Prop} (hh : A.handled = none) (D : ZipApart z TI TO i1 i2 l1 l2) (hz : IsZipHeld s.heap z TI TO T f) (hT : s.heap.get? T = some oT) (hTI : IsPair s.heap TI (.ref i1) (.ref i2))
    (a1 : s.heap.IsTupleIter i1 l1 k1) (t1 : s.heap.IsTuple l1 xs) (ex : xs[k1]? = none)
    (q : ∀ h', (∀ b o, b ≠ z → b ≠ i1 → b ≠ i2 → s.heap.get? b = some o → h'.get? b = some o) → Q none { s with heap := h' }) : wpAny (model prog w) A (pyNext (.ref z)) Q E s := by
  have isZip : s.TypeIs (.ref z) "zip" := ⟨_, hz, rfl⟩
  unfold pyNext
  refine wpAny_bind (wpAny_attempt (wpAny_callSpecial?_slot (name := Str.ofString "__next__") isZip F.slot_zip_next (wpAny_call_entry F.slot_zip_next isZip F.entry_zip_next ?_ (F.args_zip_next_1 _))))
  show wpAny _ _ (field (.ref z) 2 >>= _) _ _ s
  refine wpAny_bind (wpAny_field (i := 2) hz rfl rfl ?_)
  show wpAny _ _ (field (.ref z) 3 >>= _) _ _ s
  refine wpAny_bind (wpAny_field (i := 3) hz rfl rfl (wpAny_bind (wpAny_seqItems hTI rfl ?_)))
  refine wpAny_bind (wpAny_tupleHeld_zip hz hT fun ha hza hsa => ?_)
  rw [if_neg Bool.false_ne_true]
  refine wpAny_bind ?_
  rw [← Array.forIn_toList]
  simp only [List.forIn_nil, List.forIn_cons]
  refine wpAny_bind (wpAny_bind (wpAny_holding (wpAny_bind (RZ.nextOf_tuple_end (s := { s with heap := ha }) hh (a1.extBut hsa.extBut D.i1z) (t1.extBut hsa.extBut D.l1z) ex fun hb e hsb he => ?_))))
  obtain ⟨o, ho, hc⟩ := he
  refine wpAny_bind (wpAny_isInstance (T := "StopIteration") (b := true) ⟨o, ho, hc⟩ isSubtype_stop ?_)
  exact wpAny_pure (q hb fun b o n1 n2 _ e => hsb b o n2 (hsa.extBut b o n1 e))
end
/-! ### a zip as a source of pairs for a list S that is being made -/
structure PSrc (prog : Program) (w : World) (z : Addr) (wr : List Addr) (n : Nat) (pr : Nat → Value × Value) (St : Nat → Addr → Heap → Prop) : Prop where
  type : ∀ i S (s : Shared), St i S s.heap → s.TypeIs (.ref z) "zip"
  self : ∀ (A : Around) (E : Value → Shared → Prop) i S (s : Shared) (Q : Value → Shared → Prop), St i S s.heap → Q (.ref z) s → wpAny (model prog w) A (pyIter (.ref z)) Q E s
  keep : ∀ i S h h', St i S h → (∀ b o, b ≠ S → h.get? b = some o → h'.get? b = some o) → St i S h'
  item : ∀ (A : Around) (E : Value → Shared → Prop) i S (s : Shared) (Q : Option Value → Shared → Prop), i < n → S < s.heap.objs.size → St i S s.heap →
    (∀ h', St (i + 1) S h' → h'.get? s.heap.objs.size = some { cls := .type "tuple", data := .seq #[(pr i).1, (pr i).2] } → h'.objs.size = s.heap.objs.size + 1 → (∀ b o, b ∉ wr → s.heap.get? b = some o → h'.get? b = some o) → Q (some (.ref s.heap.objs.size)) { s with heap := h' }) →
    wpAny (model prog w) A (pyNext (.ref z)) Q E s
  done : ∀ (A : Around) (E : Value → Shared → Prop) S (s : Shared) (Q : Option Value → Shared → Prop), A.handled = none → St n S s.heap → (∀ h', (∀ b o, b ∉ wr → s.heap.get? b = some o → h'.get? b = some o) → Q none { s with heap := h' }) →
    wpAny (model prog w) A (pyNext (.ref z)) Q E s
/-- the pairs that are out -/
structure Outs (pr : Nat → Value × Value) (lo : Addr) (h : Heap) (as : List Addr) : Prop where
  rise : as.Pairwise (· < ·)
  above : ∀ a ∈ as, lo ≤ a
  pairs : ∀ (j : Nat) (a : Addr), as[j]? = some a → h.get? a = some { cls := .type "tuple", data := .seq #[(pr j).1, (pr j).2] }
section
variable {prog : Program} {w : World} {A : Around} {E : Value → Shared → Prop} {s : Shared} {R : Result → Shared → Prop} {z : Addr} {wr : List Addr} {n : Nat} {pr : Nat → Value × Value} {St : Nat → Addr → Heap → Prop}
theorem Outs.lt {lo : Addr} {h : Heap} {as : List Addr} (g : Outs pr lo h as) {a : Addr} (ha : a ∈ as) : a < h.objs.size := by
  obtain ⟨j, hj⟩ := List.mem_iff_getElem?.mp ha
  exact Heap.lt_size (g.pairs j a hj)
theorem zip_loop (W : PSrc prog w z wr n pr St) {S lo : Addr} (hh : A.handled = none) (wlo : ∀ b ∈ wr, b < lo) (Slo : S < lo) (Sw : S ∉ wr) (hn : n ≤ sizeLine) (res : Value) {h0 : Heap}
    (fin : ∀ h' tk acc c as, (∀ b o, b ≠ S → b ∉ wr → h0.get? b = some o → h'.get? b = some o) → h'.get? S = some { cls := .type "list", dict := none, data := .seq acc c, slots := #[] } → as.length = n → Outs pr lo h' as → acc.toList = as.map Value.ref →
      R (.ok (.ret res)) { s with heap := h', toks := tk }) :
    ∀ (m i : Nat) (h : Heap) (tk c : Nat) (acc : Array Value) (as : List Addr), n - i = m → i ≤ n → St i S h → (∀ b o, b ≠ S → b ∉ wr → h0.get? b = some o → h.get? b = some o) → h.get? S = some { cls := .type "list", dict := none, data := .seq acc c, slots := #[] } →
      acc.toList = as.map Value.ref → as.length = i → Outs pr lo h as → lo ≤ h.objs.size → codeAny (model prog w) A (.builtin "list.extend.loop" ⟨[.ref S, .ref z, res], []⟩) R { s with heap := h, toks := tk } := by
  intro m
  induction m with
  | zero =>
    intro i h tk c acc as e1 e2 st kp hS ha hl g hlo
    have ein : i = n := by omega
    subst ein
    refine codeAny_builtin PySem.F.entry_extend_loop ?_
    rw [Around.under_plainId PySem.F.plain_extend_loop _]
    show wpAny _ A.in1 (pyNext (.ref z) >>= _) _ _ _
    refine wpAny_bind (W.done A.in1 _ S { s with heap := h, toks := tk } _ hh st fun h' k => wpAny_pure ?_)
    exact fin h' tk acc c as (fun b o n1 n2 e => k b o n2 (kp b o n1 n2 e)) (k S _ Sw hS) hl ⟨g.rise, g.above, fun j a hj => k a _ (fun q => absurd (wlo a q) (Nat.not_lt.mpr (g.above a (List.mem_of_getElem? hj)))) (g.pairs j a hj)⟩ ha
  | succ m ih =>
    intro i h tk c acc as e1 e2 st kp hS ha hl g hlo
    have lt : i < n := by omega
    have sz : acc.size = i := by rw [← Array.length_toList, ha, List.length_map, hl]
    refine codeAny_builtin PySem.F.entry_extend_loop ?_
    rw [Around.under_plainId PySem.F.plain_extend_loop _]
    show wpAny _ A.in1 (pyNext (.ref z) >>= _) _ _ _
    have Slt : S < h.objs.size := Heap.lt_size hS
    refine wpAny_bind (W.item A.in1 _ i S { s with heap := h, toks := tk } _ lt Slt st fun h' st' tup one k => ?_)
    have hS' : h'.get? S = some { cls := .type "list", dict := none, data := .seq acc c, slots := #[] } := k S _ Sw hS
    have tup' : h'.get? h.objs.size = some { cls := .type "tuple", data := .seq #[(pr i).1, (pr i).2] } := tup
    have one' : h'.objs.size = h.objs.size + 1 := one
    have nS : h.objs.size ≠ S := Nat.ne_of_gt Slt
    have off : ∀ b o, b ≠ S → h'.get? b = some o → (h'.update S (Obj.mapSeq (·.push (Value.ref h.objs.size)))).get? b = some o := fun b o nb e => (Heap.get?_update_other _ _ (Ne.symm nb)).trans e
    show wpAny _ A.in1 (updateSeq S (·.push (Value.ref h.objs.size)) >>= _) _ _ _
    refine wpAny_bind ?_
    refine wpAny_updateSeq hS' rfl (wpAny_pure ⟨plainId_quiet PySem.F.plain_extend_loop _, ?_⟩) (by rw [sz]; omega) (by show (acc.push (Value.ref h.objs.size)).size ≤ sizeLine + 1; rw [Array.size_push, sz]; omega)
    refine ih (i + 1) _ tk _ (acc.push (Value.ref h.objs.size)) (as ++ [h.objs.size]) (by omega) lt (W.keep _ _ _ _ st' off) (fun b o n1 n2 e => off b o n1 (k b o n2 (kp b o n1 n2 e))) (Heap.get?_update_self _ hS' rfl)
      (by rw [Array.toList_push, ha, List.map_append]; rfl) (by rw [List.length_append, hl]; rfl) ⟨?_, ?_, ?_⟩ ?_
    · refine List.pairwise_append.mpr ⟨g.rise, List.pairwise_singleton _ _, ?_⟩
      intro a q b q'
      obtain rfl := List.mem_singleton.mp q'
      exact g.lt q
    · intro a q
      rcases List.mem_append.mp q with q | q
      · exact g.above a q
      · obtain rfl := List.mem_singleton.mp q
        exact hlo
    · intro j b hj
      by_cases jl : j < as.length
      · rw [List.getElem?_append_left jl] at hj
        have ab := g.above b (List.mem_of_getElem? hj)
        exact off b _ (Nat.ne_of_gt (Nat.lt_of_lt_of_le Slo ab)) (k b _ (fun q => absurd (wlo b q) (Nat.not_lt.mpr ab)) (g.pairs j b hj))
      · rw [List.getElem?_append_right (by omega)] at hj
        have j0 : j - as.length = 0 := by
          cases q : j - as.length with
          | zero => rfl
          | succ r => rw [q] at hj; simp at hj
        have ej : j = i := by omega
        rw [j0] at hj
        obtain rfl : h.objs.size = b := Option.some.inj hj
        rw [ej]
        exact off _ _ nS tup'
    · have e : (h'.update S (Obj.mapSeq (·.push (Value.ref h.objs.size)))).get? h.objs.size = _ := off _ _ nS tup'
      exact Nat.le_trans hlo (Nat.le_of_lt (Heap.lt_size e))
theorem nolen_zip : typeLookup (.type "zip") "__len__" = pure none := by rw [typeLookup_type, builtinLookup_eq_fast]; kernel_rfl
theorem nohint_zip : typeLookup (.type "zip") "__length_hint__" = pure none := by rw [typeLookup_type, builtinLookup_eq_fast]; kernel_rfl
/-- the list's end behind the call -/
def ListOut (n : Nat) (pr : Nat → Value × Value) (wr : List Addr) (lo : Addr) (s : Shared) (Q : Value → Shared → Prop) : Prop :=
  ∀ h' tk acc c as, (∀ b o, b ∉ wr → s.heap.get? b = some o → h'.get? b = some o) → h'.get? s.heap.objs.size = some { cls := .type "list", dict := none, data := .seq acc c, slots := #[] } → as.length = n → Outs pr lo h' as → acc.toList = as.map Value.ref →
    Q (.ref s.heap.objs.size) { s with heap := h', toks := tk }
theorem call_list_zip {Q : Value → Shared → Prop} (W : PSrc prog w z wr n pr St) (hh : A.handled = none) (st : ∀ h', (∀ b o, s.heap.get? b = some o → h'.get? b = some o) → St 0 s.heap.objs.size h') (wlt : ∀ b ∈ wr, b < s.heap.objs.size) (zlt : z < s.heap.objs.size) (hn : n ≤ sizeLine)
    (q : ListOut n pr wr (s.heap.objs.size + 1) s Q) : wpAny (model prog w) A (call (.type "list") [.ref z]) Q E s := by
  refine callType_codes (Q₁ := fun obj s' => obj = .ref s.heap.objs.size ∧ s' = { s with heap := s.heap.push { cls := .type "list", data := .seq #[] } }) PySem.F.called_list (PySem.F.typeCall_list_1 _) PySem.F.entry_list_init (code_list_new _ ⟨rfl, rfl⟩) ?_
  rintro obj s' ⟨rfl, rfl⟩
  have at0 : (s.heap.push { cls := .type "list", data := .seq #[] }).get? s.heap.objs.size = some { cls := .type "list", data := .seq #[] } := Heap.get?_push_size _ rfl
  refine ⟨⟨_, at0, rfl⟩, PySem.F.args_list_init_2 _ _, ?_⟩
  show wpAny _ A.in1.in1 (do let old ← Builtin.List.listItems (.ref s.heap.objs.size); Builtin.List.listUpdate (.ref s.heap.objs.size) (fun _ => #[]); letGo old.toList.reverse; Builtin.List.listExtendWith (.ref s.heap.objs.size) (.ref z) .none) _ _ _
  refine wpAny_bind ?_
  unfold Builtin.List.listItems
  refine wpAny_bind (wpAny_seqItems at0 rfl (wpAny_pure ?_))
  show wpAny _ A.in1.in1 (updateSeq s.heap.objs.size (fun _ => #[]) >>= fun _ => letGo (#[] : Array Value).toList.reverse >>= fun _ => Builtin.List.listExtendWith (.ref s.heap.objs.size) (.ref z) .none) _ _ _
  refine wpAny_bind (wpAny_updateSeq at0 rfl (wpAny_bind (wpAny_letGo ?_)))
  have at1 := Heap.get?_update_self (Obj.mapSeq (fun _ => (#[] : Array Value))) at0 rfl
  have k1 : ∀ b o, s.heap.get? b = some o → ((s.heap.push { cls := .type "list", data := .seq #[] }).update s.heap.objs.size (Obj.mapSeq (fun _ => (#[] : Array Value)))).get? b = some o :=
    fun b o e => (Heap.get?_update_other _ _ (Nat.ne_of_gt (Heap.lt_size e))).trans (Heap.get?_push_of_some _ e)
  have st1 := st _ k1
  have zz : (Value.type "zip" == Value.type "list") = false := by decide
  have zt : (Value.type "zip" == Value.type "tuple") = false := by decide
  have nsame : Builtin.List.listSameRef (.ref s.heap.objs.size) (.ref z) = false := by simp [Builtin.List.listSameRef, Nat.ne_of_gt zlt]
  unfold Builtin.List.listExtendWith
  refine wpAny_bind (wpAny_typeOf (W.type 0 _ { s with heap := (s.heap.push { cls := .type "list", data := .seq #[] }).update s.heap.objs.size (Obj.mapSeq (fun _ => (#[] : Array Value))) } st1) ?_)
  simp only [nsame, zz, zt, Bool.or_false, Bool.false_eq_true, if_false]
  refine wpAny_bind (W.self _ _ 0 _ _ _ st1 (wpAny_bind (wpAny_holding ?_)))
  have isz := W.type 0 _ { s with heap := (s.heap.push { cls := .type "list", data := .seq #[] }).update s.heap.objs.size (Obj.mapSeq (fun _ => (#[] : Array Value))) } st1
  unfold Builtin.List.listLengthHint
  refine wpAny_bind (wpAny_specialOf isz nolen_zip ?_)
  show wpAny _ A.in1.in1 (specialOf (Value.ref z) (Str.ofString "__length_hint__") >>= _) _ _ _
  refine wpAny_bind (wpAny_specialOf isz nohint_zip (wpAny_pure ?_))
  show wpAny _ A.in1.in1 (rule "list.extend.makes-room" >>= fun _ => Builtin.List.listTouch (.ref s.heap.objs.size) >>= fun _ => again (.builtin "list.extend.loop" ⟨[.ref s.heap.objs.size, .ref z, .none], []⟩)) _ _ _
  refine wpAny_bind (wpAny_rule (wpAny_bind ?_))
  show wpAny _ A.in1.in1 (updateSeq s.heap.objs.size (·.push .none) >>= fun _ => updateSeq s.heap.objs.size (·.pop)) _ _ _
  refine wpAny_bind (wpAny_updateSeq at1 rfl ?_)
  have at2 := Heap.get?_update_self (Obj.mapSeq (·.push Value.none)) at1 rfl
  refine wpAny_updateSeq (hz := by seq_fits) at2 rfl ?_
  have at3 := Heap.get?_update_self (Obj.mapSeq (·.pop)) at2 rfl
  have k3 : ∀ b o, s.heap.get? b = some o → ((((s.heap.push { cls := .type "list", data := .seq #[] }).update s.heap.objs.size (Obj.mapSeq (fun _ => (#[] : Array Value)))).update s.heap.objs.size (Obj.mapSeq (·.push Value.none))).update s.heap.objs.size (Obj.mapSeq (·.pop))).get? b = some o := by
    intro b o e
    have nb := Nat.ne_of_gt (Heap.lt_size e)
    exact (Heap.get?_update_other _ _ nb).trans ((Heap.get?_update_other _ _ nb).trans (k1 b o e))
  have big : s.heap.objs.size + 1 ≤ ((((s.heap.push { cls := .type "list", data := .seq #[] }).update s.heap.objs.size (Obj.mapSeq (fun _ => (#[] : Array Value)))).update s.heap.objs.size (Obj.mapSeq (·.push Value.none))).update s.heap.objs.size (Obj.mapSeq (·.pop))).objs.size := Heap.lt_size at3
  refine wpAny_pure ⟨plainId_quiet F.plain_extend_loop _, ?_⟩
  refine zip_loop (s := s) (A := A.in1) W (S := s.heap.objs.size) (lo := s.heap.objs.size + 1) (h0 := s.heap) hh (fun b q => Nat.lt_succ_of_lt (wlt b q)) (Nat.lt_succ_self _) (fun q => absurd (wlt _ q) (Nat.lt_irrefl _)) hn .none ?_ n 0 _ s.toks _ #[] [] rfl (Nat.zero_le _) (st _ k3) (fun b o _ _ e => k3 b o e) at3 rfl rfl ⟨List.Pairwise.nil, fun _ q => (nomatch q), fun j a q => by simp at q⟩ big
  intro h' tk acc c as kp hS hl g ha
  exact ⟨rfl, q h' tk acc c as (fun b o n2 e => kp b o (Nat.ne_of_lt (Heap.lt_size e)) n2 e) hS hl g ha⟩
end

theorem psrc_lists {prog : Program} {w : World} {z TI TO i1 i2 l1 l2 : Addr} (D : ZipApart z TI TO i1 i2 l1 l2) (xs ys : Array Value) (hn : xs.size = ys.size) : PSrc prog w z [z, TO, i1, i2] xs.size (fun i => (xs.getD i .none, ys.getD i .none))
    (fun i S h => IsPair h TI (.ref i1) (.ref i2) ∧ h.IsListIter i1 l1 i ∧ h.IsListIter i2 l2 i ∧ h.IsList l1 xs ∧ h.IsList l2 ys ∧ (S ≠ z ∧ S ≠ TI ∧ S ≠ TO ∧ S ≠ i1 ∧ S ≠ i2 ∧ S ≠ l1 ∧ S ≠ l2) ∧
      ((IsZip h z TI TO .none ∧ ∃ a b, IsPair h TO a b) ∨ ∃ T f oT, IsZipHeld h z TI TO T f ∧ h.get? T = some oT ∧ T ≠ z ∧ T ≠ i1 ∧ T ≠ i2 ∧ T ≠ S)) where
  type := by
    rintro i S s ⟨_, _, _, _, _, _, ⟨hz, _⟩ | ⟨T, f, oT, hz, _⟩⟩
    · exact ⟨_, hz, rfl⟩
    · exact ⟨_, hz, rfl⟩
  self := by
    rintro A E i S s Q ⟨_, _, _, _, _, _, ⟨hz, _⟩ | ⟨T, f, oT, hz, _⟩⟩ q
    · exact wpAny_pyIter_zip hz q
    · have isz : s.TypeIs (.ref z) "zip" := ⟨_, hz, rfl⟩
      exact wpAny_pyIter_slot isz F.slot_zip_iter (wpAny_call_entry F.slot_zip_iter isz F.entry_zip_iter (wpAny_pure ⟨_, rfl, "zip", _, isz, F.slot_zip_next.lookup, q⟩) (F.args_zip_iter_1 _))
  keep := by
    rintro i S h h' ⟨p, a1, a2, t1, t2, ⟨n1, n2, n3, n4, n5, n6, n7⟩, hz⟩ k
    refine ⟨k _ _ n2.symm p, a1.at fun o e => k _ o n4.symm e, a2.at fun o e => k _ o n5.symm e, t1.at fun o e => k _ o n6.symm e, t2.at fun o e => k _ o n7.symm e, ⟨n1, n2, n3, n4, n5, n6, n7⟩, ?_⟩
    rcases hz with ⟨hz, a, b, ho⟩ | ⟨T, f, oT, hz, hT, r1, r2, r3, r4⟩
    · exact .inl ⟨k _ _ n1.symm hz, a, b, k _ _ n3.symm ho⟩
    · exact .inr ⟨T, f, oT, k _ _ n1.symm hz, k _ _ r4 hT, r1, r2, r3, r4⟩
  item := by
    rintro A E i S s Q lt Slt ⟨p, a1, a2, t1, t2, ns, hz⟩ q
    have ex : xs[i]? = some (xs.getD i .none) := by simp [Array.getD, lt]
    have ey : ys[i]? = some (ys.getD i .none) := by
      have : i < ys.size := by omega
      simp [Array.getD, this]
    have new : ∀ {b o}, s.heap.get? b = some o → s.heap.objs.size ≠ b := fun e => Nat.ne_of_gt (Heap.lt_size e)
    have ni1 : s.heap.objs.size ≠ i1 := let ⟨_, e, _⟩ := a1; new e
    have ni2 : s.heap.objs.size ≠ i2 := let ⟨_, e, _⟩ := a2; new e
    rcases hz with ⟨hz, a, b, ho⟩ | ⟨T, f, oT, hz, hT, r1, r2, r3, r4⟩
    · refine wpAny_pyNext_zip_item D hz p ho a1 a2 t1 t2 ex ey fun h' c1 c2 c3 c4 c5 c6 k => ?_
      refine q h' ⟨k _ _ D.TIz D.TITO D.TIi1 D.TIi2 p, c3, c4, t1.at fun o e => k _ o D.l1z D.l1TO D.l1i1 D.l1i2 e, t2.at fun o e => k _ o D.l2z D.l2TO D.l2i1 D.l2i2 e, ns, .inr ⟨s.heap.objs.size, false, _, c1, c5, new hz, ni1, ni2, Nat.ne_of_gt Slt⟩⟩ c5 c6 fun b o nb e => ?_
      simp only [List.mem_cons, List.not_mem_nil, or_false, not_or] at nb
      exact k b o nb.1 nb.2.1 nb.2.2.1 nb.2.2.2 e
    · refine wpAny_pyNext_zip_item_held D hz hT p a1 a2 t1 t2 ex ey fun h' c1 c3 c4 c5 c6 k => ?_
      refine q h' ⟨k _ _ D.TIz D.TIi1 D.TIi2 p, c3, c4, t1.at fun o e => k _ o D.l1z D.l1i1 D.l1i2 e, t2.at fun o e => k _ o D.l2z D.l2i1 D.l2i2 e, ns, .inr ⟨T, true, oT, c1, k _ _ r1 r2 r3 hT, r1, r2, r3, r4⟩⟩ c5 c6 fun b o nb e => ?_
      simp only [List.mem_cons, List.not_mem_nil, or_false, not_or] at nb
      exact k b o nb.1 nb.2.2.1 nb.2.2.2 e
  done := by
    rintro A E S s Q hh ⟨p, a1, a2, t1, t2, ns, hz⟩ q
    have ex : xs[xs.size]? = none := by simp
    rcases hz with ⟨hz, a, b, ho⟩ | ⟨T, f, oT, hz, hT, r1, r2, r3, r4⟩
    · refine wpAny_pyNext_zip_end hh D hz p ho a1 a2 t1 t2 (.inl ex) fun h' k => q h' fun b o nb e => ?_
      simp only [List.mem_cons, List.not_mem_nil, or_false, not_or] at nb
      exact k b o nb.1 nb.2.1 nb.2.2.1 nb.2.2.2 e
    · refine wpAny_pyNext_zip_end_held hh D hz hT p a1 a2 t1 t2 (.inl ex) fun h' k => q h' fun b o nb e => ?_
      simp only [List.mem_cons, List.not_mem_nil, or_false, not_or] at nb
      exact k b o nb.1 nb.2.2.1 nb.2.2.2 e

theorem psrc_tuples {prog : Program} {w : World} {z TI TO i1 i2 l1 l2 : Addr} (D : ZipApart z TI TO i1 i2 l1 l2) (xs ys : Array Value) (hn : xs.size = ys.size) : PSrc prog w z [z, TO, i1, i2] xs.size (fun i => (xs.getD i .none, ys.getD i .none))
    (fun i S h => IsPair h TI (.ref i1) (.ref i2) ∧ h.IsTupleIter i1 l1 i ∧ h.IsTupleIter i2 l2 i ∧ h.IsTuple l1 xs ∧ h.IsTuple l2 ys ∧ (S ≠ z ∧ S ≠ TI ∧ S ≠ TO ∧ S ≠ i1 ∧ S ≠ i2 ∧ S ≠ l1 ∧ S ≠ l2) ∧
      ((IsZip h z TI TO .none ∧ ∃ a b, IsPair h TO a b) ∨ ∃ T f oT, IsZipHeld h z TI TO T f ∧ h.get? T = some oT ∧ T ≠ z ∧ T ≠ i1 ∧ T ≠ i2 ∧ T ≠ S)) where
  type := by
    rintro i S s ⟨_, _, _, _, _, _, ⟨hz, _⟩ | ⟨T, f, oT, hz, _⟩⟩
    · exact ⟨_, hz, rfl⟩
    · exact ⟨_, hz, rfl⟩
  self := by
    rintro A E i S s Q ⟨_, _, _, _, _, _, ⟨hz, _⟩ | ⟨T, f, oT, hz, _⟩⟩ q
    · exact wpAny_pyIter_zip hz q
    · have isz : s.TypeIs (.ref z) "zip" := ⟨_, hz, rfl⟩
      exact wpAny_pyIter_slot isz F.slot_zip_iter (wpAny_call_entry F.slot_zip_iter isz F.entry_zip_iter (wpAny_pure ⟨_, rfl, "zip", _, isz, F.slot_zip_next.lookup, q⟩) (F.args_zip_iter_1 _))
  keep := by
    rintro i S h h' ⟨p, a1, a2, t1, t2, ⟨n1, n2, n3, n4, n5, n6, n7⟩, hz⟩ k
    refine ⟨k _ _ n2.symm p, a1.at fun o e => k _ o n4.symm e, a2.at fun o e => k _ o n5.symm e, t1.at fun o e => k _ o n6.symm e, t2.at fun o e => k _ o n7.symm e, ⟨n1, n2, n3, n4, n5, n6, n7⟩, ?_⟩
    rcases hz with ⟨hz, a, b, ho⟩ | ⟨T, f, oT, hz, hT, r1, r2, r3, r4⟩
    · exact .inl ⟨k _ _ n1.symm hz, a, b, k _ _ n3.symm ho⟩
    · exact .inr ⟨T, f, oT, k _ _ n1.symm hz, k _ _ r4 hT, r1, r2, r3, r4⟩
  item := by
    rintro A E i S s Q lt Slt ⟨p, a1, a2, t1, t2, ns, hz⟩ q
    have ex : xs[i]? = some (xs.getD i .none) := by simp [Array.getD, lt]
    have ey : ys[i]? = some (ys.getD i .none) := by
      have : i < ys.size := by omega
      simp [Array.getD, this]
    have new : ∀ {b o}, s.heap.get? b = some o → s.heap.objs.size ≠ b := fun e => Nat.ne_of_gt (Heap.lt_size e)
    have ni1 : s.heap.objs.size ≠ i1 := let ⟨_, e, _⟩ := a1; new e
    have ni2 : s.heap.objs.size ≠ i2 := let ⟨_, e, _⟩ := a2; new e
    rcases hz with ⟨hz, a, b, ho⟩ | ⟨T, f, oT, hz, hT, r1, r2, r3, r4⟩
    · refine RZ.pyNext_zipT_item D hz p ho a1 a2 t1 t2 ex ey fun h' c1 c2 c3 c4 c5 c6 k => ?_
      refine q h' ⟨k _ _ D.TIz D.TITO D.TIi1 D.TIi2 p, c3, c4, t1.at fun o e => k _ o D.l1z D.l1TO D.l1i1 D.l1i2 e, t2.at fun o e => k _ o D.l2z D.l2TO D.l2i1 D.l2i2 e, ns, .inr ⟨s.heap.objs.size, false, _, c1, c5, new hz, ni1, ni2, Nat.ne_of_gt Slt⟩⟩ c5 c6 fun b o nb e => ?_
      simp only [List.mem_cons, List.not_mem_nil, or_false, not_or] at nb
      exact k b o nb.1 nb.2.1 nb.2.2.1 nb.2.2.2 e
    · refine zt_item D hz hT p a1 a2 t1 t2 ex ey fun h' c1 c3 c4 c5 c6 k => ?_
      refine q h' ⟨k _ _ D.TIz D.TIi1 D.TIi2 p, c3, c4, t1.at fun o e => k _ o D.l1z D.l1i1 D.l1i2 e, t2.at fun o e => k _ o D.l2z D.l2i1 D.l2i2 e, ns, .inr ⟨T, true, oT, c1, k _ _ r1 r2 r3 hT, r1, r2, r3, r4⟩⟩ c5 c6 fun b o nb e => ?_
      simp only [List.mem_cons, List.not_mem_nil, or_false, not_or] at nb
      exact k b o nb.1 nb.2.2.1 nb.2.2.2 e
  done := by
    rintro A E S s Q hh ⟨p, a1, a2, t1, t2, ns, hz⟩ q
    have ex : xs[xs.size]? = none := by simp
    rcases hz with ⟨hz, a, b, ho⟩ | ⟨T, f, oT, hz, hT, r1, r2, r3, r4⟩
    · refine RZ.pyNext_zipT_end hh D hz p ho a1 a2 t1 t2 (.inl ex) fun h' k => q h' fun b o nb e => ?_
      simp only [List.mem_cons, List.not_mem_nil, or_false, not_or] at nb
      exact k b o nb.1 nb.2.1 nb.2.2.1 nb.2.2.2 e
    · refine zt_end hh D hz hT p a1 t1 ex fun h' k => q h' fun b o nb e => ?_
      simp only [List.mem_cons, List.not_mem_nil, or_false, not_or] at nb
      exact k b o nb.1 nb.2.2.1 nb.2.2.2 e

/-! ### the rule -/
def putP : Hp → List Addr → List (V × V) → Hp
  | H, a :: as, p :: ps => putP (upd H a (.tup [p.1, p.2])) as ps
  | H, _, _ => H
theorem putP_off {b : Addr} : ∀ (as : List Addr) (ps : List (V × V)) (H : Hp), b ∉ as → putP H as ps b = H b
  | [], _, _, _ => rfl
  | _ :: _, [], _, _ => rfl
  | a :: as, p :: ps, H, h => by
    have h1 : b ∉ as := fun q => h (List.mem_cons_of_mem _ q)
    have h2 : b ≠ a := fun q => h (by rw [q]; exact List.mem_cons_self)
    show putP (upd H a (.tup [p.1, p.2])) as ps b = H b
    rw [putP_off as ps _ h1, upd_ne h2]
theorem putP_at : ∀ (as : List Addr) (ps : List (V × V)) (H : Hp), as.length = ps.length → as.Nodup → Paired (fun (t : Addr) (p : V × V) => putP H as ps t = some (.tup [p.1, p.2])) as ps
  | [], [], _, _, _ => .nil
  | [], _ :: _, _, h, _ => by cases h
  | _ :: _, [], _, h, _ => by cases h
  | a :: as, p :: ps, H, h, hn => by
    obtain ⟨n1, n2⟩ := List.nodup_cons.mp hn
    refine .cons ?_ (putP_at as ps (upd H a (.tup [p.1, p.2])) (Nat.succ.inj h) n2)
    show putP (upd H a (.tup [p.1, p.2])) as ps a = some (.tup [p.1, p.2])
    rw [putP_off as ps _ n1, upd_same]
/-- behind list(zip(..)): a new list of new pairs -/
def ZipEnd (H : Hp) (Q : VK) (xs ys : List V) : Prop := ∀ (H' : Hp) (l : Addr) (ts : List Addr), Same H H' → H l = none → H' l = some (.lst (ts.map V.ref)) → Paired (fun (t : Addr) (p : V × V) => H' t = some (.tup [p.1, p.2])) ts (xs.zip ys) → Q (.ref l) H'
section
variable {X : Cx} {pins : List (Addr × Obj)} {σ : L2.St} {H : Hp} {s : Shared} {xs ys : List V} {us vs : List Value}
theorem na_not {L : Nat} (h : L + 1 ≤ L) : False := by omega
theorem na_le {n L t : Nat} (h : n ≤ L) (g : L + 1 ≤ t) : n ≤ t := by omega
theorem na_ne {b n L : Nat} (h : b < n) (g : n ≤ L) : b ≠ L := by omega
theorem na_out {b n L : Nat} (h : b < n) (g : n ≤ L) (q : L + 1 ≤ b) : False := by omega
theorem na_ns {n a b : Nat} (la : a < n) (lb : b < n) : n + 5 ≠ n + 4 ∧ n + 5 ≠ n + 2 ∧ n + 5 ≠ n + 3 ∧ n + 5 ≠ n ∧ n + 5 ≠ n + 1 ∧ n + 5 ≠ a ∧ n + 5 ≠ b := by omega
theorem na_wr {n b : Nat} (h : b = n + 4 ∨ b = n + 3 ∨ b = n ∨ b = n + 1) : b < n + 5 := by omega
theorem na_old {n b : Nat} (h : b < n) (q : b = n + 4 ∨ b = n + 3 ∨ b = n ∨ b = n + 1) : False := by omega
theorem getD_of {us : List Value} {j : Nat} {u : Value} (h : us[j]? = some u) : us.toArray.getD j .none = u := by
  obtain ⟨h1, h2⟩ := List.getElem?_eq_some_iff.mp h
  simp [Array.getD, h1, h2]
theorem zip_laid (I : Inv X pins σ H s) (rx : Vals xs us) (ry : Vals ys vs) {h2 : Heap} {tk c L : Nat} {acc : Array Value} {as : List Addr} (k : ∀ b o, s.heap.get? b = some o → h2.get? b = some o) (hL : s.heap.objs.size ≤ L)
    (hS : h2.get? L = some { cls := .type "list", dict := none, data := .seq acc c, slots := #[] }) (hn : as.length = (xs.zip ys).length) (hz : as.length ≤ sizeLine) (g : Outs (fun i => (us.toArray.getD i .none, vs.toArray.getD i .none)) (L + 1) h2 as) (ha : acc.toList = as.map Value.ref) :
    ∃ H' : Hp, Same H H' ∧ H L = none ∧ H' L = some (.lst (as.map V.ref)) ∧ Paired (fun (t : Addr) (p : V × V) => H' t = some (.tup [p.1, p.2])) as (xs.zip ys) ∧ Inv X pins σ H' { s with heap := h2, toks := tk } := by
  have nL : L ∉ as := fun q => na_not (g.above L q)
  have nd : as.Nodup := List.Pairwise.imp (fun {a b} (h : a < b) => Nat.ne_of_lt h) g.rise
  have newT : ∀ t ∈ as, H t = none := fun t q => I.hok.fresh (na_le hL (g.above t q))
  have newL : H L = none := I.hok.fresh hL
  have tups := putP_at as (xs.zip ys) (upd H L (.lst (as.map V.ref))) hn nd
  have off : ∀ b, b ∉ as → b ≠ L → putP (upd H L (.lst (as.map V.ref))) as (xs.zip ys) b = H b := fun b q1 q2 => by rw [putP_off as _ _ q1, upd_ne q2]
  have low : ∀ b o, s.heap.get? b = some o → b ∉ as ∧ b ≠ L := fun b o e => by
    have lt := Heap.lt_size e
    exact ⟨fun q => na_out lt hL (g.above b q), na_ne lt hL⟩
  have kp : Same H (putP (upd H L (.lst (as.map V.ref))) as (xs.zip ys)) := fun b u e => by
    rw [off b (fun q => by rw [newT b q] at e; cases e) (fun q => by rw [q, newL] at e; cases e)]
    exact e
  have atL : putP (upd H L (.lst (as.map V.ref))) as (xs.zip ys) L = some (.lst (as.map V.ref)) := by rw [putP_off as _ _ nL, upd_same]
  refine ⟨_, kp, newL, atL, tups, ?_⟩
  have un : Un (frs X.stack) [] H (putP (upd H L (.lst (as.map V.ref))) as (xs.zip ys)) s.heap h2 := by
    refine ⟨fun b o e _ _ _ => k b o e, fun b o e _ _ _ => ⟨o.slots, k b o e⟩, fun b o e n _ => ?_, fun b o e _ => ⟨o, k b o e⟩, fun b zs e => kp b _ e, fun b o u e => kp b _ e, fun b ps e => ⟨#[], ?_⟩⟩
    · obtain ⟨q1, q2⟩ := low b o e
      rw [off b q1 q2]
      exact n
    · rw [kp b _ e]
      simp
  refine I.call' (ch := []) rfl un (fun b u e => ?_) I.bare fun b q => nomatch q
  by_cases hb : b ∈ as
  · obtain ⟨j, p, e1, e2, e3⟩ := LiI.paired_ix tups hb
    rw [e3] at e
    cases e
    obtain ⟨x1, y1⟩ := List.getElem?_zip_eq_some.mp e2
    obtain ⟨u, eu, ru⟩ := Vals.get rx x1
    obtain ⟨v, ev, rv⟩ := Vals.get ry y1
    have t := g.pairs j b e1
    rw [getD_of eu, getD_of ev] at t
    exact ⟨by show 2 ≤ sizeLine; decide, [u, v], .cons ru (.cons rv .nil), ⟨_, t, rfl, _, rfl⟩⟩
  · by_cases hb2 : b = L
    · rw [hb2] at e ⊢
      rw [atL] at e
      cases e
      refine ⟨by rw [List.length_map]; exact hz, acc.toList, c, by rw [ha]; exact LiI.vals_refs as, ?_⟩
      rw [Array.toArray_toList]
      exact hS
    · rw [off b hb hb2] at e
      exact (I.hok b u e).stay (fun d w _ q => k d w q) (fun d q => kp d _ q) fun d zs q => kp d _ q
def tListZip (K : PySem.W.Frag) (ta : TA) : TE := fun σ H Q => ta σ H fun vs H1 => ∃ (a b : Addr) (xs ys : List V), vs = [.ref a, .ref b] ∧ ((SqL K H1 a xs ∧ SqL K H1 b ys) ∨ (SqT K H1 a xs ∧ SqT K H1 b ys)) ∧ xs.length = ys.length ∧ ZipEnd H1 Q xs ys
theorem pe_listZip {e e2 : Expr} {ta : TA} {p p2 pos pos2 : Pos} (hg : Gl X "list") (hm : X.mg "list" = none) (hgz : Gl X "zip") (hmz : X.mg "zip" = none) (hc : X.calm = true) (hp : PA X [e, e2] ta)
    (hs : starEach [.Call (.Name "zip" p2) [e, e2] [] pos2] X.env = (false, eval (.Call (.Name "zip" p2) [e, e2] [] pos2) X.env) :: starEach [] X.env := by rfl) (hpl : (backTo pos (starEach [] X.env)).any (·.1) = false := by rfl)
    (hs2 : starEach [e, e2] X.env = (false, eval e X.env) :: starEach [e2] X.env := by rfl) (hpl2 : (backTo pos2 (starEach [e2] X.env)).any (·.1) = false := by rfl) :
    PE X (.Call (.Name "list" p) [.Call (.Name "zip" p2) [e, e2] [] pos2] [] pos) (tListZip X.K ta) := by
  refine ⟨fun pins s σ H Q I h => ?_⟩
  refine Call_ (ld_blt I hg hm (show bootBuiltins "list" = some (Value.type "list") by decide +kernel) (PyProof.Rows.callWith_type1 ?_ hs hpl))
  rw [hs]
  show wpAny _ _ (spliced ((false, eval (.Call (.Name "zip" p2) [e, e2] [] pos2) X.env) :: backTo pos (starEach [] X.env))) _ _ s
  refine Calls.spliced_cons ?_
  refine Call_ (ld_blt I hgz hmz PyProof.Rows.boot_zip (PyProof.Rows.callWith_type1 (thn (hp.run pos2 pins s σ H _ I h) fun us s1 ⟨vs, H1, I1, r1, q1⟩ => ?_) hs2 hpl2))
  obtain ⟨a, b, xs, ys, ex, hq, hl, q⟩ := q1
  subst ex
  cases r1 with
  | cons r rr =>
    cases rr with
    | cons r' rr =>
      cases rr
      cases r
      cases r'
      rcases hq with ⟨hx, hy⟩ | ⟨hx, hy⟩
      · obtain ⟨ia, rv, p1, z1⟩ := I1.list hx
        obtain ⟨ib, rw', p3, _⟩ := I1.list hy
        have eq : ia.toArray.size = ib.toArray.size := by simp only [List.size_toArray]; rw [← rv.length, ← rw'.length]; exact hl
        refine call_zip_2 p1.isList p3.isList fun h' hz hTI hTO h1 h2 hsz hk => Calls.spliced_nil ?_
        refine call_list_zip (s := { s1 with heap := h' }) (psrc_lists (PySem.W.ktu_apart s1.heap.objs.size a b p1.lt p3.lt) ia.toArray ib.toArray eq) (I1.ok.hd hc) ?_ ?_ ?_ ?_ ?_
        · intro h2' k
          have la := p1.lt
          have lb := p3.lt
          refine ⟨k _ _ hTI, h1.at fun o e => k _ o e, h2.at fun o e => k _ o e, p1.isList.at fun o e => k _ o (hk _ o e), p3.isList.at fun o e => k _ o (hk _ o e), ?_, .inl ⟨k _ _ hz, _, _, k _ _ hTO⟩⟩
          show h'.objs.size ≠ _ ∧ h'.objs.size ≠ _ ∧ h'.objs.size ≠ _ ∧ h'.objs.size ≠ _ ∧ h'.objs.size ≠ _ ∧ h'.objs.size ≠ _ ∧ h'.objs.size ≠ _
          rw [hsz]
          exact na_ns la lb
        · intro b' hb'
          show b' < h'.objs.size
          rw [hsz]
          simp only [List.mem_cons, List.not_mem_nil, or_false] at hb'
          exact na_wr hb'
        · show s1.heap.objs.size + 4 < h'.objs.size
          rw [hsz]
          exact Nat.lt_succ_self _
        · rw [List.size_toArray, ← rv.length]
          exact z1
        · intro h3 tk acc c as kp hS hlen g ha
          have kk : ∀ b' o, s1.heap.get? b' = some o → h3.get? b' = some o := fun b' o e => kp b' o (fun z => by
            have := Heap.lt_size e
            simp only [List.mem_cons, List.not_mem_nil, or_false] at z
            exact na_old this z) (hk b' o e)
          have lz : (xs.zip ys).length = xs.length := by rw [List.length_zip]; omega
          have la : as.length = xs.length := by rw [hlen, List.size_toArray, ← rv.length]
          obtain ⟨H', c1, c2, c3, c4, J⟩ := zip_laid (tk := tk) I1 rv rw' kk (show s1.heap.objs.size ≤ h'.objs.size by rw [hsz]; exact Nat.le_add_right _ _) hS (by omega) (by omega) g ha
          exact ⟨.ref h'.objs.size, H', J, rfl, q H' _ as c1 c2 c3 c4⟩
      · obtain ⟨ia, rv, p1, z1⟩ := I1.tuple hx
        obtain ⟨ib, rw', p3, _⟩ := I1.tuple hy
        have eq : ia.toArray.size = ib.toArray.size := by simp only [List.size_toArray]; rw [← rv.length, ← rw'.length]; exact hl
        refine RZ.call_zipT p1 p3 fun h' hz hTI hTO h1 h2 hsz hk => Calls.spliced_nil ?_
        refine call_list_zip (s := { s1 with heap := h' }) (psrc_tuples (PySem.W.ktu_apart s1.heap.objs.size a b p1.lt p3.lt) ia.toArray ib.toArray eq) (I1.ok.hd hc) ?_ ?_ ?_ ?_ ?_
        · intro h2' k
          have la := p1.lt
          have lb := p3.lt
          refine ⟨k _ _ hTI, h1.at fun o e => k _ o e, h2.at fun o e => k _ o e, Heap.IsTuple.at p1 fun o e => k _ o (hk _ o e), Heap.IsTuple.at p3 fun o e => k _ o (hk _ o e), ?_, .inl ⟨k _ _ hz, _, _, k _ _ hTO⟩⟩
          show h'.objs.size ≠ _ ∧ h'.objs.size ≠ _ ∧ h'.objs.size ≠ _ ∧ h'.objs.size ≠ _ ∧ h'.objs.size ≠ _ ∧ h'.objs.size ≠ _ ∧ h'.objs.size ≠ _
          rw [hsz]
          exact na_ns la lb
        · intro b' hb'
          show b' < h'.objs.size
          rw [hsz]
          simp only [List.mem_cons, List.not_mem_nil, or_false] at hb'
          exact na_wr hb'
        · show s1.heap.objs.size + 4 < h'.objs.size
          rw [hsz]
          exact Nat.lt_succ_self _
        · rw [List.size_toArray, ← rv.length]
          exact z1
        · intro h3 tk acc c as kp hS hlen g ha
          have kk : ∀ b' o, s1.heap.get? b' = some o → h3.get? b' = some o := fun b' o e => kp b' o (fun z => by
            have := Heap.lt_size e
            simp only [List.mem_cons, List.not_mem_nil, or_false] at z
            exact na_old this z) (hk b' o e)
          have lz : (xs.zip ys).length = xs.length := by rw [List.length_zip]; omega
          have la : as.length = xs.length := by rw [hlen, List.size_toArray, ← rv.length]
          obtain ⟨H', c1, c2, c3, c4, J⟩ := zip_laid (tk := tk) I1 rv rw' kk (show s1.heap.objs.size ≤ h'.objs.size by rw [hsz]; exact Nat.le_add_right _ _) hS (by omega) (by omega) g ha
          exact ⟨.ref h'.objs.size, H', J, rfl, q H' _ as c1 c2 c3 c4⟩
end
end L3

/-! dicts of kinds that are equal -/
namespace L3
open PySem PySem.Spec PyProof.Rows L2
section
variable {X : Cx} {pins : List (Addr × Obj)} {σ : L2.St} {H : Hp} {s : Shared}
theorem opR_or {f : Value → Value → Sem Value} {r r' : R2} (h : OpR X f r) (h' : OpR X f r') : OpR X f (fun x y H Q => r x y H Q ∨ r' x y H Q) := by
  intro pins s σ H x y v u Q I rx ry q
  rcases q with q | q
  · exact h pins s σ H x y v u Q I rx ry q
  · exact h' pins s σ H x y v u Q I rx ry q
theorem kv_hits (I : Inv X pins σ H s) {A : Around} (hu : A.units + 64 < cLine) {ls : List (Key × V)} {b2 : By} {vb : List (Key × Value)} (rb : KV ls vb) (k2 : ByAt H ls b2) (f2 : ∀ q ∈ b2, q.2.fit 60) :
    ∀ {ks : List (Key × V)} {b1 : By} {va : List (Key × Value)}, KV ks va → ByAt H ks b1 → (∀ q ∈ b1, q.2.fit 60 ∧ lk b2 q.1 = some q.2) → PySem.W.KeqHits A s vb va true
  | _, _, _, .nil, .nil, _ => .nil
  | (key, v) :: ks, (x, k) :: b1, (key', u) :: va, .cons ⟨e1, r1⟩ t1, .cons ⟨e2, g⟩ t2, h => by
    obtain ⟨fk, el⟩ := h _ List.mem_cons_self
    have e1' : key = key' := e1
    have e2' : key = .inr x := e2
    subst e1' e2'
    rcases k2.get x with ⟨_, z⟩ | ⟨v2, k', e3, e4, g'⟩
    · rw [z] at el
      cases el
    · rw [e4] at el
      cases el
      have rr : RelO (some v2) (valueAt vb (.inr x)) := by
        rw [← e3]
        exact rb.val (.inr x)
      obtain ⟨y, hy, ry⟩ := rr.some_of
      obtain ⟨as, ra⟩ := Dp.reads I _ v u g.dp r1
      obtain ⟨bs, rb'⟩ := Dp.reads I _ v2 y g'.dp ry
      obtain ⟨l1, l2⟩ := Kd.lay fk
      have eq := SeqAt.eqAt_reads _ _ A s u y as bs ra rb' l1 l1 (by have : min k.dat.depth k.dat.depth = k.dat.depth := Nat.min_self _; omega)
      rw [Kd.eqv, decide_eq_true rfl] at eq
      exact PySem.W.KeqHits.hit hy eq (kv_hits I hu rb k2 f2 t1 t2 fun q hq => h q (List.mem_cons_of_mem _ hq))
def rBy (r : Bool) : R2 := fun x y H Q => ∃ (a b : Addr) (ks ls : List (Key × V)) (b1 b2 : By), x = .ref a ∧ y = .ref b ∧ H a = some (.dK ks) ∧ H b = some (.dK ls) ∧ ByAt H ks b1 ∧ ByAt H ls b2 ∧ b1.length = b2.length ∧ (∀ q ∈ b1, q.2.fit 60 ∧ lk b2 q.1 = some q.2) ∧ (∀ q ∈ b2, q.2.fit 60) ∧ Q (.bl r) H
theorem op_eqBy (hu : X.A.units + 65 < cLine) : OpR X (compareOp .Eq) (rBy true) := by
  intro pins s σ H x y v u Q I rx ry ⟨a, b, ks, ls, b1, b2, ex, ey, ea, eb, k1, k2, hl, h1, h2, q⟩
  subst ex ey
  obtain rfl : v = Value.ref a := rx
  obtain rfl : u = Value.ref b := ry
  obtain ⟨_, ya, va, ra, da⟩ := (show ObjOk X.prog X.w H s.heap a (.dK ks) from I.hok a _ ea)
  obtain ⟨_, yb, vb, rb, db⟩ := (show ObjOk X.prog X.w H s.heap b (.dK ls) from I.hok b _ eb)
  have lv : va.length = vb.length := by rw [← ra.length, ← rb.length, Paired.length k1, Paired.length k2]; exact hl
  refine PySem.W.keq_eq (knd := mixKind X.prog X.w) (r := true) ya yb da db (by omega) (fun _ => kv_hits I (A := X.A.in1) (by show X.A.units + 1 + 64 < cLine; omega) rb k2 h2 ra k1 h1) ?_
  have e : (va.length == vb.length && true) = true := by simp [lv]
  rw [e]
  exact ⟨.bl true, H, I, rfl, q⟩
theorem op_neBy (hu : X.A.units + 65 < cLine) : OpR X (compareOp .NotEq) (rBy false) := by
  intro pins s σ H x y v u Q I rx ry ⟨a, b, ks, ls, b1, b2, ex, ey, ea, eb, k1, k2, hl, h1, h2, q⟩
  subst ex ey
  obtain rfl : v = Value.ref a := rx
  obtain rfl : u = Value.ref b := ry
  obtain ⟨_, ya, va, ra, da⟩ := (show ObjOk X.prog X.w H s.heap a (.dK ks) from I.hok a _ ea)
  obtain ⟨_, yb, vb, rb, db⟩ := (show ObjOk X.prog X.w H s.heap b (.dK ls) from I.hok b _ eb)
  have lv : va.length = vb.length := by rw [← ra.length, ← rb.length, Paired.length k1, Paired.length k2]; exact hl
  refine PySem.W.keq_ne (knd := mixKind X.prog X.w) (r := true) ya yb da db (by omega) (fun _ => kv_hits I (A := X.A.in1) (by show X.A.units + 1 + 64 < cLine; omega) rb k2 h2 ra k1 h1) ?_
  have e : (!(va.length == vb.length && true)) = false := by simp [lv]
  rw [e]
  exact ⟨.bl false, H, I, rfl, q⟩
end
/-- what is in order names each key once -/
theorem addV_nodup {fs : List Str} (x : Str) (h : fs.Nodup) : (addV fs x).Nodup := by
  unfold addV
  by_cases e : x ∈ fs
  · rw [if_pos e]
    exact h
  · rw [if_neg e]
    exact List.nodup_append.mpr ⟨h, by simp, fun a ha b hb => by rw [List.mem_singleton.mp hb]; intro z; rw [z] at ha; exact e ha⟩
theorem Kd.vs_nodup : ∀ (k : Kd) {fs : List Str}, fs.Nodup → (k.vs fs).Nodup
  | .var x, _, h => addV_nodup x h
  | .con _, _, h => h
  | .app a b, _, h => Kd.vs_nodup b (Kd.vs_nodup a h)
theorem vsL_nodup : ∀ (ks : List Kd) {fs : List Str}, fs.Nodup → (vsL ks fs).Nodup
  | [], _, h => h
  | k :: r, _, h => vsL_nodup r (k.vs_nodup h)
theorem lk_self : ∀ (b : By), (names b).Nodup → ∀ q ∈ b, lk b q.1 = some q.2
  | [], _, q, h => nomatch h
  | p :: r, hn, q, h => by
    obtain ⟨n1, n2⟩ := List.nodup_cons.mp (show (p.1 :: names r).Nodup from hn)
    rcases List.mem_cons.mp h with e | h
    · rw [e]
      exact lk_pos rfl
    · have ne : ¬ p.1 = q.1 := fun z => n1 (by rw [z]; exact List.mem_map.mpr ⟨q, h, rfl⟩)
      rw [lk_neg ne]
      exact lk_self r n2 q h
end L3

namespace L3
open PySem L2
def PairAt (H : Hp) (v : V) (q : Kd × Kd) : Prop := ∃ (T : Addr) (u z : V), v = .ref T ∧ H T = some (.tup [u, z]) ∧ KdAt H u q.1 ∧ KdAt H z q.2
theorem PairAt.tups {H H' : Hp} (t : Tups H H') {v : V} {q : Kd × Kd} (h : PairAt H v q) : PairAt H' v q := by
  obtain ⟨T, u, z, e, h1, h2, h3⟩ := h
  exact ⟨T, u, z, e, t _ _ h1, KdAt.tups t h2, KdAt.tups t h3⟩
theorem zip_pairs {H : Hp} : ∀ {ts : List Addr} {xs ys : List V} {ps ks : List Kd}, Paired (fun (t : Addr) (p : V × V) => H t = some (.tup [p.1, p.2])) ts (xs.zip ys) → KdsAt H xs ps → KdsAt H ys ks → Paired (PairAt H) (ts.map V.ref) (ps.zip ks)
  | ts, [], ys, _, ks, h, .nil, _ => by
    cases h
    exact .nil
  | ts, x :: xs, [], _, _, h, .cons _ _, .nil => by
    cases h
    exact .nil
  | ts, x :: xs, y :: ys, p :: ps, k :: ks, h, .cons r1 t1, .cons r2 t2 => by
    cases h with
    | cons h0 hr => exact .cons ⟨_, x, y, rfl, h0, r1, r2⟩ (zip_pairs hr t1 t2)
def psz : List (Kd × Kd) → Nat
  | [] => 0
  | q :: r => q.1.size + psz r
theorem psz_append : ∀ (a b : List (Kd × Kd)), psz (a ++ b) = psz a + psz b
  | [], b => (Nat.zero_add _).symm
  | q :: r, b => by
    show q.1.size + psz (r ++ b) = q.1.size + psz r + psz b
    rw [psz_append r b, Nat.add_assoc]
theorem psz_rev : ∀ (a : List (Kd × Kd)), psz a.reverse = psz a
  | [] => rfl
  | q :: r => by
    rw [List.reverse_cons, psz_append, psz_rev r]
    show psz r + (q.1.size + 0) = q.1.size + psz r
    omega
theorem psz_zip : ∀ (ps ks : List Kd), psz (ps.zip ks) ≤ sizeL ps
  | [], _ => Nat.le_refl _
  | p :: ps, [] => Nat.zero_le _
  | p :: ps, k :: ks => by
    have := psz_zip ps ks
    show p.size + psz (ps.zip ks) ≤ p.size + sizeL ps
    omega
theorem psz_len : ∀ (a : List (Kd × Kd)), a.length ≤ psz a
  | [] => Nat.le_refl _
  | q :: r => by
    have := psz_len r
    have := q.1.size_pos
    simp only [List.length_cons, psz]
    omega
/-- all pairs are of one kind -/
def allEq (st : List (Kd × Kd)) : Bool := st.all fun q => decide (q.1 = q.2)
theorem allEq_app (a b : List (Kd × Kd)) : allEq (a ++ b) = (allEq a && allEq b) := List.all_append
theorem kd_app_eq (a b c d : Kd) : decide (Kd.app a b = Kd.app c d) = (decide (a = c) && decide (b = d)) := by
  simp only [Kd.app.injEq, Bool.decide_and]
theorem neV {x y : V} (h : ¬ x = y) : (!decide (x = y)) = true := by rw [decide_eq_false h]; rfl
theorem neVF {x y : V} (h : x = y) : (!decide (x = y)) = false := by rw [decide_eq_true h]; rfl
section
variable {P : Program} {w : World} {K : PySem.W.Frag} {mg : Str → Option Value} {base : Heap}
abbrev s_is_same_kind : Stmt := topS 2
abbrev N_is_same_kind : List Str := ["one", "other", "waiting"]
theorem sc_is_same_kind : FnScope N_is_same_kind ["one", "other"] (defScope s_is_same_kind) := ⟨rfl, rfl, rfl, by decide +kernel, rfl, by decide +kernel, by decide +kernel⟩
def spSK : Sp := fun vs H Q _ => ∃ (u z : V) (k1 k2 : Kd), vs = [u, z] ∧ KdAt H u k1 ∧ KdAt H z k2 ∧ k1.size ≤ 100000 ∧ ∀ H', Same H H' → Q (.bl (decide (k1 = k2))) H'
theorem ok_same {f : Addr} {fd : FuncData} (F : Fun K "is_same_kind" "is_same_kind" s_is_same_kind f fd) (B : Bl mg) : FnOk P w K mg base CX0 1 f fd ["one", "other"] spSK := by
  refine F.ok sc_is_same_kind (fun vs H Q E h => ?_) (fun cdv A outer s H vs Q E hr h => ?_)
  · obtain ⟨u, z, k1, k2, rfl, _⟩ := h
    rfl
  · obtain ⟨u, z, k1, k2, rfl, hu, hz, hs, k⟩ := h
    refine ⟨_, (pss_cons (ps_set (i := 2) sc_is_same_kind.nd rfl (Or.inl rfl) (pe_lst (pa_cons (pe_tup (pa_cons (pv 0) (pa_cons (pv 1) pa_nil))) pa_nil)))
  (pss_cons (ps_while PassesOwn.never (pt_truth (pv 2) (by intro _; rfl))
  (pss_cons (ps_asg (pe_bm0 PySem.F.plainAttrs_list PySem.F.slot_list_pop PySem.F.type_list_pop mt_pop (pv 2)) (pg_tup (by rfl) (pgs_cons (pg_name (i := 0) sc_is_same_kind.nd rfl (Or.inl rfl)) (pgs_cons (pg_name (i := 1) sc_is_same_kind.nd rfl (Or.inl rfl)) pgs_nil))))
  (pss_one (ps_if (PW.pt (pw_and (pt_cmpR op_eq (pe_ix ix_tup (pv 0) pe_int (fun _ _ => rfl)) pe_str (nomark _)) (pw_and1 (pt_cmpR op_eq (pe_ix ix_tup (pv 1) pe_int (fun _ _ => rfl)) pe_str (nomark _)))))
  (pss_cons (ps_expr (pe_bm PySem.F.plainAttrs_list PySem.F.slot_list_append PySem.F.type_list_append mt_append (pv 2) (pa_cons (pe_tup (pa_cons (pe_ix ix_tup (pv 0) pe_int (fun _ _ => rfl)) (pa_cons (pe_ix ix_tup (pv 1) pe_int (fun _ _ => rfl)) pa_nil))) pa_nil)))
  (pss_one (ps_expr (pe_bm PySem.F.plainAttrs_list PySem.F.slot_list_append PySem.F.type_list_append mt_append (pv 2) (pa_cons (pe_tup (pa_cons (pe_ix ix_tup (pv 0) pe_int (fun _ _ => rfl)) (pa_cons (pe_ix ix_tup (pv 1) pe_int (fun _ _ => rfl)) pa_nil))) pa_nil)))))
  (pss_one (ps_if (PW.pt (pw_or (pt_cmpR op_ne (pe_ix ix_tup (pv 0) pe_int (fun _ _ => rfl)) (pe_ix ix_tup (pv 1) pe_int (fun _ _ => rfl)) (nomark _)) (pw_or1 (pt_cmpR op_ne (pe_ix ix_tup (pv 0) pe_int (fun _ _ => rfl)) (pe_ix ix_tup (pv 1) pe_int (fun _ _ => rfl)) (nomark _)))))
  (pss_one (ps_ret pe_bl))
  pss_nil))))))
  (pss_one (ps_ret pe_bl)))), ?_⟩
    refine ⟨_, rfl, _, rfl, slz rfl, fun q hq => ⟨slz rfl, fun l hl => ?_⟩⟩
    have s1 := same_new (o := .tup [u, z]) hq
    have s2 := same_new (o := .lst [.ref q]) hl
    have s0 := s1.trans s2
    have nl : H l = none := s1.free hl
    refine ⟨fun m σ H' => ∃ (st : List (Kd × Kd)) (vs : List V) (v0 v1 : Option V), σ = [v0, v1, some (.ref l)] ∧ Same H H' ∧ H' l = some (.lst vs) ∧ Paired (PairAt H') vs st ∧ m = psz st ∧ psz st ≤ 100000 ∧ allEq st = decide (k1 = k2),
      ⟨_, [(k1, k2)], [.ref q], _, _, rfl, s0, upd_same, .cons ⟨q, u, z, rfl, s2 _ _ upd_same, KdAt.tups (same_tups s0) hu, KdAt.tups (same_tups s0) hz⟩ .nil, rfl, by simp only [psz]; omega, by simp [allEq]⟩, ?_⟩
    rintro m σ H2 ⟨st, vs, v0, v1, rfl, S2, g2, g3, rfl, g5, g6⟩
    refine ⟨_, rfl, _, .inl ⟨vs, SqL.of g2, rfl⟩, ?_⟩
    by_cases hst : st = []
    · subst hst
      cases g3
      refine iteF ?_
      have fin := k H2 S2
      rw [← g6] at fin
      exact fin
    · obtain ⟨st0, q0, rfl⟩ : ∃ st0 q0, st = st0 ++ [q0] := ⟨st.dropLast, st.getLast hst, (List.dropLast_concat_getLast hst).symm⟩
      obtain ⟨vs0, v, rfl, g31, g32⟩ := paired_last g3
      have hne : (!(vs0 ++ [v]).isEmpty) = true := by cases vs0 <;> rfl
      refine iT hne ?_
      obtain ⟨p, kd⟩ := q0
      have lsz : psz (st0 ++ [(p, kd)]) = psz st0 + p.size := by rw [psz_append]; rfl
      have leq : allEq (st0 ++ [(p, kd)]) = (allEq st0 && decide (p = kd)) := by rw [allEq_app]; simp [allEq]
      rw [leq] at g6
      have hs1 := p.size_pos
      refine ⟨fun σ' H' => ∃ (st : List (Kd × Kd)) (vs : List V) (v0 v1 : Option V), σ' = [v0, v1, some (.ref l)] ∧ Same H H' ∧ H' l = some (.lst vs) ∧ Paired (PairAt H') vs st ∧ psz st < psz (st0 ++ [(p, kd)]) ∧ psz st ≤ 100000 ∧ allEq st = decide (k1 = k2), ?_, ?_⟩
      · rintro σ' H' ⟨st, vs, v0, v1, e1, e2, e3, e4, e5, e6, e7⟩
        exact ⟨psz st, e5, st, vs, v0, v1, e1, e2, e3, e4, rfl, e6, e7⟩
      · obtain ⟨T, u', z', rfl, hT, ku, kz⟩ := g32
        refine ⟨_, rfl, .inl ⟨rfl, _, SqL.of g2⟩, l, vs0 ++ [V.ref T], V.ref T, rfl, rfl, g2, by simp, ?_⟩
        rw [List.dropLast_concat]
        have tu3 : Tups H2 (upd H2 l (.lst vs0)) := Tups.put g2 (by intro xs z; cases z)
        have S3 : Same H (upd H2 l (.lst vs0)) := fun b o zz => by
          rw [upd_ne (ne_of_none zz nl)]
          exact S2 _ _ zz
        have w3 : (upd H2 l (.lst vs0)) l = some (.lst vs0) := upd_same
        have k1' := paired_map (fun _ _ q => PairAt.tups tu3 q) g31
        have ku3 := KdAt.tups tu3 ku
        have kz3 := KdAt.tups tu3 kz
        refine ⟨T, _, rfl, SqT.of (tu3 _ _ hT), rfl, _, _, rfl, _, _, rfl, rfl, ?_⟩
        generalize upd H2 l (.lst vs0) = H3 at S3 w3 k1' ku3 kz3 ⊢
        clear tu3 g2 g3 g31 ku kz
        -- the pair is alike
        have next : p = kd → ∃ (st : List (Kd × Kd)) (vs : List V) (v0 v1 : Option V), [some u', some z', some (V.ref l)] = [v0, v1, some (.ref l)] ∧ Same H H3 ∧ H3 l = some (.lst vs) ∧ Paired (PairAt H3) vs st ∧ psz st < psz (st0 ++ [(p, kd)]) ∧ psz st ≤ 100000 ∧ allEq st = decide (k1 = k2) := by
          intro em
          refine ⟨st0, vs0, some u', some z', rfl, S3, w3, k1', by rw [lsz]; omega, by rw [lsz] at g5; omega, ?_⟩
          rw [← g6, decide_eq_true em, Bool.and_true]
        have stop : ¬ p = kd → Q (.bl false) H3 := by
          intro em
          have fin := k H3 S3
          rw [← g6, decide_eq_false em, Bool.and_false] at fin
          exact fin
        cases p with
        | var x =>
          obtain ⟨a, rfl, ha⟩ := id ku3
          refine ⟨_, rfl, _, _, _, _, rfl, rfl, SqT.of ha, rfl, rfl, _, rfl, iF tg_va (iteF ?_)⟩
          cases kd with
          | var y =>
            obtain ⟨a2, rfl, ha2⟩ := id kz3
            refine ⟨_, rfl, _, _, _, _, rfl, rfl, SqT.of ha, rfl, _, rfl, _, _, _, _, rfl, rfl, SqT.of ha2, rfl, rfl, _, rfl, ?_⟩
            refine iF (neVF rfl) ?_
            refine ⟨_, rfl, _, _, _, _, rfl, rfl, SqT.of ha, rfl, _, rfl, _, _, _, _, rfl, rfl, SqT.of ha2, rfl, rfl, _, rfl, ?_⟩
            by_cases hxy : x = y
            · exact iF (neVF (by rw [hxy])) (next (by rw [hxy]))
            · exact iT (neV (fun q => hxy (V.str.inj q))) (stop (fun q => hxy (by cases q; rfl)))
          | con y =>
            obtain ⟨a2, rfl, ha2⟩ := id kz3
            refine ⟨_, rfl, _, _, _, _, rfl, rfl, SqT.of ha, rfl, _, rfl, _, _, _, _, rfl, rfl, SqT.of ha2, rfl, rfl, _, rfl, ?_⟩
            exact iT (by decide +kernel) (stop (fun q => nomatch q))
          | app y1 y2 =>
            obtain ⟨a2, w1, w2, rfl, ha2, _⟩ := id kz3
            refine ⟨_, rfl, _, _, _, _, rfl, rfl, SqT.of ha, rfl, _, rfl, _, _, _, _, rfl, rfl, SqT.of ha2, rfl, rfl, _, rfl, ?_⟩
            exact iT (by decide +kernel) (stop (fun q => nomatch q))
        | con x =>
          obtain ⟨a, rfl, ha⟩ := id ku3
          refine ⟨_, rfl, _, _, _, _, rfl, rfl, SqT.of ha, rfl, rfl, _, rfl, iF tg_ca (iteF ?_)⟩
          cases kd with
          | var y =>
            obtain ⟨a2, rfl, ha2⟩ := id kz3
            refine ⟨_, rfl, _, _, _, _, rfl, rfl, SqT.of ha, rfl, _, rfl, _, _, _, _, rfl, rfl, SqT.of ha2, rfl, rfl, _, rfl, ?_⟩
            exact iT (by decide +kernel) (stop (fun q => nomatch q))
          | con y =>
            obtain ⟨a2, rfl, ha2⟩ := id kz3
            refine ⟨_, rfl, _, _, _, _, rfl, rfl, SqT.of ha, rfl, _, rfl, _, _, _, _, rfl, rfl, SqT.of ha2, rfl, rfl, _, rfl, ?_⟩
            refine iF (neVF rfl) ?_
            refine ⟨_, rfl, _, _, _, _, rfl, rfl, SqT.of ha, rfl, _, rfl, _, _, _, _, rfl, rfl, SqT.of ha2, rfl, rfl, _, rfl, ?_⟩
            by_cases hxy : x = y
            · exact iF (neVF (by rw [hxy])) (next (by rw [hxy]))
            · exact iT (neV (fun q => hxy (V.str.inj q))) (stop (fun q => hxy (by cases q; rfl)))
          | app y1 y2 =>
            obtain ⟨a2, w1, w2, rfl, ha2, _⟩ := id kz3
            refine ⟨_, rfl, _, _, _, _, rfl, rfl, SqT.of ha, rfl, _, rfl, _, _, _, _, rfl, rfl, SqT.of ha2, rfl, rfl, _, rfl, ?_⟩
            exact iT (by decide +kernel) (stop (fun q => nomatch q))
        | app p1 p2 =>
          obtain ⟨a, u1, u2, rfl, ha, hu1, hu2⟩ := id ku3
          refine ⟨_, rfl, _, _, _, _, rfl, rfl, SqT.of ha, rfl, rfl, _, rfl, iT tg_aa ?_⟩
          cases kd with
          | var y =>
            obtain ⟨a2, rfl, ha2⟩ := id kz3
            refine ⟨_, rfl, _, _, _, _, rfl, rfl, SqT.of ha2, rfl, rfl, _, rfl, iF tg_va ?_⟩
            refine ⟨_, rfl, _, _, _, _, rfl, rfl, SqT.of ha, rfl, _, rfl, _, _, _, _, rfl, rfl, SqT.of ha2, rfl, rfl, _, rfl, ?_⟩
            exact iT (by decide +kernel) (stop (fun q => nomatch q))
          | con y =>
            obtain ⟨a2, rfl, ha2⟩ := id kz3
            refine ⟨_, rfl, _, _, _, _, rfl, rfl, SqT.of ha2, rfl, rfl, _, rfl, iF tg_ca ?_⟩
            refine ⟨_, rfl, _, _, _, _, rfl, rfl, SqT.of ha, rfl, _, rfl, _, _, _, _, rfl, rfl, SqT.of ha2, rfl, rfl, _, rfl, ?_⟩
            exact iT (by decide +kernel) (stop (fun q => nomatch q))
          | app k1b k2b =>
            obtain ⟨a3, w1, w2, rfl, ha3, hw1, hw2⟩ := id kz3
            refine ⟨_, rfl, _, _, _, _, rfl, rfl, SqT.of ha3, rfl, rfl, _, rfl, iT tg_aa ?_⟩
            have lv : vs0.length ≤ 100000 := by
              have := psz_len st0
              rw [Paired.length k1']
              omega
            refine ⟨_, rfl, .inl ⟨rfl, _, SqL.of w3⟩, _, rfl, _, _, _, _, rfl, rfl, SqT.of ha, rfl, _, rfl, _, _, _, _, rfl, rfl, SqT.of ha3, rfl, slz rfl, fun q1 hq1 => ?_⟩
            have sA : Same H3 (upd H3 q1 (.tup [u2, w2])) := same_new hq1
            refine ⟨l, vs0, _, rfl, rfl, sA _ _ w3, size_line (by omega), ?_⟩
            have tB : Tups (upd H3 q1 (.tup [u2, w2])) (upd (upd H3 q1 (.tup [u2, w2])) l (.lst (vs0 ++ [V.ref q1]))) := Tups.put (sA _ _ w3) (by intro xs z; cases z)
            have tAB := (same_tups sA).trans tB
            have gl : (upd (upd H3 q1 (.tup [u2, w2])) l (.lst (vs0 ++ [V.ref q1]))) l = some (.lst (vs0 ++ [V.ref q1])) := upd_same
            have pA : PairAt (upd (upd H3 q1 (.tup [u2, w2])) l (.lst (vs0 ++ [V.ref q1]))) (.ref q1) (p2, k2b) := ⟨q1, u2, w2, rfl, tB _ _ upd_same, KdAt.tups tAB hu2, KdAt.tups tAB hw2⟩
            have SB : Same H (upd (upd H3 q1 (.tup [u2, w2])) l (.lst (vs0 ++ [V.ref q1]))) := fun b o zz => by
              rw [upd_ne (ne_of_none zz nl)]
              exact sA _ _ (S3 _ _ zz)
            generalize upd (upd H3 q1 (.tup [u2, w2])) l (.lst (vs0 ++ [V.ref q1])) = H4 at tAB gl pA SB ⊢
            refine ⟨_, rfl, .inl ⟨rfl, _, SqL.of gl⟩, _, rfl, _, _, _, _, rfl, rfl, SqT.of (tAB _ _ ha), rfl, _, rfl, _, _, _, _, rfl, rfl, SqT.of (tAB _ _ ha3), rfl, slz rfl, fun q2 hq2 => ?_⟩
            have sC : Same H4 (upd H4 q2 (.tup [u1, w1])) := same_new hq2
            refine ⟨l, _, _, rfl, rfl, sC _ _ gl, size_line (by rw [List.length_append, List.length_singleton]; omega), ?_⟩
            have tD : Tups (upd H4 q2 (.tup [u1, w1])) (upd (upd H4 q2 (.tup [u1, w1])) l (.lst (vs0 ++ [V.ref q1] ++ [V.ref q2]))) := Tups.put (sC _ _ gl) (by intro xs z; cases z)
            have tCD := (same_tups sC).trans tD
            have tAD := tAB.trans tCD
            refine ⟨st0 ++ [(p2, k2b)] ++ [(p1, k1b)], vs0 ++ [V.ref q1] ++ [V.ref q2], _, _, rfl, fun b o zz => ?_, upd_same, ?_, ?_, ?_, ?_⟩
            · rw [upd_ne (ne_of_none zz nl)]
              exact sC _ _ (SB _ _ zz)
            · exact Paired.snoc (Paired.snoc (paired_map (fun _ _ q => PairAt.tups tAD q) k1') (PairAt.tups tCD pA)) ⟨q2, u1, w1, rfl, tD _ _ upd_same, KdAt.tups tAD hu1, KdAt.tups tAD hw1⟩
            · rw [psz_append, psz_append, lsz]
              simp only [psz, Kd.size]
              omega
            · rw [lsz] at g5
              rw [psz_append, psz_append]
              simp only [psz, Kd.size] at g5 ⊢
              omega
            · rw [← g6, allEq_app, allEq_app, kd_app_eq]
              simp only [allEq, List.all_cons, List.all_nil, Bool.and_true]
              cases decide (p1 = k1b) <;> cases decide (p2 = k2b) <;> simp
end
end L3

/-! how kinds are shown: no dict, not too long -/
namespace L3
open PySem L2
theorem shown_word {x : Str} (w : Wok x) : (PyData.str x).shown.length ≤ 82 := by
  have h := StrLaws.reprText_len x (fun c hc => by have := w.2.2 c hc; omega)
  have e : (PyData.str x).shown = reprText x := by simp only [PyData.shown]
  rw [e]
  have := w.2.1
  omega
theorem shown_var : (PyData.str "var").shown.length ≤ 82 := by decide +kernel
theorem shown_con : (PyData.str "con").shown.length ≤ 82 := by decide +kernel
theorem shown_apply : (PyData.str "apply").shown.length ≤ 82 := by decide +kernel
theorem shown_two (a b : PyData) : (PyData.tuple [a, b]).shown.length ≤ a.shown.length + b.shown.length + 7 := by
  have h := tupleText_len_le [a.shown, b.shown]
  simp only [PyData.shown, PyData.shownAll]
  simp only [List.map_cons, List.map_nil, List.sum_cons, List.sum_nil, List.length_cons, List.length_nil] at h
  omega
theorem shown_three (a b c : PyData) : (PyData.tuple [a, b, c]).shown.length ≤ a.shown.length + b.shown.length + c.shown.length + 9 := by
  have h := tupleText_len_le [a.shown, b.shown, c.shown]
  simp only [PyData.shown, PyData.shownAll]
  simp only [List.map_cons, List.map_nil, List.sum_cons, List.sum_nil, List.length_cons, List.length_nil] at h
  omega
theorem Kd.shown_len : ∀ {k : Kd} {n : Nat}, k.fit n → k.dat.shown.length + 100 ≤ 300 * 2 ^ n
  | .var x, n, h => by
    have h1 := shown_two (.str "var") (.str x)
    have h2 := shown_word (wok_of_var h)
    have h3 := shown_var
    have h4 : 1 ≤ 2 ^ n := Nat.one_le_two_pow
    show (PyData.tuple [.str "var", .str x]).shown.length + 100 ≤ _
    omega
  | .con x, n, h => by
    have h1 := shown_two (.str "con") (.str x)
    have h2 := shown_word (wok_of_con h)
    have h3 := shown_con
    have h4 : 1 ≤ 2 ^ n := Nat.one_le_two_pow
    show (PyData.tuple [.str "con", .str x]).shown.length + 100 ≤ _
    omega
  | .app a b, n, h => by
    obtain ⟨m, rfl, ha, hb⟩ := Kd.fit_app h
    have h1 := shown_three (.str "apply") a.dat b.dat
    have h2 := Kd.shown_len ha
    have h3 := Kd.shown_len hb
    have h4 := shown_apply
    have h5 : 2 ^ (m + 1) = 2 ^ m * 2 := Nat.pow_succ ..
    show (PyData.tuple [.str "apply", a.dat, b.dat]).shown.length + 100 ≤ _
    omega
theorem Kd.show_ok : ∀ k : Kd, k.dat.showable = true ∧ k.dat.hasDict = false
  | .var x => by simp [Kd.dat, PyData.showable, PyData.showableAll, PyData.hasDict, PyData.hasDictAll]
  | .con x => by simp [Kd.dat, PyData.showable, PyData.showableAll, PyData.hasDict, PyData.hasDictAll]
  | .app a b => by
    obtain ⟨h1, h2⟩ := Kd.show_ok a
    obtain ⟨h3, h4⟩ := Kd.show_ok b
    simp [Kd.dat, PyData.showable, PyData.showableAll, PyData.hasDict, PyData.hasDictAll, h1, h2, h3, h4]
theorem kds_show : ∀ {ks : List Kd} {n : Nat}, (∀ k ∈ ks, k.fit n) → PyData.showableAll (ks.map Kd.dat) = true ∧ PyData.hasDictAll (ks.map Kd.dat) = false ∧ PyData.depthAll (ks.map Kd.dat) ≤ n + 1 ∧ ((PyData.shownAll (ks.map Kd.dat)).map (·.length)).sum ≤ ks.length * (300 * 2 ^ n) ∧ (PyData.shownAll (ks.map Kd.dat)).length = ks.length
  | [], n, _ => by simp [PyData.showableAll, PyData.hasDictAll, PyData.depthAll, PyData.shownAll]
  | k :: r, n, h => by
    obtain ⟨h1, h2, h3, h4, h5⟩ := kds_show (ks := r) (n := n) fun y hy => h y (List.mem_cons_of_mem _ hy)
    have hk := h k List.mem_cons_self
    obtain ⟨g1, g2⟩ := Kd.show_ok k
    obtain ⟨g3, g4⟩ := Kd.lay hk
    have g5 := Kd.shown_len hk
    refine ⟨?_, ?_, ?_, ?_, ?_⟩
    · simp [PyData.showableAll, g1, h1]
    · simp [PyData.hasDictAll, g2, h2]
    · simp only [List.map_cons, PyData.depthAll]
      omega
    · have e : (r.length + 1) * (300 * 2 ^ n) = r.length * (300 * 2 ^ n) + 300 * 2 ^ n := Nat.succ_mul ..
      simp only [List.map_cons, PyData.shownAll, List.sum_cons, List.length_cons]
      rw [e]
      generalize r.length * (300 * 2 ^ n) = z at h4 ⊢
      omega
    · simp [PyData.shownAll, h5]
/-- [patterns, kinds] -/
def twoD (ps ks : List Kd) : PyData := .list [.list (ps.map Kd.dat), .list (ks.map Kd.dat)]
theorem twoD_show {ps ks : List Kd} (hp : ∀ k ∈ ps, k.fit 12) (hk : ∀ k ∈ ks, k.fit 12) (lp : ps.length ≤ 4) (lk : ks.length ≤ 4) :
    (twoD ps ks).showable = true ∧ (twoD ps ks).hasDict = false ∧ (twoD ps ks).depth ≤ 60 ∧ (twoD ps ks).shown.length ≤ sizeLine := by
  obtain ⟨a1, a2, a3, a4, a5⟩ := kds_show hp
  obtain ⟨b1, b2, b3, b4, b5⟩ := kds_show hk
  refine ⟨?_, ?_, ?_, ?_⟩
  · simp [twoD, PyData.showable, PyData.showableAll, a1, b1]
  · simp [twoD, PyData.hasDict, PyData.hasDictAll, a2, b2]
  · simp only [twoD, PyData.depth, PyData.depthAll]
    omega
  · have h := listText_len_le [listText (PyData.shownAll (ps.map Kd.dat)), listText (PyData.shownAll (ks.map Kd.dat))]
    have h1 := listText_len_le (PyData.shownAll (ps.map Kd.dat))
    have h2 := listText_len_le (PyData.shownAll (ks.map Kd.dat))
    have c1 : ps.length * (300 * 2 ^ 12) ≤ 4 * (300 * 2 ^ 12) := Nat.mul_le_mul_right _ lp
    have c2 : ks.length * (300 * 2 ^ 12) ≤ 4 * (300 * 2 ^ 12) := Nat.mul_le_mul_right _ lk
    simp only [List.map_cons, List.map_nil, List.sum_cons, List.sum_nil, List.length_cons, List.length_nil] at h
    simp only [twoD, PyData.shown, PyData.shownAll]
    have e := sizeLine_eq
    rw [e]
    omega
end L3

/-! what is sorted is told by what is in it -/
namespace L3
open PySem PySem.Spec PyProof.Rows L2
theorem str_ext {x y : Str} (h : x.cps.toList = y.cps.toList) : x = y := by
  obtain ⟨⟨a⟩⟩ := x
  obtain ⟨⟨b⟩⟩ := y
  have e : a = b := h
  rw [e]
theorem rising_pw : ∀ (l : List Str) (p : Str), risingS p l = true → (p :: l).Pairwise fun a b => a.cps.toList ≤ b.cps.toList
  | [], p, _ => List.pairwise_singleton _ _
  | x :: r, p, h => by
    unfold risingS at h
    rw [Bool.and_eq_true, ltCps_eq] at h
    obtain ⟨h1, h2⟩ := h
    have ih := rising_pw r x h2
    have le : p.cps.toList ≤ x.cps.toList := by
      have : ¬ x.cps.toList < p.cps.toList := by simpa using h1
      exact this
    refine List.pairwise_cons.mpr ⟨fun y hy => ?_, ih⟩
    rcases List.mem_cons.mp hy with e | e
    · rw [e]; exact le
    · exact List.le_trans le ((List.pairwise_cons.mp ih).1 y e)
theorem sorted_pw : ∀ {l : List Str}, sortedS l = true → l.Pairwise fun a b => a.cps.toList ≤ b.cps.toList
  | [], _ => List.Pairwise.nil
  | x :: r, h => rising_pw r x h
theorem sorted_uniq {xs ys : List Str} (p : xs.Perm ys) (a : sortedS xs = true) (b : sortedS ys = true) : xs = ys :=
  List.Perm.eq_of_pairwise (le := fun a b : Str => a.cps.toList ≤ b.cps.toList) (fun x y _ _ h1 h2 => str_ext (List.le_antisymm h1 h2)) (sorted_pw a) (sorted_pw b) p
/-! the size of kinds, words of a script -/
theorem Kd.size_fit : ∀ {k : Kd} {n : Nat}, k.fit n → k.size + 1 ≤ 2 * 2 ^ n
  | .var x, n, _ => by
    have : 1 ≤ 2 ^ n := Nat.one_le_two_pow
    show 1 + 1 ≤ _
    omega
  | .con x, n, _ => by
    have : 1 ≤ 2 ^ n := Nat.one_le_two_pow
    show 1 + 1 ≤ _
    omega
  | .app a b, n, h => by
    obtain ⟨m, rfl, ha, hb⟩ := Kd.fit_app h
    have h1 := Kd.size_fit ha
    have h2 := Kd.size_fit hb
    have h5 : 2 ^ (m + 1) = 2 ^ m * 2 := Nat.pow_succ ..
    show a.size + b.size + 1 + 1 ≤ _
    omega
theorem sizeL_fit {n : Nat} : ∀ {ks : List Kd}, (∀ k ∈ ks, k.fit n) → sizeL ks ≤ ks.length * (2 * 2 ^ n)
  | [], _ => Nat.zero_le _
  | k :: r, h => by
    have h1 := Kd.size_fit (h k List.mem_cons_self)
    have h2 := sizeL_fit (ks := r) fun y hy => h y (List.mem_cons_of_mem _ hy)
    have e : (r.length + 1) * (2 * 2 ^ n) = r.length * (2 * 2 ^ n) + 2 * 2 ^ n := Nat.succ_mul ..
    show k.size + sizeL r ≤ (r.length + 1) * (2 * 2 ^ n)
    rw [e]
    omega
theorem vs_len : ∀ (k : Kd) (fs : List Str), (k.vs fs).length ≤ fs.length + k.size
  | .var x, fs => by
    show (addV fs x).length ≤ fs.length + 1
    unfold addV
    split
    · omega
    · simp
  | .con _, fs => Nat.le_add_right _ _
  | .app a b, fs => by
    have h1 := vs_len a fs
    have h2 := vs_len b (a.vs fs)
    show (b.vs (a.vs fs)).length ≤ fs.length + (a.size + b.size + 1)
    omega
theorem addV_of {ws fs : List Str} {x : Str} (h : x ∈ ws) (hf : ∀ y ∈ fs, y ∈ ws) : ∀ y ∈ addV fs x, y ∈ ws := by
  intro y hy
  unfold addV at hy
  split at hy
  · exact hf y hy
  · rcases List.mem_append.mp hy with q | q
    · exact hf y q
    · rw [List.mem_singleton.mp q]; exact h
theorem Kd.vs_of {ws : List Str} : ∀ {k : Kd} {fs : List Str}, Kd.of ws k → (∀ y ∈ fs, y ∈ ws) → ∀ y ∈ k.vs fs, y ∈ ws
  | .var x, _, h, hf => addV_of h hf
  | .con _, _, _, hf => hf
  | .app a b, fs, h, hf => Kd.vs_of (k := b) h.2 (Kd.vs_of (k := a) h.1 hf)
theorem vsL_of {ws : List Str} : ∀ {ks : List Kd} {fs : List Str}, (∀ k ∈ ks, Kd.of ws k) → (∀ y ∈ fs, y ∈ ws) → ∀ y ∈ vsL ks fs, y ∈ ws
  | [], _, _, hf => hf
  | k :: r, _, h, hf => vsL_of (ks := r) (fun y hy => h y (List.mem_cons_of_mem _ hy)) (Kd.vs_of (h k List.mem_cons_self) hf)
end L3

namespace L3
open PySem L2
theorem map_off {x : Str} {z : V} {H : Hp} : ∀ {kvs : List (Key × V)} {b : By}, ByAt H kvs b → ¬ x ∈ names b → (kvs.map fun kv => if kv.1 = (.inr x : Key) then (kv.1, z) else kv) = kvs
  | _, _, .nil, _ => rfl
  | p :: kvs, q :: b, .cons r t, h => by
    have h1 : ¬ q.1 = x := fun e => h (by rw [← e]; exact List.mem_cons_self)
    have h2 : ¬ x ∈ names b := fun e => h (List.mem_cons_of_mem _ e)
    have hp : ¬ p.1 = (.inr x : Key) := by
      rw [r.1]
      intro e
      exact h1 (Sum.inr.inj e)
    rw [List.map_cons, map_off t h2, if_neg hp]
/-- a value is stored anew under its name: another object of the same kind -/
theorem byAt_put {x : Str} {z : V} {k : Kd} {H : Hp} {kvs : List (Key × V)} {b : By} (h : ByAt H kvs b) (hn : (names b).Nodup) (hs : (valV kvs (.inr x)).isSome = true) (hk : lk b x = some k) (hz : KdAt H z k) : ByAt H (putK kvs (.inr x) z) b := by
  have e : putK kvs (.inr x) z = kvs.map fun kv => if kv.1 = (.inr x : Key) then (kv.1, z) else kv := by
    unfold putK
    rw [valV_any, hs]
    rfl
  rw [e]
  clear e hs
  induction h with
  | nil => exact .nil
  | @cons p q kvs b r t ih =>
    obtain ⟨n1, n2⟩ := List.nodup_cons.mp (show (q.1 :: names b).Nodup from hn)
    by_cases h1 : q.1 = x
    · rw [lk_pos h1] at hk
      have ek : q.2 = k := Option.some.inj hk
      have hp : p.1 = (.inr x : Key) := by rw [r.1, h1]
      have off : ¬ x ∈ names b := by rw [← h1]; exact n1
      rw [List.map_cons, if_pos hp, map_off t off]
      exact .cons ⟨r.1, by rw [ek]; exact hz⟩ t
    · have hp : ¬ p.1 = (.inr x : Key) := by
        rw [r.1]
        intro e
        exact h1 (Sum.inr.inj e)
      rw [lk_neg h1] at hk
      rw [List.map_cons, if_neg hp]
      exact .cons r (ih n2 hk)
section
variable {P : Program} {w : World} {K : PySem.W.Frag} {mg : Str → Option Value} {base : Heap}
abbrev s_fits : Stmt := topS 1
abbrev N_fits : List Str := ["patterns", "kinds", "found", "waiting", "pattern", "kind"]
theorem sc_fits : FnScope N_fits ["patterns", "kinds"] (defScope s_fits) := ⟨rfl, rfl, rfl, by decide +kernel, rfl, by decide +kernel, by decide +kernel⟩
def spF (K : PySem.W.Frag) : Sp := fun vs H Q _ => ∃ (l1 l2 : Addr) (xs ys : List V) (ps ks : List Kd), vs = [.ref l1, .ref l2] ∧ ((SqL K H l1 xs ∧ SqL K H l2 ys) ∨ (SqT K H l1 xs ∧ SqT K H l2 ys)) ∧ KdsAt H xs ps ∧ KdsAt H ys ks ∧ xs.length = ys.length ∧ (∀ p ∈ ps, p.fit 60) ∧ (∀ k ∈ ks, k.fit 15) ∧ sizeL ps ≤ 100000 ∧
  FitsEnd H Q (mtL ps ks [])
theorem SqT.same {H H' : Hp} (e : Same H H') {a : Addr} {xs : List V} (h : SqT K H a xs) : SqT K H' a xs := by
  rcases h with (h | ⟨o, h⟩) | h
  · exact .inl (.inl (e _ _ h))
  · exact .inl (.inr ⟨o, e _ _ h⟩)
  · exact .inr h
theorem ok_fits {f : Addr} {fd : FuncData} (F : Fun K "fits" "fits" s_fits f fd) (B : Bl mg) (D_is_same_kind : Kn P w K mg base 1 "is_same_kind" ["one", "other"] spSK) : FnOk P w K mg base CX0 2 f fd ["patterns", "kinds"] (spF K) := by
  refine F.ok sc_fits (fun vs H Q E h => ?_) (fun cdv A outer s H vs Q E hr h => ?_)
  · obtain ⟨l1, l2, xs, ys, ps, ks, rfl, _⟩ := h
    rfl
  · obtain ⟨l1, l2, xs, ys, ps, ks, rfl, h12, hp, hk, hl, fp, fk, hz, k⟩ := h
    have hu := hu_of hr
    have hr_is_same_kind : Room 1 _ := hr
    have hu64 := hr.units
    refine ⟨_, (pss_cons (ps_set (i := 2) sc_fits.nd rfl (Or.inl rfl) pe_dnewK)
  (pss_cons (ps_set (i := 3) sc_fits.nd rfl (Or.inl rfl) (pe_listZip (by rfl) B.list (by rfl) B.zip rfl (pa_cons (pv 0) (pa_cons (pv 1) pa_nil))))
  (pss_cons (ps_expr (pe_bm0 PySem.F.plainAttrs_list PySem.F.slot_list_reverse PySem.F.type_list_reverse mt_reverse (pv 3)))
  (pss_cons (ps_while PassesOwn.never (pt_truth (pv 3) (by intro _; rfl))
  (pss_cons (ps_asg (pe_bm0 PySem.F.plainAttrs_list PySem.F.slot_list_pop PySem.F.type_list_pop mt_pop (pv 3)) (pg_tup (by rfl) (pgs_cons (pg_name (i := 4) sc_fits.nd rfl (Or.inl rfl)) (pgs_cons (pg_name (i := 5) sc_fits.nd rfl (Or.inl rfl)) pgs_nil))))
  (pss_one (ps_if (pt_cmpR op_eq (pe_ix ix_tup (pv 4) pe_int (fun _ _ => rfl)) pe_str (nomark _))
  (pss_cons (ps_if (PW.pt (pw_and (pt_cmp (pc_din hu (pe_ix ix_tup (pv 4) pe_int (fun _ _ => rfl)) (pv 2)) (by rfl)) (pw_and1 (pt_not (pt_val (pe_kn D_is_same_kind hr_is_same_kind (pa_cons (pe_dget hu (pv 2) (pe_ix ix_tup (pv 4) pe_int (fun _ _ => rfl)) (fun _ _ => rfl)) (pa_cons (pv 5) pa_nil))))))))
  (pss_one (ps_ret pe_non))
  pss_nil)
  (pss_one (ps_dput hu (pv 2) (pe_ix ix_tup (pv 4) pe_int (fun _ _ => rfl)) (pv 5) rfl)))
  (pss_one (ps_if (PW.pt (pw_and (pt_cmpR op_eq (pe_ix ix_tup (pv 4) pe_int (fun _ _ => rfl)) pe_str (nomark _)) (pw_and1 (pt_cmpR op_eq (pe_ix ix_tup (pv 5) pe_int (fun _ _ => rfl)) pe_str (nomark _)))))
  (pss_cons (ps_expr (pe_bm PySem.F.plainAttrs_list PySem.F.slot_list_append PySem.F.type_list_append mt_append (pv 3) (pa_cons (pe_tup (pa_cons (pe_ix ix_tup (pv 4) pe_int (fun _ _ => rfl)) (pa_cons (pe_ix ix_tup (pv 5) pe_int (fun _ _ => rfl)) pa_nil))) pa_nil)))
  (pss_one (ps_expr (pe_bm PySem.F.plainAttrs_list PySem.F.slot_list_append PySem.F.type_list_append mt_append (pv 3) (pa_cons (pe_tup (pa_cons (pe_ix ix_tup (pv 4) pe_int (fun _ _ => rfl)) (pa_cons (pe_ix ix_tup (pv 5) pe_int (fun _ _ => rfl)) pa_nil))) pa_nil)))))
  (pss_one (ps_if (PW.pt (pw_or (pt_cmpR op_ne (pe_ix ix_tup (pv 4) pe_int (fun _ _ => rfl)) (pe_ix ix_tup (pv 5) pe_int (fun _ _ => rfl)) (nomark _)) (pw_or1 (pt_cmpR op_ne (pe_ix ix_tup (pv 4) pe_int (fun _ _ => rfl)) (pe_ix ix_tup (pv 5) pe_int (fun _ _ => rfl)) (nomark _)))))
  (pss_one (ps_ret pe_non))
  pss_nil))))))))
  (pss_one (ps_ret (pv 2))))))), ?_⟩
    intro d hd
    have s0 : Same H (upd H d (.dK [])) := same_new hd
    have h12' : (SqL K (upd H d (.dK [])) l1 xs ∧ SqL K (upd H d (.dK [])) l2 ys) ∨ (SqT K (upd H d (.dK [])) l1 xs ∧ SqT K (upd H d (.dK [])) l2 ys) := by
      rcases h12 with ⟨a, b⟩ | ⟨a, b⟩
      · exact .inl ⟨s0.seq a, s0.seq b⟩
      · exact .inr ⟨SqT.same s0 a, SqT.same s0 b⟩
    refine ⟨_, rfl, _, rfl, l1, l2, xs, ys, rfl, h12', hl, fun H1 l ts s1 hl0 hL pr => ?_⟩
    have s01 := s0.trans s1
    have d1 := s1 _ _ upd_same
    have nl : H l = none := s0.free hl0
    have ndl : d ≠ l := ne_of_none upd_same hl0
    have zp := zip_pairs pr (KdsAt.tups (same_tups s01) hp) (KdsAt.tups (same_tups s01) hk)
    refine ⟨_, rfl, .inl ⟨rfl, _, SqL.of hL⟩, l, _, rfl, rfl, hL, ?_⟩
    have tu1 : Tups H1 (upd H1 l (.lst (ts.map V.ref).reverse)) := Tups.put hL (by intro xs z; cases z)
    refine ⟨fun m σ H' => ∃ (st : List (Kd × Kd)) (vs : List V) (kvs : List (Key × V)) (b : By) (v4 v5 : Option V), σ = [some (.ref l1), some (.ref l2), some (.ref d), some (.ref l), v4, v5] ∧ Same H H' ∧ H' d = some (.dK kvs) ∧ ByAt H' kvs b ∧ (∀ q ∈ b, q.2.fit 15) ∧ (names b).Nodup ∧ H' l = some (.lst vs) ∧
      Paired (PairAt H') vs st ∧ m = psz st ∧ (∀ q ∈ st, q.1.fit 60 ∧ q.2.fit 15) ∧ b.length + psz st ≤ 100000 ∧ mtP st.reverse b = mtL ps ks [],
      ⟨psz (ps.zip ks), (ps.zip ks).reverse, (ts.map V.ref).reverse, [], [], none, none, rfl, fun q o z => ?_, ?_, .nil, (fun _ q => nomatch q), List.nodup_nil, upd_same, paired_rev (paired_map (fun _ _ q => PairAt.tups tu1 q) zp), (psz_rev _).symm, fun q hq => ?_, ?_, ?_⟩, ?_⟩
    · rw [upd_ne (ne_of_none z nl)]
      exact s01 _ _ z
    · rw [upd_ne ndl]
      exact d1
    · have m := List.mem_reverse.mp hq
      obtain ⟨a, b⟩ := q
      exact ⟨fp _ (List.of_mem_zip m).1, fk _ (List.of_mem_zip m).2⟩
    · rw [psz_rev]
      have := psz_zip ps ks
      simp only [List.length_nil]
      omega
    · rw [List.reverse_reverse]
      exact mtP_zip ps ks []
    · rintro m σ H2 ⟨st, vs, kvs, b, v4, v5, rfl, s2, d2, b2, fb, nb, g2, g3, rfl, g4, g5, g6⟩
      refine ⟨_, rfl, _, .inl ⟨vs, SqL.of g2, rfl⟩, ?_⟩
      by_cases hst : st = []
      · subst hst
        cases g3
        refine iteF ?_
        have e : some b = mtL ps ks [] := g6
        rw [← e] at k
        exact ⟨_, rfl, k H2 d kvs s2 hd d2 b2 (fun q hq => Kd.fit_mono (by decide) (fb q hq)) (by simp only [psz] at g5; omega)⟩
      · obtain ⟨st0, q0, rfl⟩ : ∃ st0 q0, st = st0 ++ [q0] := ⟨st.dropLast, st.getLast hst, (List.dropLast_concat_getLast hst).symm⟩
        obtain ⟨vs0, v, rfl, g31, g32⟩ := paired_last g3
        have hne : (!(vs0 ++ [v]).isEmpty) = true := by cases vs0 <;> rfl
        refine iT hne ?_
        obtain ⟨p, kd⟩ := q0
        have lsz : psz (st0 ++ [(p, kd)]) = psz st0 + p.size := by rw [psz_append]; rfl
        rw [List.reverse_append] at g6
        have g6' : mtP ((p, kd) :: st0.reverse) b = mtL ps ks [] := g6
        obtain ⟨fp1, fk1⟩ := g4 (p, kd) (List.mem_append_right _ List.mem_cons_self)
        have fit0 : ∀ q ∈ st0, q.1.fit 60 ∧ q.2.fit 15 := fun q hq => g4 q (List.mem_append_left _ hq)
        have hs1 := p.size_pos
        -- where the next turn begins
        refine ⟨fun σ' H' => ∃ (st : List (Kd × Kd)) (vs : List V) (kvs : List (Key × V)) (b : By) (v4 v5 : Option V), σ' = [some (.ref l1), some (.ref l2), some (.ref d), some (.ref l), v4, v5] ∧ Same H H' ∧ H' d = some (.dK kvs) ∧ ByAt H' kvs b ∧ (∀ q ∈ b, q.2.fit 15) ∧ (names b).Nodup ∧ H' l = some (.lst vs) ∧
          Paired (PairAt H') vs st ∧ psz st < psz (st0 ++ [(p, kd)]) ∧ (∀ q ∈ st, q.1.fit 60 ∧ q.2.fit 15) ∧ b.length + psz st ≤ 100000 ∧ mtP st.reverse b = mtL ps ks [], ?_, ?_⟩
        · rintro σ' H' ⟨st, vs, kvs, b, v4, v5, e1, e2, e3, e4, e5, e6, e7, e8, e9, e10, e11, e12⟩
          exact ⟨psz st, e9, st, vs, kvs, b, v4, v5, e1, e2, e3, e4, e5, e6, e7, e8, rfl, e10, e11, e12⟩
        · obtain ⟨T, u, z, rfl, hT, ku, kz⟩ := g32
          have nTl : T ≠ l := ne_of hT g2 (by intro q; cases q)
          refine ⟨_, rfl, .inl ⟨rfl, _, SqL.of g2⟩, l, vs0 ++ [V.ref T], V.ref T, rfl, rfl, g2, by simp, ?_⟩
          rw [List.dropLast_concat]
          have tu3 : Tups H2 (upd H2 l (.lst vs0)) := Tups.put g2 (by intro xs z; cases z)
          have S3 : Same H (upd H2 l (.lst vs0)) := fun b o zz => by
            rw [upd_ne (ne_of_none zz nl)]
            exact s2 _ _ zz
          have d3 : (upd H2 l (.lst vs0)) d = some (.dK kvs) := by rw [upd_ne ndl]; exact d2
          have b3 := ByAt.tups tu3 b2
          have w3 : (upd H2 l (.lst vs0)) l = some (.lst vs0) := upd_same
          have k1 := paired_map (fun _ _ q => PairAt.tups tu3 q) g31
          have ku3 := KdAt.tups tu3 ku
          have kz3 := KdAt.tups tu3 kz
          refine ⟨T, _, rfl, SqT.of (tu3 _ _ hT), rfl, _, _, rfl, _, _, rfl, rfl, ?_⟩
          generalize upd H2 l (.lst vs0) = H3 at S3 d3 b3 w3 k1 ku3 kz3 ⊢
          clear tu3 g2 g3 g31 ku kz
          obtain ⟨a2, xs2, e2, ha2, hx2⟩ := kz3.top
          have e0 : atI xs2 0 = some (.str kd.tag) := atI_nat (j := 0) hx2
          -- the pair is alike, nothing is learnt
          have next : (p.mt kd b) = (true, b) → ∃ (st : List (Kd × Kd)) (vs : List V) (kvs : List (Key × V)) (b : By) (v4 v5 : Option V), [some (V.ref l1), some (.ref l2), some (.ref d), some (.ref l), some u, some z] = [some (.ref l1), some (.ref l2), some (.ref d), some (.ref l), v4, v5] ∧ Same H H3 ∧ H3 d = some (.dK kvs) ∧ ByAt H3 kvs b ∧ (∀ q ∈ b, q.2.fit 15) ∧ (names b).Nodup ∧ H3 l = some (.lst vs) ∧
              Paired (PairAt H3) vs st ∧ psz st < psz (st0 ++ [(p, kd)]) ∧ (∀ q ∈ st, q.1.fit 60 ∧ q.2.fit 15) ∧ b.length + psz st ≤ 100000 ∧ mtP st.reverse b = mtL ps ks [] := by
            intro em
            refine ⟨st0, vs0, kvs, b, some u, some z, rfl, S3, d3, b3, fb, nb, w3, k1, by rw [lsz]; omega, fit0, by rw [lsz] at g5; omega, ?_⟩
            rw [← g6']
            show mtP st0.reverse b = if (p.mt kd b).1 = true then mtP st0.reverse (p.mt kd b).2 else none
            rw [em]
            rfl
          have stop : (p.mt kd b).1 = false → Q .non H3 := by
            intro em
            have e : mtL ps ks [] = none := by
              rw [← g6']
              show (if (p.mt kd b).1 = true then mtP st0.reverse (p.mt kd b).2 else none) = none
              rw [em]
              rfl
            rw [e] at k
            exact k H3 S3
          cases p with
          | var x =>
            obtain ⟨a, rfl, ha⟩ := id ku3
            refine ⟨_, rfl, _, _, _, _, rfl, rfl, SqT.of ha, rfl, rfl, _, rfl, iT tg_vv ?_⟩
            -- found[x] = kind
            have store : ∀ (H4 : Hp) (s4 : Same H3 H4) (b' : By), ByAt (upd H4 d (.dK (putK kvs (.inr x) z))) (putK kvs (.inr x) z) b' → ((Kd.var x).mt kd b) = (true, b') → (∀ q ∈ b', q.2.fit 15) → (names b').Nodup → b'.length ≤ b.length + 1 →
                ∃ (st : List (Kd × Kd)) (vs : List V) (kvs' : List (Key × V)) (b : By) (v4 v5 : Option V), [some (V.ref l1), some (.ref l2), some (.ref d), some (.ref l), some (.ref a), some z] = [some (.ref l1), some (.ref l2), some (.ref d), some (.ref l), v4, v5] ∧ Same H (upd H4 d (.dK (putK kvs (.inr x) z))) ∧ (upd H4 d (.dK (putK kvs (.inr x) z))) d = some (.dK kvs') ∧ ByAt (upd H4 d (.dK (putK kvs (.inr x) z))) kvs' b ∧ (∀ q ∈ b, q.2.fit 15) ∧ (names b).Nodup ∧ (upd H4 d (.dK (putK kvs (.inr x) z))) l = some (.lst vs) ∧
                  Paired (PairAt (upd H4 d (.dK (putK kvs (.inr x) z)))) vs st ∧ psz st < psz (st0 ++ [(.var x, kd)]) ∧ (∀ q ∈ st, q.1.fit 60 ∧ q.2.fit 15) ∧ b.length + psz st ≤ 100000 ∧ mtP st.reverse b = mtL ps ks [] := by
              intro H4 s4 b' hb' em fb' nb' lb'
              have tu4 : Tups H3 (upd H4 d (.dK (putK kvs (.inr x) z))) := (same_tups s4).trans (ext_tupsD Ext.put (s4 _ _ d3))
              refine ⟨st0, vs0, _, b', _, _, rfl, fun q o zz => ?_, upd_same, hb', fb', nb', by rw [upd_ne ndl.symm]; exact s4 _ _ w3, paired_map (fun _ _ q => PairAt.tups tu4 q) k1, by rw [lsz]; omega, fit0, ?_, ?_⟩
              · rw [upd_ne (ne_of_none zz hd)]
                exact s4 _ _ (S3 _ _ zz)
              · rw [lsz] at g5
                simp only [Kd.size] at g5
                omega
              · rw [← g6']
                show mtP st0.reverse b' = if ((Kd.var x).mt kd b).1 = true then mtP st0.reverse ((Kd.var x).mt kd b).2 else none
                rw [em]
                rfl
            have tu4 : Tups H3 (upd H3 d (.dK (putK kvs (.inr x) z))) := ext_tupsD Ext.put d3
            rcases b3.get x with ⟨e1, e2⟩ | ⟨v1, kd1, e1, e2, g⟩
            · have em : (Kd.var x).mt kd b = (true, b ++ [(x, kd)]) := by simp only [Kd.mt, e2]
              have hx : ¬ x ∈ names b := by
                have := lk_names b x
                rw [e2] at this
                exact of_decide_eq_false this.symm
              refine ⟨_, rfl, _, _, _, _, rfl, rfl, SqT.of ha, rfl, _, rfl, d, none, rfl, by rw [← e1]; exact DGet.k (k := .inr x) d3, _, rfl, iF rfl (iteF ?_)⟩
              refine ⟨_, rfl, _, rfl, _, rfl, _, _, _, _, rfl, rfl, SqT.of ha, rfl, d, _, rfl, DPut.k (k := .inr x) d3 (size_line (by rw [byAt_len b3]; omega)), ?_⟩
              refine store H3 (Same.refl _) (b ++ [(x, kd)]) ?_ em ?_ ?_ (by simp)
              · generalize upd H3 d (.dK (putK kvs (.inr x) z)) = H4 at tu4 ⊢
                rw [putK_new z e1]
                exact Paired.snoc (ByAt.tups tu4 b3) ⟨rfl, KdAt.tups tu4 kz3⟩
              · intro q hq
                rcases List.mem_append.mp hq with h | h
                · exact fb q h
                · rw [List.mem_singleton.mp h]
                  exact fk1
              · show (List.map (·.1) (b ++ [(x, kd)])).Nodup
                rw [List.map_append]
                exact List.nodup_append.mpr ⟨nb, by simp, fun a ha b hb => by
                  have : b = x := by simpa using hb
                  rw [this]
                  intro zz
                  rw [zz] at ha
                  exact hx ha⟩
            · have em : (Kd.var x).mt kd b = (decide (kd1 = kd), b) := by simp only [Kd.mt, e2]
              refine ⟨_, rfl, _, _, _, _, rfl, rfl, SqT.of ha, rfl, _, rfl, d, some v1, rfl, by rw [← e1]; exact DGet.k (k := .inr x) d3, _, rfl, iT rfl ?_⟩
              have sz1 : kd1.size ≤ 100000 := by
                have : kd1.size + 1 ≤ 2 * 2 ^ 15 := Kd.size_fit (fb _ (lk_mem e2))
                have e15 : (2 : Nat) ^ 15 = 32768 := by decide
                omega
              refine ⟨_, rfl, _, rfl, _, _, _, _, rfl, rfl, SqT.of ha, rfl, d, v1, rfl, by rw [← e1]; exact DGet.k (k := .inr x) d3, _, rfl, v1, z, kd1, kd, rfl, g, kz3, sz1, fun H4 s4 => ⟨_, rfl, ?_⟩⟩
              by_cases hk1 : kd1 = kd
              · refine iF (by rw [decide_eq_true hk1]; rfl) ?_
                refine ⟨_, rfl, _, rfl, _, rfl, _, _, _, _, rfl, rfl, SqT.of (s4 _ _ ha), rfl, d, _, rfl, DPut.k (k := .inr x) (s4 _ _ d3) (size_line (by rw [byAt_len b3]; omega)), ?_⟩
                refine store H4 s4 b ?_ (by rw [em, decide_eq_true hk1]) fb nb (by omega)
                have tu5 : Tups H3 (upd H4 d (.dK (putK kvs (.inr x) z))) := (same_tups s4).trans (ext_tupsD Ext.put (s4 _ _ d3))
                generalize upd H4 d (.dK (putK kvs (.inr x) z)) = H5 at tu5 ⊢
                exact byAt_put (ByAt.tups tu5 b3) nb (by rw [e1]; rfl) (by rw [← hk1]; exact e2) (KdAt.tups tu5 kz3)
              · refine iT (by rw [decide_eq_false hk1]; rfl) ?_
                have em2 : ((Kd.var x).mt kd b).1 = false := by rw [em]; exact decide_eq_false hk1
                have e : mtL ps ks [] = none := by
                  rw [← g6']
                  show (if ((Kd.var x).mt kd b).1 = true then mtP st0.reverse ((Kd.var x).mt kd b).2 else none) = none
                  rw [em2]
                  rfl
                rw [e] at k
                exact k H4 (S3.trans s4)
          | con x =>
            obtain ⟨a, rfl, ha⟩ := id ku3
            have em : (Kd.con x).mt kd b = (decide (Kd.con x = kd), b) := rfl
            refine ⟨_, rfl, _, _, _, _, rfl, rfl, SqT.of ha, rfl, rfl, _, rfl, iF tg_cv ?_⟩
            refine ⟨_, rfl, _, _, _, _, rfl, rfl, SqT.of ha, rfl, rfl, _, rfl, iF tg_ca (iteF ?_)⟩
            cases kd with
            | var y =>
              obtain ⟨a3, rfl, ha3⟩ := id kz3
              refine ⟨_, rfl, _, _, _, _, rfl, rfl, SqT.of ha, rfl, _, rfl, _, _, _, _, rfl, rfl, SqT.of ha3, rfl, rfl, _, rfl, ?_⟩
              exact iT (by decide +kernel) (stop (by rw [em]; simp))
            | con y =>
              obtain ⟨a3, rfl, ha3⟩ := id kz3
              refine ⟨_, rfl, _, _, _, _, rfl, rfl, SqT.of ha, rfl, _, rfl, _, _, _, _, rfl, rfl, SqT.of ha3, rfl, rfl, _, rfl, ?_⟩
              refine iF (neVF rfl) ?_
              refine ⟨_, rfl, _, _, _, _, rfl, rfl, SqT.of ha, rfl, _, rfl, _, _, _, _, rfl, rfl, SqT.of ha3, rfl, rfl, _, rfl, ?_⟩
              by_cases hxy : x = y
              · exact iF (neVF (by rw [hxy])) (next (by rw [em, hxy, decide_eq_true rfl]))
              · exact iT (neV (fun q => hxy (V.str.inj q))) (stop (by rw [em]; exact decide_eq_false (fun q => hxy (by cases q; rfl))))
            | app y1 y2 =>
              obtain ⟨a3, w1, w2, rfl, ha3, _⟩ := id kz3
              refine ⟨_, rfl, _, _, _, _, rfl, rfl, SqT.of ha, rfl, _, rfl, _, _, _, _, rfl, rfl, SqT.of ha3, rfl, rfl, _, rfl, ?_⟩
              exact iT (by decide +kernel) (stop (by rw [em]; simp))
          | app p1 p2 =>
            obtain ⟨a, u1, u2, rfl, ha, hu1, hu2⟩ := id ku3
            refine ⟨_, rfl, _, _, _, _, rfl, rfl, SqT.of ha, rfl, rfl, _, rfl, iF tg_av ?_⟩
            refine ⟨_, rfl, _, _, _, _, rfl, rfl, SqT.of ha, rfl, rfl, _, rfl, iT tg_aa ?_⟩
            subst e2
            refine ⟨_, rfl, _, _, _, _, rfl, rfl, SqT.of ha2, e0, rfl, _, rfl, ?_⟩
            cases kd with
            | var y =>
              refine iF tg_va ?_
              refine ⟨_, rfl, _, _, _, _, rfl, rfl, SqT.of ha, rfl, _, rfl, _, _, _, _, rfl, rfl, SqT.of ha2, e0, rfl, _, rfl, ?_⟩
              exact iT (by show (!decide (V.str "apply" = V.str "var")) = true; decide +kernel) (stop rfl)
            | con y =>
              refine iF tg_ca ?_
              refine ⟨_, rfl, _, _, _, _, rfl, rfl, SqT.of ha, rfl, _, rfl, _, _, _, _, rfl, rfl, SqT.of ha2, e0, rfl, _, rfl, ?_⟩
              exact iT (by show (!decide (V.str "apply" = V.str "con")) = true; decide +kernel) (stop rfl)
            | app k1' k2' =>
              refine iT tg_aa ?_
              obtain ⟨a3, w1, w2, e3, ha3, hw1, hw2⟩ := id kz3
              cases e3
              obtain ⟨j1, ej1, fa1, fa2⟩ := Kd.fit_app fp1
              obtain ⟨j2, ej2, fc1, fc2⟩ := Kd.fit_app fk1
              have lv : vs0.length ≤ 100000 := by
                have := psz_len st0
                rw [Paired.length k1]
                omega
              refine ⟨_, rfl, .inl ⟨rfl, _, SqL.of w3⟩, _, rfl, _, _, _, _, rfl, rfl, SqT.of ha, rfl, _, rfl, _, _, _, _, rfl, rfl, SqT.of ha3, rfl, slz rfl, fun q1 hq1 => ?_⟩
              have sA : Same H3 (upd H3 q1 (.tup [u2, w2])) := same_new hq1
              have nl1 : l ≠ q1 := ne_of_none w3 hq1
              refine ⟨l, vs0, _, rfl, rfl, sA _ _ w3, size_line (by omega), ?_⟩
              have tB : Tups (upd H3 q1 (.tup [u2, w2])) (upd (upd H3 q1 (.tup [u2, w2])) l (.lst (vs0 ++ [V.ref q1]))) := Tups.put (sA _ _ w3) (by intro xs z; cases z)
              have tAB := (same_tups sA).trans tB
              have gl : (upd (upd H3 q1 (.tup [u2, w2])) l (.lst (vs0 ++ [V.ref q1]))) l = some (.lst (vs0 ++ [V.ref q1])) := upd_same
              have pA : PairAt (upd (upd H3 q1 (.tup [u2, w2])) l (.lst (vs0 ++ [V.ref q1]))) (.ref q1) (p2, k2') := ⟨q1, u2, w2, rfl, tB _ _ upd_same, KdAt.tups tAB hu2, KdAt.tups tAB hw2⟩
              have SB : Same H (upd (upd H3 q1 (.tup [u2, w2])) l (.lst (vs0 ++ [V.ref q1]))) := fun b o zz => by
                rw [upd_ne (ne_of_none zz nl)]
                exact sA _ _ (S3 _ _ zz)
              have dB : (upd (upd H3 q1 (.tup [u2, w2])) l (.lst (vs0 ++ [V.ref q1]))) d = some (.dK kvs) := by
                rw [upd_ne ndl]
                exact sA _ _ d3
              generalize upd (upd H3 q1 (.tup [u2, w2])) l (.lst (vs0 ++ [V.ref q1])) = H4 at tAB gl pA SB dB ⊢
              refine ⟨_, rfl, .inl ⟨rfl, _, SqL.of gl⟩, _, rfl, _, _, _, _, rfl, rfl, SqT.of (tAB _ _ ha), rfl, _, rfl, _, _, _, _, rfl, rfl, SqT.of (tAB _ _ ha3), rfl, slz rfl, fun q2 hq2 => ?_⟩
              have sC : Same H4 (upd H4 q2 (.tup [u1, w1])) := same_new hq2
              refine ⟨l, _, _, rfl, rfl, sC _ _ gl, size_line (by rw [List.length_append, List.length_singleton]; omega), ?_⟩
              have tD : Tups (upd H4 q2 (.tup [u1, w1])) (upd (upd H4 q2 (.tup [u1, w1])) l (.lst (vs0 ++ [V.ref q1] ++ [V.ref q2]))) := Tups.put (sC _ _ gl) (by intro xs z; cases z)
              have tCD := (same_tups sC).trans tD
              have tAD := tAB.trans tCD
              refine ⟨st0 ++ [(p2, k2')] ++ [(p1, k1')], vs0 ++ [V.ref q1] ++ [V.ref q2], kvs, b, _, _, rfl, fun b o zz => ?_, ?_, ByAt.tups tAD b3, fb, nb, upd_same, ?_, ?_, ?_, ?_, ?_⟩
              · rw [upd_ne (ne_of_none zz nl)]
                exact sC _ _ (SB _ _ zz)
              · rw [upd_ne ndl]
                exact sC _ _ dB
              · exact Paired.snoc (Paired.snoc (paired_map (fun _ _ q => PairAt.tups tAD q) k1) (PairAt.tups tCD pA)) ⟨q2, u1, w1, rfl, tD _ _ upd_same, KdAt.tups tAD hu1, KdAt.tups tAD hw1⟩
              · rw [psz_append, psz_append, lsz]
                simp only [psz, Kd.size]
                omega
              · intro q hq
                rcases List.mem_append.mp hq with h | h
                · rcases List.mem_append.mp h with h | h
                  · exact fit0 q h
                  · rw [List.mem_singleton.mp h]
                    exact ⟨Kd.fit_mono (by omega) fa2, Kd.fit_mono (by omega) fc2⟩
                · rw [List.mem_singleton.mp h]
                  exact ⟨Kd.fit_mono (by omega) fa1, Kd.fit_mono (by omega) fc1⟩
              · rw [lsz] at g5
                rw [psz_append, psz_append]
                simp only [psz, Kd.size] at g5 ⊢
                omega
              · rw [List.reverse_append, List.reverse_append, ← g6', mtP_app]
                rfl
end
end L3

namespace L3
open PySem L2 PyProof.Rows
/-! ### the law itself -/
theorem byAt_setE {H : Hp} {m : Nat} {x : Str} {v : V} {k : Kd} (g : KdAt H v k) (f : k.fit m) : ∀ {kvs : List (Key × V)} {b : By}, ByAt H kvs b → (∀ q ∈ b, q.2.fit m) → ∃ b' : By, ByAt H (kvs.map fun kv => if kv.1 = (.inr x : Key) then (kv.1, v) else kv) b' ∧ ∀ q ∈ b', q.2.fit m
  | _, _, .nil, _ => ⟨[], .nil, fun _ q => nomatch q⟩
  | p :: kvs, q :: b, .cons r t, h => by
    obtain ⟨b', h1, h2⟩ := byAt_setE g f t fun y hy => h y (List.mem_cons_of_mem _ hy)
    by_cases e : p.1 = (.inr x : Key)
    · refine ⟨(q.1, k) :: b', ?_, fun y hy => ?_⟩
      · rw [List.map_cons, if_pos e]
        exact .cons ⟨r.1, g⟩ h1
      · rcases List.mem_cons.mp hy with z | z
        · rw [z]; exact f
        · exact h2 y z
    · refine ⟨q :: b', ?_, fun y hy => ?_⟩
      · rw [List.map_cons, if_neg e]
        exact .cons r h1
      · rcases List.mem_cons.mp hy with z | z
        · rw [z]; exact h q List.mem_cons_self
        · exact h2 y z
theorem byAt_putE {H : Hp} {m : Nat} {x : Str} {v : V} {k : Kd} (g : KdAt H v k) (f : k.fit m) {kvs : List (Key × V)} {b : By} (hb : ByAt H kvs b) (hf : ∀ q ∈ b, q.2.fit m) : ∃ b' : By, ByAt H (putK kvs (.inr x) v) b' ∧ ∀ q ∈ b', q.2.fit m := by
  unfold putK
  split
  · exact byAt_setE g f hb hf
  · refine ⟨b ++ [(x, k)], Paired.snoc hb ⟨rfl, g⟩, fun y hy => ?_⟩
    rcases List.mem_append.mp hy with z | z
    · exact hf y z
    · rw [List.mem_singleton.mp z]; exact f
theorem byAt_merge {H : Hp} {m : Nat} : ∀ {more : List (Key × V)} {qs : By} {kvs : List (Key × V)} {b : By}, ByAt H more qs → (∀ q ∈ qs, q.2.fit m) → ByAt H kvs b → (∀ q ∈ b, q.2.fit m) → ∃ b' : By, ByAt H (mergeK kvs more) b' ∧ ∀ q ∈ b', q.2.fit m
  | _, _, kvs, b, .nil, _, hb, hf => ⟨b, hb, hf⟩
  | (key, v) :: more, (x, k) :: qs, kvs, b, .cons r t, h, hb, hf => by
    obtain ⟨e, g⟩ := r
    have e' : key = .inr x := e
    subst e'
    obtain ⟨b1, h1, h2⟩ := byAt_putE (x := x) g (h (x, k) List.mem_cons_self) hb hf
    exact byAt_merge (more := more) (qs := qs) t (fun y hy => h y (List.mem_cons_of_mem _ hy)) h1 h2
theorem paired_set {α β : Type} {F : α → β → Prop} {x : α} {y : β} (r : F x y) : ∀ {xs : List α} {ys : List β} {j : Nat}, Paired F xs ys → Paired F (xs.set j x) (ys.set j y)
  | _, _, _, .nil => .nil
  | _, _, 0, .cons _ t => .cons r t
  | _, _, j + 1, .cons q t => .cons q (paired_set r t)
theorem byAt_keys {H : Hp} : ∀ {kvs : List (Key × V)} {b : By}, ByAt H kvs b → kvs.map (·.1) = (names b).map Sum.inr
  | _, _, .nil => rfl
  | p :: kvs, q :: b, .cons r t => by
    show p.1 :: kvs.map (·.1) = .inr q.1 :: (names b).map Sum.inr
    rw [byAt_keys t, r.1]
theorem words_eqv : ∀ ws : List Str, PyData.eqvAll (ws.map PyData.str) (ws.map PyData.str) = true
  | [] => eqv_nn
  | x :: r => by rw [List.map_cons, eqv_cc, eqv_ss, words_eqv r, decide_eq_true rfl]; rfl
theorem nodup_len {α : Type} [DecidableEq α] : ∀ {l ws : List α}, l.Nodup → (∀ x ∈ l, x ∈ ws) → l.length ≤ ws.length
  | [], _, _, _ => Nat.zero_le _
  | x :: r, ws, hn, h => by
    obtain ⟨n1, n2⟩ := List.nodup_cons.mp hn
    have hx := h x List.mem_cons_self
    have ih := nodup_len (l := r) (ws := ws.erase x) n2 fun y hy => (List.mem_erase_of_ne (fun e => n1 (by rw [← e]; exact hy))).mpr (h y (List.mem_cons_of_mem _ hy))
    rw [List.length_erase_of_mem hx] at ih
    have := List.length_pos_of_mem hx
    rw [List.length_cons]
    omega
theorem ixN_of {n j : Nat} (hj : j < n) : ixN n (j : Int) = some j := by
  unfold ixN
  rw [if_pos (by omega), if_pos (by omega)]
  simp
theorem cps_append (x y : Str) : (x ++ y).cps.toList = x.cps.toList ++ y.cps.toList := Array.toList_append
theorem rests_ok : ∀ r ∈ rests, ∀ c ∈ r.cps.toList, 97 ≤ c ∧ c ≤ 122 := by decide +kernel
theorem words_wok {rest : Str} {first n : Nat} {d : Bool} (h : rest ∈ rests) : ∀ x ∈ (lets first n).map (mkW rest d), Wok x := by
  intro x hx
  obtain ⟨ch, hc, rfl⟩ := List.mem_map.mp hx
  unfold lets at hc
  obtain ⟨j, _, rfl⟩ := List.mem_map.mp hc
  have rl := rests_len _ h
  have ro := rests_ok _ h
  have so : ∀ c ∈ (sgn ((first + 7 * j) % 26)).cps.toList, 97 ≤ c ∧ c ≤ 122 := by
    intro c hc
    have e : c = 97 + (first + 7 * j) % 26 := List.mem_singleton.mp hc
    omega
  have sl : (sgn ((first + 7 * j) % 26)).length = 1 := rfl
  have ln : ∀ u v : Str, (u ++ v).length = u.length + v.length := fun u v => Array.size_append
  unfold mkW
  cases d
  · refine ⟨?_, ?_, fun c hc => ?_⟩
    · show 1 ≤ (_ ++ _ : Str).length
      rw [ln]; omega
    · show (_ ++ _ : Str).length ≤ 8
      rw [ln]; omega
    · rcases List.mem_append.mp ((cps_append _ _) ▸ hc) with q | q
      · exact so c q
      · exact ro c q
  · refine ⟨?_, ?_, fun c hc => ?_⟩
    · show 1 ≤ (_ ++ _ : Str).length
      rw [ln]; omega
    · show (_ ++ _ : Str).length ≤ 8
      rw [ln]; omega
    · rcases List.mem_append.mp ((cps_append _ _) ▸ hc) with q | q
      · exact ro c q
      · exact so c q
theorem cost_le {n : Nat} (h : n ≤ 3) : cost n ≤ 59 := by
  match n, h with
  | 0, _ => decide
  | 1, _ => decide
  | 2, _ => decide
  | 3, _ => decide
theorem cost_le2 {n : Nat} (h : n ≤ 2) : cost n ≤ 27 := by
  match n, h with
  | 0, _ => decide
  | 1, _ => decide
  | 2, _ => decide
section
variable {P : Program} {w : World} {K : PySem.W.Frag} {mg : Str → Option Value} {base : Heap}
/-- three words -/
def Wl (K : PySem.W.Frag) (H : Hp) (l : Addr) (ws : List Str) : Prop := SqL K H l (ws.map V.str) ∧ (∀ x ∈ ws, Wok x) ∧ ws.length = 3
def spLs (K : PySem.W.Frag) : Sp := fun vs H Q E => ∃ n, n ≤ 3 ∧ spLK K n vs H Q E
theorem fn_ls {k : Nat} {f : Addr} {fd : FuncData} {ps : List Str} (h : ∀ n, n ≤ 3 → FnOk P w K mg base CX0 k f fd ps (spLK K n)) : FnOk P w K mg base CX0 k f fd ps (spLs K) :=
  ⟨fun vs H Q E ⟨n, hn, q⟩ => (h n hn).len vs H Q E q, fun A outer s H args us vs Q E hr he hb hv ⟨n, hn, q⟩ => (h n hn).run A outer s H args us vs Q E hr he hb hv q⟩
abbrev s_law : Stmt := topS 15
abbrev N_law : List Str := ["_law_script", "_law_tape", "_law_turn", "_law_words_here", "_law_names", "_law_cons", "_law_patterns", "_law_by", "_law_kinds", "_law_at", "_law_due", "_law_kept", "_law_told", "_law_k", "_law_name", "_law_pattern"]
theorem sc_law : FnScope N_law ["_law_script"] (defScope s_law) := ⟨rfl, rfl, rfl, by decide +kernel, rfl, by decide +kernel, by decide +kernel⟩
def spLaw (K : PySem.W.Frag) : List V → Hp → VK → Prop := fun vs H Q => ∃ (a : Addr) (ns : List Int), vs = [.ref a] ∧ SqL K H a (ns.map V.int) ∧ ∀ H', Q (.bl true) H'
theorem law_run {f : Addr} {fd : FuncData} (F : Fun K "law" "law" s_law f fd) (B : Bl mg) (D__law_begin : Kn P w K mg base 1 "_law_begin" ["_law_script"] (spBegin K)) (D__law_draw : Kn P w K mg base 1 "_law_draw" ["_law_tape", "_law_many"] (spDraw K))
    (D__law_words : Kn P w K mg base 3 "_law_words" ["_law_tape", "_law_many"] (spWords K)) (D__law_letter_kind : Kn P w K mg base 6 "_law_letter_kind" ["_law_tape", "_law_names", "_law_cons", "_law_deep"] (spLs K)) (D__law_put : Kn P w K mg base 7 "_law_put" ["_law_kind", "_law_by"] (spPut K 6))
    (D__law_changed : Kn P w K mg base 15 "_law_changed" ["_law_tape", "_law_kind", "_law_names", "_law_cons"] (spCh K 10)) (D__law_fits : Kn P w K mg base 8 "_law_fits" ["_law_patterns", "_law_kinds"] (spLF K 6)) (D__law_vars : Kn P w K mg base 1 "_law_vars" ["_law_kinds"] (spVars K)) (D_fits : Kn P w K mg base 2 "fits" ["patterns", "kinds"] (spF K)) :
    LawRun P w K mg base f fd "_law_script" (spLaw K) := by
  refine lawRun_of F sc_law (k := 15) ⟨rfl, by decide, by decide⟩ (fun cdv s H v Q hr h => ?_)
  obtain ⟨a, ns, h, hS, k⟩ := h
  cases h
  have hgd : (callerA.deeper (envOfC "law" (defScope s_law) s.heap.objs.size f cdv)).guards = some [] := rfl
  have hr__law_begin : Room 1 _ := hr.mono (by decide)
  have hr__law_draw : Room 1 _ := hr.mono (by decide)
  have hr__law_words : Room 3 _ := hr.mono (by decide)
  have hr__law_letter_kind : Room 6 _ := hr.mono (by decide)
  have hr__law_put : Room 7 _ := hr.mono (by decide)
  have hr__law_changed : Room 15 _ := hr
  have hr__law_fits : Room 8 _ := hr.mono (by decide)
  have hr__law_vars : Room 1 _ := hr.mono (by decide)
  have hr_fits : Room 2 _ := hr.mono (by decide)
  have hu := hu_of hr
  have hu64 := hr.units
  have hu65 : (callerA.deeper (envOfC "law" (defScope s_law) s.heap.objs.size f cdv)).units + 65 < cLine := by have := hr.un; omega
  refine ⟨_, (pss_cons (ps_set (i := 1) sc_law.nd rfl (Or.inr rfl) (pe_kn D__law_begin hr__law_begin (pa_cons (pv 0) pa_nil)))
  (pss_cons (ps_for PassesOwn.never rfl (pi_range1 (by rfl) B.range (pa_cons pe_int pa_nil)) (pg_name (i := 2) sc_law.nd rfl (Or.inl rfl))
  (pss_cons (ps_asg (pe_tup (pa_cons (pe_kn D__law_words hr__law_words (pa_cons (pv 1) (pa_cons pe_int pa_nil))) (pa_cons (pe_kn D__law_words hr__law_words (pa_cons (pv 1) (pa_cons pe_int pa_nil))) pa_nil))) (pg_tup (by rfl) (pgs_cons (pg_name (i := 3) sc_law.nd rfl (Or.inl rfl)) (pgs_cons (pg_name (i := 4) sc_law.nd rfl (Or.inr rfl)) pgs_nil))))
  (pss_cons (ps_set (i := 5) sc_law.nd rfl (Or.inr rfl) (pe_lst (pa_cons (pe_tup (pa_cons (pe_ix ix_list (pv 3) pe_int (fun _ _ => rfl)) (pa_cons pe_int pa_nil))) (pa_cons (pe_tup (pa_cons (pe_ix ix_list (pv 3) pe_int (fun _ _ => rfl)) (pa_cons pe_int pa_nil))) (pa_cons (pe_tup (pa_cons (pe_ix ix_list (pv 3) pe_int (fun _ _ => rfl)) (pa_cons pe_int pa_nil))) (pa_cons (pe_tup (pa_cons pe_str (pa_cons pe_int pa_nil))) pa_nil))))))
  (pss_cons (ps_setLc (i := 6) (own := [("_law_k", 13)]) rfl sc_law.nd rfl rfl (sw_true rfl rfl rfl (by decide +kernel)) (pi_range1 (by rfl) B.range (pa_cons (pe_op op_add pe_int (pe_kn D__law_draw hr__law_draw (pa_cons (pv 1) (pa_cons pe_int pa_nil)))) pa_nil)) (blkOk_by (N := N_law) (sc := (defScope s_law)) (own := [("_law_k", 13)]) (by decide +kernel)) (fun _ _ _ _ _ => (pg_name (i := 13) sc_law.nd rfl (Or.inl rfl))) (fun _ _ _ _ _ => pts_nil) (fun _ _ _ _ _ => (pe_kn D__law_letter_kind hr__law_letter_kind (pa_cons (pv 1) (pa_cons (pv 4) (pa_cons (pv 5) (pa_cons (pe_kn D__law_draw hr__law_draw (pa_cons (pv 1) (pa_cons pe_int pa_nil))) pa_nil)))))))
  (pss_cons (ps_set (i := 7) sc_law.nd rfl (Or.inr rfl) (pe_callTy (call_dictP rfl) (by rfl) B.dict (by decide +kernel) (pa_cons (pe_lc (own := [("_law_name", 14)]) rfl sc_law.nd (pi_list (pv 4)) (blkOk_by (N := N_law) (sc := (defScope s_law)) (own := [("_law_name", 14)]) (by decide +kernel)) (fun _ _ _ _ _ => (pg_name (i := 14) sc_law.nd rfl (Or.inl rfl))) (fun _ _ _ _ _ => pts_nil) (fun _ _ _ _ _ => (pe_tup (pa_cons (pv 14) (pa_cons (pe_kn D__law_letter_kind hr__law_letter_kind (pa_cons (pv 1) (pa_cons (pv 4) (pa_cons (pv 5) (pa_cons (pe_kn D__law_draw hr__law_draw (pa_cons (pv 1) (pa_cons pe_int pa_nil))) pa_nil))))) pa_nil))))) pa_nil)))
  (pss_cons (ps_setLc (i := 8) (own := [("_law_pattern", 15)]) rfl sc_law.nd rfl rfl (sw_true rfl rfl rfl (by decide +kernel)) (pi_list (pv 6)) (blkOk_by (N := N_law) (sc := (defScope s_law)) (own := [("_law_pattern", 15)]) (by decide +kernel)) (fun _ _ _ _ _ => (pg_name (i := 15) sc_law.nd rfl (Or.inl rfl))) (fun _ _ _ _ _ => pts_nil) (fun _ _ _ _ _ => (pe_kn D__law_put hr__law_put (pa_cons (pv 15) (pa_cons (pv 7) pa_nil)))))
  (pss_cons (ps_if (pt_cmpR op_eq (pe_kn D__law_draw hr__law_draw (pa_cons (pv 1) (pa_cons pe_int pa_nil))) pe_int (nomark _))
  (pss_cons (ps_set (i := 9) sc_law.nd rfl (Or.inl rfl) (pe_kn D__law_draw hr__law_draw (pa_cons (pv 1) (pa_cons (pe_callB call_len (by rfl) B.len PySem.boot_len (pa_cons (pv 8) pa_nil)) pa_nil))))
  (pss_one (ps_asg (pe_kn D__law_changed hr__law_changed (pa_cons (pv 1) (pa_cons (pe_ix ix_list (pv 8) (pv 9) (fun _ _ => rfl)) (pa_cons (pv 4) (pa_cons (pv 5) pa_nil))))) (pg_sub (pv 8) (pv 9) set_list))))
  pss_nil)
  (pss_cons (ps_par (i := 10) (j := 11) (by rfl) sc_law.nd rfl rfl (by decide) rfl rfl (pa_cons (pe_kn D__law_fits hr__law_fits (pa_cons (pv 6) (pa_cons (pv 8) pa_nil))) (pa_cons (pe_callB (call_reprD hgd hu64) (by rfl) B.repr (by decide +kernel) (pa_cons (pe_lst (pa_cons (pv 6) (pa_cons (pv 8) pa_nil))) pa_nil)) pa_nil)) (by rfl))
  (pss_cons (ps_set (i := 12) sc_law.nd rfl (Or.inl rfl) (pe_kn D_fits hr_fits (pa_cons (pv 6) (pa_cons (pv 8) pa_nil))))
  (pss_cons (ps_if (PW.pt (pw_or (pt_cmpR op_ne (pe_cmpR op_isN (pv 12) pe_non (nomark _)) (pe_cmpR op_isN (pv 10) pe_non (nomark _)) (nomark _)) (pw_or1 (pt_cmpR op_ne (pe_callB (call_reprD hgd hu64) (by rfl) B.repr (by decide +kernel) (pa_cons (pe_lst (pa_cons (pv 6) (pa_cons (pv 8) pa_nil))) pa_nil)) (pv 11) (nomark _)))))
  (pss_one (ps_ret pe_bl))
  pss_nil)
  (pss_cons (ps_if (PW.pt (pw_and (pt_cmpR op_notN (pv 10) pe_non (nomark _)) (pw_and1 (PW.pt (pw_or (pt_cmpR (op_neBy hu65) (pv 12) (pv 10) (nomark _)) (pw_or1 (pt_cmpR (op_neD hu64) (pe_callB (call_sortedD rfl) (by rfl) B.sorted (by decide +kernel) (pa_cons (pv 12) pa_nil)) (pe_callB cr_sortedS (by rfl) B.sorted (by decide +kernel) (pa_cons (pe_kn D__law_vars hr__law_vars (pa_cons (pv 6) pa_nil)) pa_nil)) (nomark _))))))))
  (pss_one (ps_ret pe_bl))
  pss_nil)
  (pss_one (ps_if (pt_cmpR (opR_or op_ne (op_neBy hu65)) (pe_kn D_fits hr_fits (pa_cons (pe_callTy call_tuple_of (by rfl) B.tuple (by decide +kernel) (pa_cons (pv 6) pa_nil)) (pa_cons (pe_callTy call_tuple_of (by rfl) B.tuple (by decide +kernel) (pa_cons (pv 8) pa_nil)) pa_nil))) (pv 10) (nomark _))
  (pss_one (ps_ret pe_bl))
  pss_nil)))))))))))))
  (pss_one (ps_ret (pe_cmpR (op_eqBy hu65) (pe_kn D_fits hr_fits (pa_cons (pe_lst pa_nil) (pa_cons (pe_lst pa_nil) pa_nil))) pe_dnewK (nomark _)))))), ?_⟩
  refine ⟨_, rfl, a, ns, rfl, hS, fun H1 t c s1 nt T1 => ?_⟩
  refine ⟨14, rfl, by decide, by decide, ?_⟩
  refine for_range (lo := 0) (n := 14) (fun i σ H' => ∃ (v2 v3 v4 v5 v6 v7 v8 v9 v10 v11 v12 v13 v14 v15 : Option V), σ = [some (.ref a), some (.ref t), v2, v3, v4, v5, v6, v7, v8, v9, v10, v11, v12, v13, v14, v15] ∧ Tape K H' t c ((14 - i) * 400)) ⟨_, _, _, _, _, _, _, _, _, _, _, _, _, _, rfl, T1.less (by decide)⟩ (fun i σ H2 hi h => ?_) (fun σ H2 h => ?_)
  · obtain ⟨v2, v3, v4, v5, v6, v7, v8, v9, v10, v11, v12, v13, v14, v15, rfl, T2⟩ := h
    obtain ⟨m, hm⟩ : ∃ m, m = (14 - (i + 1)) * 400 := ⟨_, rfl⟩
    rw [← hm]
    replace T2 : Tape K H2 t c (m + 400) := T2.less (by omega)
    refine ⟨_, rfl, t, c, 3, m + 397, rfl, by decide, T2, fun H3 lw r1 f1 d1 e3 T3 hlw hr1 hf1 gw => ?_⟩
    refine ⟨_, rfl, t, c, 3, m + 394, rfl, by decide, T3, fun H4 ln r2 f2 d2 e4 T4 hln hr2 hf2 gn => ?_⟩
    refine ⟨slz rfl, fun q hq => ⟨q, _, rfl, SqT.of upd_same, rfl, _, _, rfl, _, _, rfl, rfl, ?_⟩⟩
    have W1 : Wl K (upd H4 q (.tup [.ref lw, .ref ln])) lw ((lets f1 3).map (mkW r1 d1)) := ⟨SqL.of ((e4.trans (Ext.new hq)) _ _ (T2.ne hlw) gw), words_wok hr1, by rw [List.length_map, lets_length]⟩
    have W2 : Wl K (upd H4 q (.tup [.ref lw, .ref ln])) ln ((lets f2 3).map (mkW r2 d2)) := ⟨SqL.of (Ext.new hq _ _ (T3.ne hln) gn), words_wok hr2, by rw [List.length_map, lets_length]⟩
    have T5 := T4.new (o := .tup [.ref lw, .ref ln]) hq
    generalize upd H4 q (.tup [.ref lw, .ref ln]) = H5 at W1 W2 T5 ⊢
    generalize (lets f1 3).map (mkW r1 d1) = ws1 at W1
    generalize (lets f2 3).map (mkW r2 d2) = ws at W2
    clear gw gn e3 e4 T2 T3 T4 hlw hln hq hr1 hr2 hf1 hf2 f1 f2 d1 d2 r1 r2 H2 H3 H4 s1 nt T1
    obtain ⟨S1, wo1, len1⟩ := W1
    obtain ⟨x1, x2, x3, rfl⟩ : ∃ x1 x2 x3, ws1 = [x1, x2, x3] := by
      match ws1, len1 with
      | [x1, x2, x3], _ => exact ⟨x1, x2, x3, rfl⟩
    refine ⟨_, rfl, _, _, _, _, rfl, rfl, S1, rfl, slz rfl, fun q1 hq1 => ?_⟩
    have s1 := same_new (o := HO.tup [.str x1, .int 0]) hq1
    have u1 : (upd H5 q1 (HO.tup [.str x1, .int 0])) q1 = _ := upd_same
    generalize upd H5 q1 (HO.tup [.str x1, .int 0]) = G1 at s1 u1 ⊢
    refine ⟨_, rfl, _, _, _, _, rfl, rfl, s1.seq S1, rfl, slz rfl, fun q2 hq2 => ?_⟩
    have s2 := s1.trans (same_new (o := HO.tup [.str x2, .int 1]) hq2)
    have u2 : (upd G1 q2 (HO.tup [.str x2, .int 1])) q2 = _ := upd_same
    replace u1 := same_new (o := HO.tup [.str x2, .int 1]) hq2 _ _ u1
    generalize upd G1 q2 (HO.tup [.str x2, .int 1]) = G2 at s2 u1 u2 ⊢
    refine ⟨_, rfl, _, _, _, _, rfl, rfl, s2.seq S1, rfl, slz rfl, fun q3 hq3 => ?_⟩
    have s3 := s2.trans (same_new (o := HO.tup [.str x3, .int 2]) hq3)
    have u3 : (upd G2 q3 (HO.tup [.str x3, .int 2])) q3 = _ := upd_same
    replace u1 := same_new (o := HO.tup [.str x3, .int 2]) hq3 _ _ u1
    replace u2 := same_new (o := HO.tup [.str x3, .int 2]) hq3 _ _ u2
    generalize upd G2 q3 (HO.tup [.str x3, .int 2]) = G3 at s3 u1 u2 u3 ⊢
    refine ⟨slz rfl, fun q4 hq4 => ?_⟩
    have s4 := s3.trans (same_new (o := HO.tup [.str "to", .int 2]) hq4)
    have u4 : (upd G3 q4 (HO.tup [.str "to", .int 2])) q4 = _ := upd_same
    replace u1 := same_new (o := HO.tup [.str "to", .int 2]) hq4 _ _ u1
    replace u2 := same_new (o := HO.tup [.str "to", .int 2]) hq4 _ _ u2
    replace u3 := same_new (o := HO.tup [.str "to", .int 2]) hq4 _ _ u3
    generalize upd G3 q4 (HO.tup [.str "to", .int 2]) = G4 at s4 u1 u2 u3 u4 ⊢
    refine ⟨slz rfl, fun lc hlc => ?_⟩
    have s5 := same_new (o := HO.lst [.ref q1, .ref q2, .ref q3, .ref q4]) hlc
    have C6 : ConsAt K (upd G4 lc (HO.lst [.ref q1, .ref q2, .ref q3, .ref q4])) lc := by
      refine ⟨_, SqL.of upd_same, (by show 0 < 4; decide), (by show 4 < 1000; decide), fun v hv => ?_⟩
      rcases List.mem_cons.mp hv with e | hv
      · exact ⟨q1, x1, 0, e, s5 _ _ u1, by decide, wo1 x1 (by simp)⟩
      rcases List.mem_cons.mp hv with e | hv
      · exact ⟨q2, x2, 1, e, s5 _ _ u2, by decide, wo1 x2 (by simp)⟩
      rcases List.mem_cons.mp hv with e | hv
      · exact ⟨q3, x3, 2, e, s5 _ _ u3, by decide, wo1 x3 (by simp)⟩
      · exact ⟨q4, "to", 2, List.mem_singleton.mp hv, s5 _ _ u4, by decide, by decide, by decide, by decide +kernel⟩
    have T6 := (T5.same s4).same s5
    obtain ⟨S2, wo2, len2⟩ := W2
    replace S2 := s5.seq (s4.seq S2)
    generalize upd G4 lc (HO.lst [.ref q1, .ref q2, .ref q3, .ref q4]) = H6 at C6 T6 S2 ⊢
    clear s1 s2 s3 s4 s5 u1 u2 u3 u4 hq1 hq2 hq3 hq4 hlc G1 G2 G3 G4 S1 wo1 len1 T5
    -- patterns
    refine ⟨_, rfl, t, c, 3, m + 393, rfl, by decide, by decide, T6, fun H7 r7 e7 T7 hr71 hr72 => ?_⟩
    obtain ⟨p, hp, p1, p3⟩ : ∃ p : Nat, 1 + r7 = (p : Int) ∧ 1 ≤ p ∧ p ≤ 3 := ⟨(1 + r7).toNat, (Int.toNat_of_nonneg (by omega)).symm, by omega, by omega⟩
    refine ⟨_, _, rfl, rfl, (p : Int), congrArg (fun z : Int => [V.int z]) hp, by omega, by omega, fun D hD => ?_⟩
    refine lc_range (lo := 0) (n := p) (fun i H' => Ext t H7 H' ∧ Tape K H' t c (m + 213 + (p - i) * 60) ∧ ∃ (vs : List V) (ks : List Kd), H' D = some (.lst vs) ∧ KdsAt H' vs ks ∧ vs.length = i ∧ ∀ k ∈ ks, k.fit 6 ∧ Kd.of ws k)
      ⟨Ext.new hD, (T7.new hD).less (by omega), [], [], upd_same, .nil, rfl, fun _ q => nomatch q⟩ (fun i H' hi ⟨e1, t1, vs, ks, g1, g2, g3, g4⟩ => ⟨rfl, ?_⟩) (fun H8 ⟨e8, T8, pvs, ps, g1, g2, g3, g4⟩ => ?_)
    · have em : (p - i) * 60 = (p - (i + 1)) * 60 + 60 := by omega
      rw [em] at t1
      refine ⟨_, rfl, _, rfl, _, rfl, _, rfl, t, c, 4, m + 213 + (p - (i + 1)) * 60 + 59, rfl, by decide, by decide, t1, fun H9 r9 e9 T9 hr91 hr92 => ?_⟩
      obtain ⟨n, rfl⟩ : ∃ n : Nat, r9 = (n : Int) := ⟨r9.toNat, (Int.toNat_of_nonneg hr91).symm⟩
      have hn : n ≤ 3 := by omega
      have ee := (e7.trans e1).trans e9
      have cn := cost_le hn
      refine ⟨n, hn, t, c, ln, lc, ws, m + 213 + (p - (i + 1)) * 60, rfl, SqL.extT S2 T6 ee, wo2, by rw [len2]; decide, C6.ext T6 ee, T9.less (by omega), fun H10 v k4 e10 t10 f1 f2 f3 => ?_⟩
      have nD : D ≠ t := T7.ne hD
      have e11 := (e1.trans e9).trans e10
      have gD : H10 D = some (.lst vs) := e10 _ _ nD (e9 _ _ nD g1)
      refine ⟨vs, gD, small1000 (by omega), e11.upd hD, Tape.put T7 e11 t10 hD, vs ++ [v], ks ++ [k4], upd_same, ?_, by rw [List.length_append, g3]; rfl, ?_⟩
      · have tu : Tups H10 (upd H10 D (.lst (vs ++ [v]))) := Tups.put gD (by intro xs z; cases z)
        exact Paired.snoc (KdsAt.tups ((Ext.tups (e9.trans e10) t1).trans tu) g2) (KdAt.tups tu f1)
      · intro k hk
        rcases List.mem_append.mp hk with q | q
        · exact g4 k q
        · rw [List.mem_singleton.mp q]
          exact ⟨Kd.fit_mono (by omega) f2, f3⟩
    have S8 := SqL.extT S2 T6 (e7.trans e8)
    have C8 := C6.ext T6 (e7.trans e8)
    have nD : D ≠ t := T7.ne hD
    replace T8 : Tape K H8 t c (m + 213) := T8.less (by omega)
    clear e7 e8 T6 T7 S2 C6 hr71 hr72 hp hD H5
    -- the dict
    refine ⟨_, rfl, ln, rfl, ⟨_, S8⟩, fun D2 hD2 => ?_⟩
    refine lc_list (K := K) (a := ln) (xs := ws.map V.str) (fun i H' => Ext t H8 H' ∧ Tape K H' t c (m + 129 + (3 - i) * 28) ∧ ∃ (pa : List Addr) (kvs : List (Key × V)) (qs : By), H' D2 = some (.lst (pa.map V.ref)) ∧ Paired (fun p kv => H' p = some (.tup [kV kv.1, kv.2])) pa kvs ∧ ByAt H' kvs qs ∧ pa.length = i ∧ ∀ q ∈ qs, q.2.fit 4)
      ⟨Ext.new hD2, (T8.new hD2).less (by omega), [], [], [], upd_same, .nil, .nil, rfl, fun _ q => nomatch q⟩ (fun i H' _ ⟨e1, _⟩ => SqL.extT S8 T8 e1) (fun i x H' hx ⟨e1, t1, pa, kvs, qs, h1, h2, h3, h4, h5⟩ => ⟨rfl, ?_⟩) (fun H9 ⟨e9, T9, pa, kvs, qs, h1, h2, h3, h4, h5⟩ => ?_)
    · rw [List.getElem?_map] at hx
      obtain ⟨y, hy, rfl⟩ := Option.map_eq_some_iff.mp hx
      have hi3 : i < 3 := by
        have := (List.getElem?_eq_some_iff.mp hy).1
        omega
      have em : (3 - i) * 28 = (3 - (i + 1)) * 28 + 28 := by omega
      rw [em] at t1
      refine ⟨_, rfl, _, rfl, _, rfl, _, rfl, _, rfl, t, c, 3, m + 129 + (3 - (i + 1)) * 28 + 27, rfl, by decide, by decide, t1, fun H9 r9 e9 T9 hr91 hr92 => ?_⟩
      obtain ⟨n, rfl⟩ : ∃ n : Nat, r9 = (n : Int) := ⟨r9.toNat, (Int.toNat_of_nonneg hr91).symm⟩
      have hn : n ≤ 2 := by omega
      have ee := e1.trans e9
      have cn := cost_le2 hn
      refine ⟨n, by omega, t, c, ln, lc, ws, m + 129 + (3 - (i + 1)) * 28, rfl, SqL.extT S8 T8 ee, wo2, by rw [len2]; decide, C8.ext T8 ee, T9.less (by omega), fun H10 v k4 e10 t10 f1 f2 f3 => ?_⟩
      refine ⟨slz rfl, fun q hq => ?_⟩
      have nD2 : D2 ≠ t := T8.ne hD2
      have e11 := ((e1.trans e9).trans e10).trans (Ext.new (o := .tup [.str y, v]) hq)
      have t11 := t10.new (o := .tup [.str y, v]) hq
      have e12 := (e9.trans e10).trans (Ext.new (o := .tup [.str y, v]) hq)
      have tq := same_tups (same_new (o := .tup [.str y, v]) hq)
      have uq : (upd H10 q (.tup [.str y, v])) q = _ := upd_same
      generalize upd H10 q (.tup [.str y, v]) = H11 at e11 t11 e12 tq uq ⊢
      have gD : H11 D2 = some (.lst (pa.map V.ref)) := e12 _ _ nD2 h1
      have tu : Tups H11 (upd H11 D2 (.lst (pa.map V.ref ++ [.ref q]))) := Tups.put gD (by intro xs z; cases z)
      have t2 : Tups H' (upd H11 D2 (.lst (pa.map V.ref ++ [.ref q]))) := (Ext.tups e12 t1).trans tu
      refine ⟨_, gD, small1000 (by rw [List.length_map]; omega), e11.upd hD2, Tape.put T8 e11 t11 hD2, pa ++ [q], kvs ++ [(.inr y, v)], qs ++ [(y, k4)], by rw [upd_same, List.map_append]; rfl, ?_, ?_, by rw [List.length_append, h4]; rfl, ?_⟩
      · exact Paired.snoc (paired_map (fun _ _ q => t2 _ _ q) h2) (tu _ _ uq)
      · exact Paired.snoc (ByAt.tups t2 h3) ⟨rfl, KdAt.tups (tq.trans tu) f1⟩
      · intro z hz
        rcases List.mem_append.mp hz with q | q
        · exact h5 z q
        · rw [List.mem_singleton.mp q]
          exact Kd.fit_mono (by omega) f2
    refine ⟨D2, pa, kvs, rfl, SqL.of h1, paired_map (fun _ _ q => SqT.of q) h2, fun d hd => ?_⟩
    obtain ⟨by', b1, b2⟩ := byAt_merge (kvs := []) (b := []) h3 h5 .nil (fun _ q => nomatch q)
    have sd := same_new (o := .dK (mergeK [] kvs)) hd
    have td := same_tups sd
    have t9 := (Ext.tups e9 T8).trans td
    have GP : (upd H9 d (.dK (mergeK [] kvs))) D = some (.lst pvs) := sd _ _ (e9 _ _ nD g1)
    have KP := KdsAt.tups t9 g2
    have GB : (upd H9 d (.dK (mergeK [] kvs))) d = _ := upd_same
    have BB := ByAt.tups td b1
    have S10 := sd.seq (SqL.extT S8 T8 e9)
    have C10 := C8.ext T8 (e9.trans (same_ext sd))
    replace T9 := (T9.same sd).less (show m + 129 ≤ _ by omega)
    generalize upd H9 d (.dK (mergeK [] kvs)) = H10 at GP KP GB BB S10 C10 T9 ⊢
    generalize mergeK [] kvs = kd at GB BB ⊢
    clear sd td t9 b1 h1 h2 h3 h4 h5 e9 T8 S8 C8 g1 g2 hd hD2
    have FP : ∀ k ∈ ps, k.fit 6 := fun k hk => (g4 k hk).1
    have OP : ∀ k ∈ ps, Kd.of ws k := fun k hk => (g4 k hk).2
    have lps : ps.length = p := by rw [← Paired.length KP]; exact g3
    -- kinds
    refine ⟨_, rfl, D, rfl, ⟨_, SqL.of GP⟩, fun D3 hD3 => ?_⟩
    refine lc_list (K := K) (a := D) (xs := pvs) (fun i H' => Same H10 H' ∧ ∃ (vs : List V) (ks : List Kd), H' D3 = some (.lst vs) ∧ KdsAt H' vs ks ∧ vs.length = i ∧ ∀ k ∈ ks, k.fit 10)
      ⟨same_new hD3, [], [], upd_same, .nil, rfl, fun _ q => nomatch q⟩ (fun i H' _ ⟨e1, _⟩ => SqL.of (e1 _ _ GP)) (fun i x H' hx ⟨e1, vs, ks, h1, h2, h3, h4⟩ => ⟨rfl, ?_⟩) (fun H11 ⟨e11, kvs, ks, h1, h2, h3, h4⟩ => ?_)
    · obtain ⟨pk, hpk, xk⟩ := paired_get KP hx
      have hi3 : i < 3 := by
        have := (List.getElem?_eq_some_iff.mp hx).1
        omega
      have fpk : pk.fit 6 := FP pk (List.mem_of_getElem? hpk)
      refine ⟨_, rfl, _, rfl, x, d, pk, kd, by', rfl, KdAt.tups (same_tups e1) xk, fpk, e1 _ _ GB, ByAt.tups (same_tups e1) BB, fun H12 v' s12 a12 => ?_⟩
      have gD := s12 _ _ h1
      have tu : Tups H12 (upd H12 D3 (.lst (vs ++ [v']))) := Tups.put gD (by intro xs z; cases z)
      refine ⟨vs, gD, small1000 (by omega), fun b o z => ?_, vs ++ [v'], ks ++ [pk.put by'], upd_same, ?_, by rw [List.length_append, h3]; rfl, ?_⟩
      · rw [upd_ne (ne_of_none z hD3)]
        exact s12 _ _ (e1 _ _ z)
      · exact Paired.snoc (KdsAt.tups ((same_tups s12).trans tu) h2) (KdAt.tups tu a12)
      · intro z hz
        rcases List.mem_append.mp hz with q | q
        · exact h4 z q
        · rw [List.mem_singleton.mp q]
          exact Kd.fit_put (n := 6) (m := 4) (fun x k hk => b2 (x, k) (lk_mem hk)) fpk
    have T11 := T9.same e11
    have lks : ks.length = ps.length := by rw [← Paired.length h2, h3, g3, lps]
    have lkv : kvs.length = p := by rw [h3, g3]
    have nD3 : D3 ≠ t := T9.ne hD3
    have nPK : D ≠ D3 := ne_of_none GP hD3
    refine ⟨_, rfl, t, c, 2, m + 128, rfl, by decide, by decide, T11, fun H12 r12 e12 T12 hr1 hr2 => ⟨rfl, _, rfl, ite2 (fun z => ?g1) (fun z => ?g2)⟩⟩
    case' g1 =>
      have h1b := e12 _ _ nD3 h1
      refine ⟨_, rfl, _, rfl, _, _, rfl, .inl ⟨_, SqL.of h1b, rfl⟩, t, c, _, m + 127, rfl, by omega, by omega, T12, fun H13 r13 e13 T13 hr131 hr132 => ?_⟩
      obtain ⟨j, rfl⟩ : ∃ j : Nat, r13 = (j : Int) := ⟨r13.toNat, (Int.toNat_of_nonneg hr131).symm⟩
      have hj : j < kvs.length := by omega
      have h1c := e13 _ _ nD3 h1b
      obtain ⟨x, hx⟩ : ∃ x, kvs[j]? = some x := ⟨_, List.getElem?_eq_getElem hj⟩
      obtain ⟨kx, hkx, xk⟩ := paired_get h2 hx
      have e03 := (same_ext (t := t) e11).trans (e12.trans e13)
      refine ⟨_, rfl, _, rfl, _, rfl, _, _, _, _, rfl, rfl, SqL.of h1c, atI_nat hx, _, rfl, _, rfl, ?_⟩
      refine ⟨t, c, ln, lc, x, kx, ws, m + 94, rfl, KdAt.tups (Ext.tups (e12.trans e13) T11) xk, h4 kx (List.mem_of_getElem? hkx), SqL.extT S10 T9 e03, wo2, by rw [len2]; decide, C10.ext T9 e03, T13, fun H14 v' k' e14 T14 a14 f14 => ?_⟩
      have h1d := e14 _ _ nD3 h1c
      refine ⟨_, rfl, _, rfl, D3, kvs, (j : Int), j, rfl, rfl, h1d, ixN_of hj, ?_⟩
      have tu : Tups H14 (upd H14 D3 (.lst (kvs.set j v'))) := Tups.put h1d (by intro xs z; cases z)
      have Ez := (e03.trans e14).upd (o := .lst (kvs.set j v')) hD3
      have Tz := (Tape.put T9 (e03.trans e14) T14 hD3 (o := .lst (kvs.set j v'))).less (show m ≤ _ by omega)
      have GKz : (upd H14 D3 (.lst (kvs.set j v'))) D3 = some (.lst (kvs.set j v')) := upd_same
      have KKz := paired_set (KdAt.tups tu a14) (j := j) (KdsAt.tups ((Ext.tups ((e12.trans e13).trans e14) T11).trans tu) h2)
      have lkz : (ks.set j k').length = ps.length := by rw [List.length_set]; exact lks
      have FKz : ∀ k ∈ ks.set j k', k.fit 12 := fun k hk => by
        rcases List.mem_or_eq_of_mem_set hk with q | q
        · exact Kd.fit_mono (by omega) (h4 k q)
        · rw [q]; exact f14
      generalize upd H14 D3 (.lst (kvs.set j v')) = Hz at Ez Tz GKz KKz ⊢
      generalize kvs.set j v' = kz at GKz KKz
      generalize ks.set j k' = ksz at KKz lkz FKz
    case' g2 =>
      have Ez := (same_ext (t := t) e11).trans e12
      have Tz := T12.less (show m ≤ _ by omega)
      have GKz := e12 _ _ nD3 h1
      have KKz := KdsAt.tups (Ext.tups e12 T11) h2
      have lkz := lks
      have FKz : ∀ k ∈ ks, k.fit 12 := fun k hk => Kd.fit_mono (by omega) (h4 k hk)
      generalize H12 = Hz at Ez Tz GKz KKz ⊢
      generalize kvs = kz at GKz KKz
      generalize ks = ksz at KKz lkz FKz
    case g1 | g2 =>
      have GPz := Ez _ _ nD GP
      have KPz := KdsAt.tups (Ext.tups Ez T9) KP
      have lpv : pvs.length = ps.length := Paired.length KPz
      have lkv : kz.length = ksz.length := Paired.length KKz
      have fp60 : ∀ k ∈ ps, k.fit 60 := fun k hk => Kd.fit_mono (by omega) (FP k hk)
      have fk60 : ∀ k ∈ ksz, k.fit 60 := fun k hk => Kd.fit_mono (by omega) (FKz k hk)
      have fk15 : ∀ k ∈ ksz, k.fit 15 := fun k hk => Kd.fit_mono (by omega) (FKz k hk)
      have fp12 : ∀ k ∈ ps, k.fit 12 := fun k hk => Kd.fit_mono (by omega) (FP k hk)
      obtain ⟨w1, w2, w3, w4⟩ := twoD_show fp12 FKz (by omega) (by omega)
      have szp : sizeL ps ≤ 100000 := by
        have h1 := sizeL_fit FP
        have h2 : ps.length * (2 * 2 ^ 6) ≤ 3 * (2 * 2 ^ 6) := Nat.mul_le_mul_right _ (by omega)
        omega
      refine ⟨_, rfl, _, rfl, D, D3, pvs, kz, ps, ksz, rfl, SqL.of GPz, SqL.of GKz, KPz, KKz, by omega, FP, by decide, fk60, szp, ?_⟩
      have dpz : ∀ {Hx : Hp} {qa : Addr}, Same Hz Hx → SqL K Hx qa [.ref D, .ref D3] → Dp K Hx (.ref qa) (twoD ps ksz) := fun sx hq =>
        .lst hq (.cons (.lst (SqL.of (sx _ _ GPz)) (KdsAt.dp (KdsAt.tups (same_tups sx) KPz))) (.cons (.lst (SqL.of (sx _ _ GKz)) (KdsAt.dp (KdsAt.tups (same_tups sx) KKz))) .nil))
      cases hmt : mtL ps ksz [] with
      | none =>
        intro Hy sy
        refine ⟨_, rfl, _, rfl, slz rfl, fun qa hqa => ⟨qa, twoD ps ksz, rfl, dpz (sy.trans (same_new hqa)) (SqL.of upd_same), w1, w2, w3, w4, _, _, rfl, ?_⟩⟩
        have sa := sy.trans (same_new (o := .lst [.ref D, .ref D3]) hqa)
        generalize upd Hy qa (.lst [.ref D, .ref D3]) = Ha at sa ⊢
        refine ⟨_, rfl, _, rfl, D, D3, pvs, kz, ps, ksz, rfl, .inl ⟨SqL.of (sa _ _ GPz), SqL.of (sa _ _ GKz)⟩, KdsAt.tups (same_tups sa) KPz, KdsAt.tups (same_tups sa) KKz, by omega, fp60, fk15, szp, ?_⟩
        rw [hmt]
        intro Hb sb
        have s2 := sa.trans sb
        refine ⟨_, rfl, rfl, _, rfl, rfl, rfl, _, rfl, iF (by simp) ?_⟩
        refine ⟨_, rfl, _, rfl, slz rfl, fun qb hqb => ⟨qb, twoD ps ksz, rfl, dpz (s2.trans (same_new hqb)) (SqL.of upd_same), w1, w2, w3, w4, _, rfl, rfl, _, rfl, ?_⟩⟩
        refine iF (by simp) ?_
        have s3 := s2.trans (same_new (o := .lst [.ref D, .ref D3]) hqb)
        generalize upd Hb qb (.lst [.ref D, .ref D3]) = Hc at s3 ⊢
        refine ⟨_, rfl, rfl, _, rfl, iF (by simp) ?_⟩
        refine ⟨_, rfl, D, pvs, rfl, .inl ⟨SqL.of (s3 _ _ GPz), fun l1 hl1 => ?_⟩⟩
        have s4 := s3.trans (same_new (o := .tup pvs) hl1)
        have gl1 : (upd Hc l1 (.tup pvs)) l1 = some (.tup pvs) := upd_same
        generalize upd Hc l1 (.tup pvs) = Hd at s4 gl1 ⊢
        refine ⟨_, rfl, D3, kz, rfl, .inl ⟨SqL.of (s4 _ _ GKz), fun l2 hl2 => ?_⟩⟩
        have s5 := s4.trans (same_new (o := .tup kz) hl2)
        have gl2 : (upd Hd l2 (.tup kz)) l2 = some (.tup kz) := upd_same
        replace gl1 := same_new (o := .tup kz) hl2 _ _ gl1
        generalize upd Hd l2 (.tup kz) = He at s5 gl1 gl2 ⊢
        refine ⟨l1, l2, pvs, kz, ps, ksz, rfl, .inr ⟨SqT.of gl1, SqT.of gl2⟩, KdsAt.tups (same_tups s5) KPz, KdsAt.tups (same_tups s5) KKz, by omega, fp60, fk15, szp, ?_⟩
        rw [hmt]
        intro Hf sf
        refine ⟨_, rfl, .inl ⟨rfl, _, rfl, iF (by simp) ?_⟩⟩
        exact ⟨_, _, _, _, _, _, _, _, _, _, _, _, _, _, rfl, Tz.same (s5.trans sf)⟩
      | some bb =>
        intro Hy dd kdd sy hdd gdd bdd fdd ldd
        refine ⟨_, rfl, _, rfl, slz rfl, fun qa hqa => ⟨qa, twoD ps ksz, rfl, dpz (sy.trans (same_new hqa)) (SqL.of upd_same), w1, w2, w3, w4, _, _, rfl, ?_⟩⟩
        have sa := sy.trans (same_new (o := .lst [.ref D, .ref D3]) hqa)
        have gda := same_new (o := .lst [.ref D, .ref D3]) hqa _ _ gdd
        have bda := ByAt.tups (same_tups (same_new (o := .lst [.ref D, .ref D3]) hqa)) bdd
        generalize upd Hy qa (.lst [.ref D, .ref D3]) = Ha at sa gda bda ⊢
        refine ⟨_, rfl, _, rfl, D, D3, pvs, kz, ps, ksz, rfl, .inl ⟨SqL.of (sa _ _ GPz), SqL.of (sa _ _ GKz)⟩, KdsAt.tups (same_tups sa) KPz, KdsAt.tups (same_tups sa) KKz, by omega, fp60, fk15, szp, ?_⟩
        rw [hmt]
        intro Hb de kde sb hde gde bde fde lde
        have s2 := sa.trans sb
        have gdb := sb _ _ gda
        have bdb := ByAt.tups (same_tups sb) bda
        have nms : names bb = vsL ps [] := mtL_names ps ksz [] bb (by omega) hmt
        have nd : (names bb).Nodup := by rw [nms]; exact vsL_nodup ps List.nodup_nil
        have inW : ∀ y ∈ names bb, y ∈ ws := by rw [nms]; exact vsL_of OP (fun _ q => nomatch q)
        have l3 : (names bb).length ≤ 3 := by rw [← len2]; exact nodup_len nd inW
        have wN : ∀ y ∈ names bb, Wok y := fun y hy => wo2 y (inW y hy)
        refine ⟨_, rfl, rfl, _, rfl, rfl, rfl, _, rfl, iF (by simp) ?_⟩
        refine ⟨_, rfl, _, rfl, slz rfl, fun qb hqb => ⟨qb, twoD ps ksz, rfl, dpz (s2.trans (same_new hqb)) (SqL.of upd_same), w1, w2, w3, w4, _, rfl, rfl, _, rfl, ?_⟩⟩
        refine iF (by simp) ?_
        have sq := same_new (o := .lst [.ref D, .ref D3]) hqb
        have s3 := s2.trans sq
        replace gdb := sq _ _ gdb
        replace gde := sq _ _ gde
        replace bdb := ByAt.tups (same_tups sq) bdb
        replace bde := ByAt.tups (same_tups sq) bde
        generalize upd Hb qb (.lst [.ref D, .ref D3]) = Hc at s3 gdb gde bdb bde ⊢
        clear sq
        refine ⟨_, rfl, rfl, _, rfl, iT (by simp) ?_⟩
        refine ⟨_, rfl, _, rfl, de, dd, kde, kdd, bb, bb, rfl, rfl, gde, gdb, bde, bdb, rfl, fun q hq => ⟨fde q hq, lk_self bb nd q hq⟩, fdd, _, rfl, ?_⟩
        refine ⟨_, rfl, de, kde, names bb, rfl, Rd.of gde, byAt_keys bde, by omega, fun ys p1 pm1 so1 hp1 => ?_⟩
        have s4 := s3.trans (same_new (o := .lst (ys.map V.str)) hp1)
        have gp1 : (upd Hc p1 (.lst (ys.map V.str))) p1 = _ := upd_same
        replace gdb := same_new (o := .lst (ys.map V.str)) hp1 _ _ gdb
        replace bdb := ByAt.tups (same_tups (same_new (o := .lst (ys.map V.str)) hp1)) bdb
        generalize upd Hc p1 (.lst (ys.map V.str)) = Hd at s4 gp1 gdb bdb ⊢
        refine ⟨_, rfl, D, pvs, ps, rfl, SqL.of (s4 _ _ GPz), KdsAt.tups (same_tups s4) KPz, fp60, szp, fun Hv pv sv hpv gpv => ?_⟩
        rw [← nms] at gpv
        refine ⟨pv, names bb, rfl, SqL.of gpv, by omega, fun zs p2 pm2 so2 hp2 => ?_⟩
        have e12 : ys = zs := sorted_uniq (pm1.trans pm2.symm) so1 so2
        have n2 := same_new (o := .lst (zs.map V.str)) hp2
        have s5 := (s4.trans sv).trans n2
        have gp1' := n2 _ _ (sv _ _ gp1)
        have gdv := n2 _ _ (sv _ _ gdb)
        have bdv := ByAt.tups (same_tups (sv.trans n2)) bdb
        have gp2 : (upd Hv p2 (.lst (zs.map V.str))) p2 = _ := upd_same
        generalize upd Hv p2 (.lst (zs.map V.str)) = He at s5 gp1' gp2 gdv bdv ⊢
        have wz : ∀ y ∈ zs, Wok y := fun y hy => wN y (pm2.mem_iff.mp hy)
        subst e12
        refine ⟨_, _, .lst (SqL.of gp1') (dp_words ys), .lst (SqL.of gp2) (dp_words ys), shaped_words wz, shaped_words wz, _, rfl, iF (by rw [eqv_ll, words_eqv]; rfl) ?_⟩
        refine ⟨_, rfl, D, pvs, rfl, .inl ⟨SqL.of (s5 _ _ GPz), fun l1 hl1 => ?_⟩⟩
        have m1 := same_new (o := .tup pvs) hl1
        have gl1 : (upd He l1 (.tup pvs)) l1 = some (.tup pvs) := upd_same
        have s6 := s5.trans m1
        replace gdv := m1 _ _ gdv
        replace bdv := ByAt.tups (same_tups m1) bdv
        generalize upd He l1 (.tup pvs) = Hf at s6 gl1 gdv bdv ⊢
        clear m1
        refine ⟨_, rfl, D3, kz, rfl, .inl ⟨SqL.of (s6 _ _ GKz), fun l2 hl2 => ?_⟩⟩
        have m1 := same_new (o := .tup kz) hl2
        have gl2 : (upd Hf l2 (.tup kz)) l2 = some (.tup kz) := upd_same
        have s7 := s6.trans m1
        replace gl1 := m1 _ _ gl1
        replace gdv := m1 _ _ gdv
        replace bdv := ByAt.tups (same_tups m1) bdv
        generalize upd Hf l2 (.tup kz) = Hg at s7 gl1 gl2 gdv bdv ⊢
        refine ⟨l1, l2, pvs, kz, ps, ksz, rfl, .inr ⟨SqT.of gl1, SqT.of gl2⟩, KdsAt.tups (same_tups s7) KPz, KdsAt.tups (same_tups s7) KKz, by omega, fp60, fk15, szp, ?_⟩
        rw [hmt]
        intro Hh df kdf sh hdf gdf bdf fdf ldf
        refine ⟨_, rfl, .inr ⟨df, dd, kdf, kdd, bb, bb, rfl, rfl, gdf, sh _ _ gdv, bdf, ByAt.tups (same_tups sh) bdv, rfl, fun q hq => ⟨fdf q hq, lk_self bb nd q hq⟩, fdd, _, rfl, ?_⟩⟩
        exact ⟨_, _, _, _, _, _, _, _, _, _, _, _, _, _, rfl, Tz.same (s7.trans sh)⟩
  · obtain ⟨v2, v3, v4, v5, v6, v7, v8, v9, v10, v11, v12, v13, v14, v15, rfl, T2⟩ := h
    refine ⟨slz rfl, fun l1 hl1 => ⟨slz rfl, fun l2 hl2 => ?_⟩⟩
    refine ⟨l1, l2, [], [], [], [], rfl, .inl ⟨SqL.of ((same_new hl2) _ _ upd_same), SqL.of upd_same⟩, .nil, .nil, rfl, fun _ q => (nomatch q), fun _ q => (nomatch q), Nat.zero_le _, ?_⟩
    intro H3 d kvs s3 hd hd3 b3 _ _
    cases b3
    refine fun d2 hd2 => ?_
    have hd' := same_new (o := .dK []) hd2 _ _ hd3
    exact ⟨d, d2, [], [], [], [], rfl, rfl, hd', upd_same, .nil, .nil, rfl, fun _ q => (nomatch q), fun _ q => (nomatch q), k _⟩
end
end L3

namespace L3
open PySem L2
theorem all_mk {l : PySem.W.OpenLaw} {w : World} {K : PySem.W.Frag} {h : Heap} {mg : Str → Option Value} {fa f1 f2 f3 f4 f5 f6 f7 f8 f9 f10 f11 f12 f13 f14 : Addr} (X : K.In h) (G : h.Ns mainGlobals mg) (hfa : mg "law" = some (.ref fa))
    {od1 an1 od2 an2 od3 an3 od4 an4 od5 an5 od6 an6 od7 an7 od8 an8 od9 an9 od10 an10 od11 an11 od12 an12 od13 an13 od14 an14 : Option Addr} {sl1 sl2 sl3 sl4 sl5 sl6 sl7 sl8 sl9 sl10 sl11 sl12 sl13 sl14 : Array (Option Value)} {oc1 kV1 dc1 pm1 cd1 ct1 oc2 kV2 dc2 pm2 cd2 ct2 oc3 kV3 dc3 pm3 cd3 ct3 oc4 kV4 dc4 pm4 cd4 ct4 oc5 kV5 dc5 pm5 cd5 ct5 oc6 kV6 dc6 pm6 cd6 ct6 oc7 kV7 dc7 pm7 cd7 ct7 oc8 kV8 dc8 pm8 cd8 ct8 oc9 kV9 dc9 pm9 cd9 ct9 oc10 kV10 dc10 pm10 cd10 ct10 oc11 kV11 dc11 pm11 cd11 ct11 oc12 kV12 dc12 pm12 cd12 ct12 oc13 kV13 dc13 pm13 cd13 ct13 oc14 kV14 dc14 pm14 cd14 ct14 : Value}
    (a1 : PySem.W.nsIn K mainGlobals "_law_begin" = some (some (.ref f1))) (l1 : K.lookup f1 = some ⟨oc1, od1, .func (PySem.W.fnOf "_law_begin" "_law_begin" (defArgs s__law_begin) (defBody s__law_begin) (defScope s__law_begin) .none kV1 dc1 pm1 an1 cd1 ct1), sl1⟩) (c1 : PySem.W.codeIn K cd1 "_law_begin" = true) (k1 : PySem.W.keepIn K (.ref f1) = true)
    (a2 : PySem.W.nsIn K mainGlobals "_law_draw" = some (some (.ref f2))) (l2 : K.lookup f2 = some ⟨oc2, od2, .func (PySem.W.fnOf "_law_draw" "_law_draw" (defArgs s__law_draw) (defBody s__law_draw) (defScope s__law_draw) .none kV2 dc2 pm2 an2 cd2 ct2), sl2⟩) (c2 : PySem.W.codeIn K cd2 "_law_draw" = true) (k2 : PySem.W.keepIn K (.ref f2) = true)
    (a3 : PySem.W.nsIn K mainGlobals "_law_pick" = some (some (.ref f3))) (l3 : K.lookup f3 = some ⟨oc3, od3, .func (PySem.W.fnOf "_law_pick" "_law_pick" (defArgs s__law_pick) (defBody s__law_pick) (defScope s__law_pick) .none kV3 dc3 pm3 an3 cd3 ct3), sl3⟩) (c3 : PySem.W.codeIn K cd3 "_law_pick" = true) (k3 : PySem.W.keepIn K (.ref f3) = true)
    (a4 : PySem.W.nsIn K mainGlobals "_law_words" = some (some (.ref f4))) (l4 : K.lookup f4 = some ⟨oc4, od4, .func (PySem.W.fnOf "_law_words" "_law_words" (defArgs s__law_words) (defBody s__law_words) (defScope s__law_words) .none kV4 dc4 pm4 an4 cd4 ct4), sl4⟩) (c4 : PySem.W.codeIn K cd4 "_law_words" = true) (k4 : PySem.W.keepIn K (.ref f4) = true)
    (a5 : PySem.W.nsIn K mainGlobals "_law_con" = some (some (.ref f5))) (l5 : K.lookup f5 = some ⟨oc5, od5, .func (PySem.W.fnOf "_law_con" "_law_con" (defArgs s__law_con) (defBody s__law_con) (defScope s__law_con) .none kV5 dc5 pm5 an5 cd5 ct5), sl5⟩) (c5 : PySem.W.codeIn K cd5 "_law_con" = true) (k5 : PySem.W.keepIn K (.ref f5) = true)
    (a6 : PySem.W.nsIn K mainGlobals "_law_put" = some (some (.ref f6))) (l6 : K.lookup f6 = some ⟨oc6, od6, .func (PySem.W.fnOf "_law_put" "_law_put" (defArgs s__law_put) (defBody s__law_put) (defScope s__law_put) .none kV6 dc6 pm6 an6 cd6 ct6), sl6⟩) (c6 : PySem.W.codeIn K cd6 "_law_put" = true) (k6 : PySem.W.keepIn K (.ref f6) = true)
    (a7 : PySem.W.nsIn K mainGlobals "_law_vars" = some (some (.ref f7))) (l7 : K.lookup f7 = some ⟨oc7, od7, .func (PySem.W.fnOf "_law_vars" "_law_vars" (defArgs s__law_vars) (defBody s__law_vars) (defScope s__law_vars) .none kV7 dc7 pm7 an7 cd7 ct7), sl7⟩) (c7 : PySem.W.codeIn K cd7 "_law_vars" = true) (k7 : PySem.W.keepIn K (.ref f7) = true)
    (a8 : PySem.W.nsIn K mainGlobals "_law_fit" = some (some (.ref f8))) (l8 : K.lookup f8 = some ⟨oc8, od8, .func (PySem.W.fnOf "_law_fit" "_law_fit" (defArgs s__law_fit) (defBody s__law_fit) (defScope s__law_fit) .none kV8 dc8 pm8 an8 cd8 ct8), sl8⟩) (c8 : PySem.W.codeIn K cd8 "_law_fit" = true) (k8 : PySem.W.keepIn K (.ref f8) = true)
    (a9 : PySem.W.nsIn K mainGlobals "_law_fits" = some (some (.ref f9))) (l9 : K.lookup f9 = some ⟨oc9, od9, .func (PySem.W.fnOf "_law_fits" "_law_fits" (defArgs s__law_fits) (defBody s__law_fits) (defScope s__law_fits) .none kV9 dc9 pm9 an9 cd9 ct9), sl9⟩) (c9 : PySem.W.codeIn K cd9 "_law_fits" = true) (k9 : PySem.W.keepIn K (.ref f9) = true)
    (a10 : PySem.W.nsIn K mainGlobals "_law_letter_kind" = some (some (.ref f10))) (l10 : K.lookup f10 = some ⟨oc10, od10, .func (PySem.W.fnOf "_law_letter_kind" "_law_letter_kind" (defArgs s__law_letter_kind) (defBody s__law_letter_kind) (defScope s__law_letter_kind) .none kV10 dc10 pm10 an10 cd10 ct10), sl10⟩) (c10 : PySem.W.codeIn K cd10 "_law_letter_kind" = true) (k10 : PySem.W.keepIn K (.ref f10) = true)
    (a11 : PySem.W.nsIn K mainGlobals "_law_changed" = some (some (.ref f11))) (l11 : K.lookup f11 = some ⟨oc11, od11, .func (PySem.W.fnOf "_law_changed" "_law_changed" (defArgs s__law_changed) (defBody s__law_changed) (defScope s__law_changed) .none kV11 dc11 pm11 an11 cd11 ct11), sl11⟩) (c11 : PySem.W.codeIn K cd11 "_law_changed" = true) (k11 : PySem.W.keepIn K (.ref f11) = true)
    (a12 : PySem.W.nsIn K mainGlobals "law" = some (some (.ref f12))) (l12 : K.lookup f12 = some ⟨oc12, od12, .func (PySem.W.fnOf "law" "law" (defArgs s_law) (defBody s_law) (defScope s_law) .none kV12 dc12 pm12 an12 cd12 ct12), sl12⟩) (c12 : PySem.W.codeIn K cd12 "law" = true) (k12 : PySem.W.keepIn K (.ref f12) = true)
    (a13 : PySem.W.nsIn K mainGlobals "fits" = some (some (.ref f13))) (l13 : K.lookup f13 = some ⟨oc13, od13, .func (PySem.W.fnOf "fits" "fits" (defArgs s_fits) (defBody s_fits) (defScope s_fits) .none kV13 dc13 pm13 an13 cd13 ct13), sl13⟩) (c13 : PySem.W.codeIn K cd13 "fits" = true) (k13 : PySem.W.keepIn K (.ref f13) = true)
    (a14 : PySem.W.nsIn K mainGlobals "is_same_kind" = some (some (.ref f14))) (l14 : K.lookup f14 = some ⟨oc14, od14, .func (PySem.W.fnOf "is_same_kind" "is_same_kind" (defArgs s_is_same_kind) (defBody s_is_same_kind) (defScope s_is_same_kind) .none kV14 dc14 pm14 an14 cd14 ct14), sl14⟩) (c14 : PySem.W.codeIn K cd14 "is_same_kind" = true) (k14 : PySem.W.keepIn K (.ref f14) = true)
    (z0 : PySem.W.nsIn K mainGlobals "len" = some none) (z1 : PySem.W.nsIn K mainGlobals "int" = some none) (z2 : PySem.W.nsIn K mainGlobals "list" = some none) (z3 : PySem.W.nsIn K mainGlobals "tuple" = some none) (z4 : PySem.W.nsIn K mainGlobals "dict" = some none) (z5 : PySem.W.nsIn K mainGlobals "repr" = some none) (z6 : PySem.W.nsIn K mainGlobals "range" = some none) (z7 : PySem.W.nsIn K mainGlobals "zip" = some none) (z8 : PySem.W.nsIn K mainGlobals "sorted" = some none) :
    ∃ fd : FuncData, (∀ (s : Shared) (v : Value), BindsTo s fd ⟨[v], []⟩ [("_law_script", v)]) ∧ ∀ base : Heap, K.In base → base.Ns mainGlobals mg → LawRun l.prog w K mg base fa fd "_law_script" (spLaw K) := by
  have e := hfa.symm.trans (PySem.W.mg_of X G a12)
  cases e
  have B : Bl mg := ⟨PySem.W.mg_none_of X G z0, PySem.W.mg_none_of X G z1, PySem.W.mg_none_of X G z2, PySem.W.mg_none_of X G z3, PySem.W.mg_none_of X G z4, PySem.W.mg_none_of X G z5, PySem.W.mg_none_of X G z6, PySem.W.mg_none_of X G z7, PySem.W.mg_none_of X G z8⟩
  have F1 := fun_mk (st := s__law_begin) l1 c1 k1
  have m1 := PySem.W.mg_of X G a1
  have F2 := fun_mk (st := s__law_draw) l2 c2 k2
  have m2 := PySem.W.mg_of X G a2
  have F3 := fun_mk (st := s__law_pick) l3 c3 k3
  have m3 := PySem.W.mg_of X G a3
  have F4 := fun_mk (st := s__law_words) l4 c4 k4
  have m4 := PySem.W.mg_of X G a4
  have F5 := fun_mk (st := s__law_con) l5 c5 k5
  have m5 := PySem.W.mg_of X G a5
  have F6 := fun_mk (st := s__law_put) l6 c6 k6
  have m6 := PySem.W.mg_of X G a6
  have F7 := fun_mk (st := s__law_vars) l7 c7 k7
  have m7 := PySem.W.mg_of X G a7
  have F8 := fun_mk (st := s__law_fit) l8 c8 k8
  have m8 := PySem.W.mg_of X G a8
  have F9 := fun_mk (st := s__law_fits) l9 c9 k9
  have m9 := PySem.W.mg_of X G a9
  have F10 := fun_mk (st := s__law_letter_kind) l10 c10 k10
  have m10 := PySem.W.mg_of X G a10
  have F11 := fun_mk (st := s__law_changed) l11 c11 k11
  have m11 := PySem.W.mg_of X G a11
  have F12 := fun_mk (st := s_law) l12 c12 k12
  have m12 := PySem.W.mg_of X G a12
  have F13 := fun_mk (st := s_fits) l13 c13 k13
  have m13 := PySem.W.mg_of X G a13
  have F14 := fun_mk (st := s_is_same_kind) l14 c14 k14
  have m14 := PySem.W.mg_of X G a14
  refine ⟨PySem.W.fnOf "law" "law" (defArgs s_law) (defBody s_law) (defScope s_law) .none kV12 dc12 pm12 an12 cd12 ct12, fun s v => .of_eq rfl, fun base _ _ => ?_⟩
  have Dbegin := Fun.kn (P := l.prog) (w := w) (base := base) (k := 1) F1 m1 (ok_begin F1) fun _ _ _ _ _ _ us hl => match us, hl with | [_], _ => rfl
  have Ddraw := Fun.kn (P := l.prog) (w := w) (base := base) (k := 1) F2 m2 (ok_draw F2 B) fun _ _ _ _ _ _ us hl => match us, hl with | [_, _], _ => rfl
  have Dpick := Fun.kn (P := l.prog) (w := w) (base := base) (k := 2) F3 m3 (ok_pick F3 B Ddraw) fun _ _ _ _ _ _ us hl => match us, hl with | [_, _], _ => rfl
  have Dwords := Fun.kn (P := l.prog) (w := w) (base := base) (k := 3) F4 m4 (ok_words F4 B Ddraw Dpick) fun _ _ _ _ _ _ us hl => match us, hl with | [_, _], _ => rfl
  have Dcon := Fun.kn (P := l.prog) (w := w) (base := base) (k := 1) F5 m5 (ok_con F5) fun _ _ _ _ _ _ us hl => match us, hl with | [_, _], _ => rfl
  have Dput := Fun.kn (P := l.prog) (w := w) (base := base) (k := 7) F6 m6 (ok_put F6 m6 6) fun _ _ _ _ _ _ us hl => match us, hl with | [_, _], _ => rfl
  have Dvars := Fun.kn (P := l.prog) (w := w) (base := base) (k := 1) F7 m7 (ok_vars F7 B) fun _ _ _ _ _ _ us hl => match us, hl with | [_], _ => rfl
  have Dfit := Fun.kn (P := l.prog) (w := w) (base := base) (k := 7) F8 m8 (ok_fit F8 m8 6) fun _ _ _ _ _ _ us hl => match us, hl with | [_, _, _], _ => rfl
  have Dlf := Fun.kn (P := l.prog) (w := w) (base := base) (k := 8) F9 m9 (ok_lf (n := 6) F9 B Dfit) fun _ _ _ _ _ _ us hl => match us, hl with | [_, _], _ => rfl
  have okl := fun n => ok_letter (P := l.prog) (w := w) (base := base) F10 m10 B Ddraw Dpick Dcon n
  have Dl4 := Fun.kn (P := l.prog) (w := w) (base := base) (k := 4) F10 m10 (okl 1) fun _ _ _ _ _ _ us hl => match us, hl with | [_, _, _, _], _ => rfl
  have Dls := Fun.kn (P := l.prog) (w := w) (base := base) (k := 6) F10 m10 (fn_ls fun n hn => (okl n).mono (by omega)) fun _ _ _ _ _ _ us hl => match us, hl with | [_, _, _, _], _ => rfl
  have Dch := Fun.kn (P := l.prog) (w := w) (base := base) (k := 15) F11 m11 (ok_ch F11 m11 Ddraw Dl4 10) fun _ _ _ _ _ _ us hl => match us, hl with | [_, _, _, _], _ => rfl
  have Dsame := Fun.kn (P := l.prog) (w := w) (base := base) (k := 1) F14 m14 (ok_same F14 B) fun _ _ _ _ _ _ us hl => match us, hl with | [_, _], _ => rfl
  have Dfits := Fun.kn (P := l.prog) (w := w) (base := base) (k := 2) F13 m13 (ok_fits F13 B Dsame) fun _ _ _ _ _ _ us hl => match us, hl with | [_, _], _ => rfl
  exact law_run F12 B Dbegin Ddraw Dwords Dls Dput Dch Dlf Dvars Dfits
end L3

open PySem PySem.W PyProof.Rows in
set_option maxRecDepth 100000 in
set_option maxHeartbeats 0 in
theorem PySem.Challenge.cw_leastneeds_k08_whole_patterns_that_fit_holds : PySem.Challenge.rw_leastneeds_k08_whole_patterns_that_fit.Holds := by
  w_on; o_law; k_head; (case hw => w_witness2)
  k_fill
  refine L3.walkG (l := PySem.Challenge.rw_leastneeds_k08_whole_patterns_that_fit) (n := 63) (x := "_law_script") (sp := L3.spLaw) rfl (by decide) rfl (fun w h Y => PySem.W.kIn_of Y) ?F (fun K H a ns _ hS => ⟨a, ns, rfl, hS, fun _ => rfl⟩)
  case F =>
    intro w mg fa h KX G hmg
    refine' L3.all_mk KX G hmg ?a1 ?l1 ?c1 ?k1 ?a2 ?l2 ?c2 ?k2 ?a3 ?l3 ?c3 ?k3 ?a4 ?l4 ?c4 ?k4 ?a5 ?l5 ?c5 ?k5 ?a6 ?l6 ?c6 ?k6 ?a7 ?l7 ?c7 ?k7 ?a8 ?l8 ?c8 ?k8 ?a9 ?l9 ?c9 ?k9 ?a10 ?l10 ?c10 ?k10 ?a11 ?l11 ?c11 ?k11 ?a12 ?l12 ?c12 ?k12 ?a13 ?l13 ?c13 ?k13 ?a14 ?l14 ?c14 ?k14 ?z0 ?z1 ?z2 ?z3 ?z4 ?z5 ?z6 ?z7 ?z8
    (case a1 => k_is)
    (case l1 => k_is)
    (case c1 => k_is)
    (case k1 => k_is)
    (case a2 => k_is)
    (case l2 => k_is)
    (case c2 => k_is)
    (case k2 => k_is)
    (case a3 => k_is)
    (case l3 => k_is)
    (case c3 => k_is)
    (case k3 => k_is)
    (case a4 => k_is)
    (case l4 => k_is)
    (case c4 => k_is)
    (case k4 => k_is)
    (case a5 => k_is)
    (case l5 => k_is)
    (case c5 => k_is)
    (case k5 => k_is)
    (case a6 => k_is)
    (case l6 => k_is)
    (case c6 => k_is)
    (case k6 => k_is)
    (case a7 => k_is)
    (case l7 => k_is)
    (case c7 => k_is)
    (case k7 => k_is)
    (case a8 => k_is)
    (case l8 => k_is)
    (case c8 => k_is)
    (case k8 => k_is)
    (case a9 => k_is)
    (case l9 => k_is)
    (case c9 => k_is)
    (case k9 => k_is)
    (case a10 => k_is)
    (case l10 => k_is)
    (case c10 => k_is)
    (case k10 => k_is)
    (case a11 => k_is)
    (case l11 => k_is)
    (case c11 => k_is)
    (case k11 => k_is)
    (case a12 => k_is)
    (case l12 => k_is)
    (case c12 => k_is)
    (case k12 => k_is)
    (case a13 => k_is)
    (case l13 => k_is)
    (case c13 => k_is)
    (case k13 => k_is)
    (case a14 => k_is)
    (case l14 => k_is)
    (case c14 => k_is)
    (case k14 => k_is)
    (case z0 => k_is)
    (case z1 => k_is)
    (case z2 => k_is)
    (case z3 => k_is)
    (case z4 => k_is)
    (case z5 => k_is)
    (case z6 => k_is)
    (case z7 => k_is)
    (case z8 => k_is)
