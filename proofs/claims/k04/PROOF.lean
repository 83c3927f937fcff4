import PyProof.Rows.All
import Wide.All
import OpenK.AllK
import Wide.FinOn
import HandS.ForMost
import HandS.Zip
import HandS.TupAny
import HandS.Conv
import HandS.Strs
import HandS.Deep
import HandS.IsInst
import HandS.Exc
import HandS.ExcOwn
import HandS.More
import HandS.CallSlots
import HandS.WordsExc
import PyProof.TypeEq
import HandS.TupMul
import PyProof.InstEq
import HandS.Codes
import HandS.ClsMeth
import HandS.NoneIn
import HandS.SetKeys
import HandS.SetFor
import HandS.ExcIs
import PySem.Challenge.RW_clashproved_k04_no_rules
set_option Elab.async false
set_option linter.all false
set_option maxRecDepth 100000
section
set_option Elab.async false
set_option linter.all false
set_option maxRecDepth 100000
/-! Data without a heap, how it lies in the heap, what a running def knows. -/
namespace Pv
open PySem L2

/-- a value as data: no addresses -/
inductive D where
  | non | bl (b : Bool) | int (i : Int) | str (x : Str) | ty (n : String) | glo (x : Str) | stm | dct | scr (ns : List Int)
  | lst (xs : List D) | tup (xs : List D) | ins (c : Str) (ns : List Str) (xs : List D)
  deriving Inhabited

/-- what a slot holds: nothing that is known, data, a list that this def alone holds -/
inductive Sl where
  | un | val (d : D) | own (xs : List D)
  deriving Inhabited

/-- the draws: the digits, how many are taken -/
abbrev Wd := Option (List Int × Nat)

/-- where things stand: the draws' three objects, what is hidden, the heap -/
structure Wl where
  sr : Option (Addr × Addr × Addr)
  hd : Addr → Prop
  h : Hp

open Classical in
/-- what may be relied upon -/
noncomputable def Wl.vis (W : Wl) : Hp := fun a => if W.hd a ∨ (∃ x y, W.sr = some (x, y, a)) then none else W.h a

theorem vis_some {W : Wl} {a : Addr} {o : HO} (e : W.vis a = some o) : W.h a = some o ∧ ¬ W.hd a ∧ ∀ x y, W.sr ≠ some (x, y, a) := by
  unfold Wl.vis at e
  split at e
  · cases e
  · rename_i hn
    exact ⟨e, fun z => hn (.inl z), fun x y z => hn (.inr ⟨x, y, z⟩)⟩
theorem vis_of {W : Wl} {a : Addr} {o : HO} (e : W.h a = some o) (h1 : ¬ W.hd a) (h2 : ∀ x y, W.sr ≠ some (x, y, a)) : W.vis a = some o := by
  unfold Wl.vis
  rw [if_neg]
  · exact e
  · rintro (z | ⟨x, y, z⟩)
    · exact h1 z
    · exact h2 x y z

/-- the module: the written part, the globals -/
structure Md where
  K : PySem.W.Frag
  mg : Str → Option Value

/-- a tuple that is known to be a plain one -/
def ND (H : Hp) (a : Addr) : Prop := ∃ o u, H a = some (.frz o u) ∧ o.dict = none

mutual
inductive Rp (m : Md) (sr : Option (Addr × Addr × Addr)) (H : Hp) : V → D → Prop
  | non : Rp m sr H .non .non
  | bl (b : Bool) : Rp m sr H (.bl b) (.bl b)
  | int (i : Int) : Rp m sr H (.int i) (.int i)
  | str (x : Str) : Rp m sr H (.str x) (.str x)
  | ty (n : String) : Rp m sr H (.ty n) (.ty n)
  | glo {x : Str} {a : Addr} : m.mg x = some (.ref a) → Rp m sr H (.ref a) (.glo x)
  | stm {a b c : Addr} : sr = some (a, b, c) → Rp m sr H (.ref a) .stm
  | dct {a : Addr} : H a = some (.dK []) → Rp m sr H (.ref a) .dct
  | scr {a : Addr} {ns : List Int} : SqL m.K H a (ns.map V.int) → Rp m sr H (.ref a) (.scr ns)
  | lst {a : Addr} {vs : List V} {ds : List D} : H a = some (.lst vs) → Rps m sr H vs ds → Rp m sr H (.ref a) (.lst ds)
  | tup {a : Addr} {vs : List V} {ds : List D} : SqT m.K H a vs → Rps m sr H vs ds → Rp m sr H (.ref a) (.tup ds)
  | ins {a C dx : Addr} {c : Str} {fs : List (Str × V)} {ns : List Str} {ds : List D} : m.mg c = some (.ref C) → H a = some (.ins C dx fs) → fs.map (·.1) = ns → Rps m sr H (fs.map (·.2)) ds → (∀ q, fs.lookup ("names" : Str) = some (V.ref q) → ND H q) → Rp m sr H (.ref a) (.ins c ns ds)
inductive Rps (m : Md) (sr : Option (Addr × Addr × Addr)) (H : Hp) : List V → List D → Prop
  | nil : Rps m sr H [] []
  | cons {v : V} {vs : List V} {d : D} {ds : List D} : Rp m sr H v d → Rps m sr H vs ds → Rps m sr H (v :: vs) (d :: ds)
end

section
variable {m : Md} {sr sr' : Option (Addr × Addr × Addr)} {H H' : Hp}
theorem sqL_ex {K : PySem.W.Frag} {a : Addr} {xs : List V} (e : Same H H') (h : SqL K H a xs) : SqL K H' a xs := e.seq h
theorem sqT_ex {K : PySem.W.Frag} {a : Addr} {xs : List V} (e : Same H H') (h : SqT K H a xs) : SqT K H' a xs := by
  rcases h with (h | ⟨o, h⟩) | h
  · exact .inl (.inl (e _ _ h))
  · exact .inl (.inr ⟨o, e _ _ h⟩)
  · exact .inr h
mutual
theorem Rp.mono (e : Same H H') (es : sr = none ∨ sr' = sr) : ∀ {d : D} {v : V}, Rp m sr H v d → Rp m sr' H' v d
  | .non, _, .non => .non
  | .bl _, _, .bl b => .bl b
  | .int _, _, .int i => .int i
  | .str _, _, .str x => .str x
  | .ty _, _, .ty n => .ty n
  | .glo _, _, .glo h => .glo h
  | .stm, _, .stm (a := a) (b := b) (c := c) h => .stm (b := b) (c := c) (by
      rcases es with z | z
      · rw [z] at h; cases h
      · exact z.trans h)
  | .scr _, _, .scr h => .scr (sqL_ex e h)
  | .dct, _, .dct h => .dct (e _ _ h)
  | .lst _, _, .lst h r => .lst (e _ _ h) (Rps.mono e es r)
  | .tup _, _, .tup h r => .tup (sqT_ex e h) (Rps.mono e es r)
  | .ins _ _ _, _, .ins h1 h2 h3 r h4 => .ins h1 (e _ _ h2) h3 (Rps.mono e es r) (fun q hq => by
      obtain ⟨o, u, h5, h6⟩ := h4 q hq
      exact ⟨o, u, e _ _ h5, h6⟩)
theorem Rps.mono (e : Same H H') (es : sr = none ∨ sr' = sr) : ∀ {ds : List D} {vs : List V}, Rps m sr H vs ds → Rps m sr' H' vs ds
  | [], _, .nil => .nil
  | _ :: _, _, .cons a b => .cons (Rp.mono e es a) (Rps.mono e es b)
end
theorem Rps.length : ∀ {vs : List V} {ds : List D}, Rps m sr H vs ds → vs.length = ds.length
  | _, _, .nil => rfl
  | _, _, .cons _ r => by simp [Rps.length r]
theorem Rps.get : ∀ {vs : List V} {ds : List D} {i : Nat} {d : D}, Rps m sr H vs ds → ds[i]? = some d → ∃ v, vs[i]? = some v ∧ Rp m sr H v d
  | _, _, _, _, .nil, e => by simp at e
  | _, _, 0, _, .cons r _, e => by simp at e; subst e; exact ⟨_, rfl, r⟩
  | _, _, i + 1, d, .cons _ t, e => by
    obtain ⟨u, h1, h2⟩ := Rps.get (i := i) (d := d) t (by simpa using e)
    exact ⟨u, by simpa using h1, h2⟩
theorem Rps.getv : ∀ {vs : List V} {ds : List D} {i : Nat} {v : V}, Rps m sr H vs ds → vs[i]? = some v → ∃ d, ds[i]? = some d ∧ Rp m sr H v d
  | _, _, _, _, .nil, e => by simp at e
  | _, _, 0, _, .cons r _, e => by simp at e; subst e; exact ⟨_, rfl, r⟩
  | _, _, i + 1, d, .cons _ t, e => by
    obtain ⟨u, h1, h2⟩ := Rps.getv (i := i) (v := d) t (by simpa using e)
    exact ⟨u, by simpa using h1, h2⟩
theorem Rps.append : ∀ {vs ws : List V} {ds es : List D}, Rps m sr H vs ds → Rps m sr H ws es → Rps m sr H (vs ++ ws) (ds ++ es)
  | _, _, _, _, .nil, s => s
  | _, _, _, _, .cons r t, s => .cons r (Rps.append t s)
theorem Rps.take : ∀ {vs : List V} {ds : List D} (n : Nat), Rps m sr H vs ds → Rps m sr H (vs.take n) (ds.take n)
  | _, _, 0, _ => by simp; exact .nil
  | _, _, _ + 1, .nil => by simp; exact .nil
  | _, _, n + 1, .cons r t => by simp; exact .cons r (Rps.take n t)
theorem Rps.drop : ∀ {vs : List V} {ds : List D} (n : Nat), Rps m sr H vs ds → Rps m sr H (vs.drop n) (ds.drop n)
  | _, _, 0, r => r
  | _, _, _ + 1, .nil => .nil
  | _, _, n + 1, .cons _ t => by simp; exact Rps.drop n t
theorem Rps.eraseIdx : ∀ {vs : List V} {ds : List D} (i : Nat), Rps m sr H vs ds → Rps m sr H (vs.eraseIdx i) (ds.eraseIdx i)
  | _, _, _, .nil => .nil
  | _, _, 0, .cons _ t => t
  | _, _, i + 1, .cons r t => .cons r (Rps.eraseIdx i t)
theorem Rps.ints : ∀ {vs : List V} {ns : List Int}, Rps m sr H vs (ns.map D.int) → vs = ns.map V.int
  | _, [], .nil => rfl
  | _, n :: ns, .cons r t => by
    cases r
    rw [List.map_cons, ← Rps.ints t]
theorem Rps.of_ints : ∀ (ns : List Int), Rps m sr H (ns.map V.int) (ns.map D.int)
  | [] => .nil
  | n :: ns => .cons (.int n) (Rps.of_ints ns)
theorem Rps.strs : ∀ {vs : List V} {ns : List Str}, Rps m sr H vs (ns.map D.str) → vs = ns.map V.str
  | _, [], .nil => rfl
  | _, n :: ns, .cons r t => by
    cases r
    rw [List.map_cons, ← Rps.strs t]
theorem Rps.bls : ∀ {vs : List V} {ns : List Bool}, Rps m sr H vs (ns.map D.bl) → vs = ns.map V.bl
  | _, [], .nil => rfl
  | _, n :: ns, .cons r t => by
    cases r
    rw [List.map_cons, ← Rps.bls t]
end

/-! ### growing -/
/-- what was relied upon may still be -/
structure Le (W W' : Wl) : Prop where
  ex : Same W.vis W'.vis
  sr : W.sr = none ∨ W'.sr = W.sr
theorem Le.refl (W : Wl) : Le W W := ⟨Same.refl _, .inr rfl⟩
theorem Le.trans {a b c : Wl} (x : Le a b) (y : Le b c) : Le a c := ⟨x.ex.trans y.ex, by
  rcases x.sr with z | z
  · exact .inl z
  · rcases y.sr with q | q
    · exact .inl (z.symm.trans q)
    · exact .inr (q.trans z)⟩
abbrev RW (m : Md) (W : Wl) : V → D → Prop := Rp m W.sr W.vis
abbrev RWs (m : Md) (W : Wl) : List V → List D → Prop := Rps m W.sr W.vis
theorem Le.rp {m : Md} {a b : Wl} (x : Le a b) {v : V} {d : D} (h : RW m a v d) : RW m b v d := Rp.mono x.ex x.sr h
theorem Le.rps {m : Md} {a b : Wl} (x : Le a b) {v : List V} {d : List D} (h : RWs m a v d) : RWs m b v d := Rps.mono x.ex x.sr h

/-- the draws lie so -/
def WR (m : Md) (W : Wl) : Wd → Prop
  | none => W.sr = none
  | some (ds, n) => ∃ a b c, W.sr = some (a, b, c) ∧ W.vis a = some (.lst [.ref b, .ref c]) ∧ W.vis b = some (.lst (ds.map V.int)) ∧ W.h c = some (.lst [.int (n : Int)]) ∧ ¬ W.hd c

/-- hidden things stand somewhere -/
def HdOk (W : Wl) : Prop := ∀ a, W.hd a → W.h a ≠ none

/-- everything but the draws' place is as it was -/
def Fm (W W' : Wl) : Prop := (∀ a o, W.h a = some o → (∀ x y, W.sr ≠ some (x, y, a)) → W'.h a = some o) ∧ (W.sr = none ∨ W'.sr = W.sr) ∧ (∀ x y c, W'.sr = some (x, y, c) → W.sr = none → W.h c = none)
theorem Fm.refl (W : Wl) : Fm W W := ⟨fun _ _ h _ => h, .inr rfl, fun x y c h1 h2 => by rw [h2] at h1; cases h1⟩
theorem Fm.sr {W W' : Wl} (x : Fm W W') : W.sr = none ∨ W'.sr = W.sr := x.2.1
theorem Fm.trans {a b c : Wl} (x : Fm a b) (y : Fm b c) : Fm a c := by
  refine ⟨fun p o h n => y.1 p o (x.1 p o h n) fun u v e => ?_, ?_, fun u v p e n => ?_⟩
  · rcases x.2.1 with z | z
    · have := x.2.2 u v p e z
      rw [h] at this; cases this
    · rw [z] at e; exact n u v e
  · rcases x.2.1 with z | z
    · exact .inl z
    · rcases y.2.1 with q | q
      · exact .inl (z.symm.trans q)
      · exact .inr (q.trans z)
  · cases hb : b.sr with
    | none =>
      have h1 := y.2.2 u v p e hb
      cases ha : a.h p with
      | none => rfl
      | some o =>
        have := x.1 p o ha (fun u v z => by rw [n] at z; cases z)
        rw [h1] at this; cases this
    | some t =>
      rcases y.2.1 with z | z
      · rw [hb] at z; cases z
      · rw [z] at e
        exact x.2.2 u v p e n
/-- with the same things hidden, what is relied upon stands -/
theorem Fm.le {W W' : Wl} (x : Fm W W') (h : ∀ a, W'.hd a → W.hd a ∨ W.h a = none) : Le W W' := by
  refine ⟨fun a o e => ?_, x.2.1⟩
  obtain ⟨h1, h2, h3⟩ := vis_some e
  refine vis_of (x.1 a o h1 h3) (fun z => ?_) (fun u v e' => ?_)
  · rcases h a z with q | q
    · exact h2 q
    · rw [h1] at q; cases q
  · rcases x.2.1 with z | z
    · have := x.2.2 u v a e' z
      rw [h1] at this; cases this
    · rw [z] at e'; exact h3 u v e'
end Pv
end
section
set_option Elab.async false
set_option linter.all false
set_option maxRecDepth 100000
/-! A def's body as a function of data: what an expression, a statement comes to. -/
namespace Pv
open PySem L2

inductive FR where
  | ok (d : D) (w : Wd)
  | ex (c : Str) (w : Wd)
abbrev Fn := List D → Wd → Option FR

/-- what a def may name: functions, classes that are made, methods, constants, constants of classes, built-in names -/
structure Cf where
  fn : Str → Option Fn
  mak : Str → Option Fn
  exn : Str → Bool
  cls : Str → Bool
  fl : Str → Str → Bool
  me : Str → Str → Option Fn
  con : Str → Option D
  cc : Str → Str → Option D
  bi : Str → Bool
  tab : Str → Option (List (Str × Str))

structure Bk where
  N : List Str
  sc : Scope
  st : Scope
  mu : List Nat

inductive ER (α : Type) where
  | ok (a : α) (e : List Sl) (w : Wd)
  | ex (c : Str) (e : List Sl) (w : Wd)

def bnd {α β : Type} (r : Option (ER α)) (k : α → List Sl → Wd → Option (ER β)) : Option (ER β) :=
  match r with
  | some (.ok a e w) => k a e w
  | some (.ex c e w) => some (.ex c e w)
  | none => none
/-- from a callee's end -/
def ofF (r : Option FR) (e : List Sl) : Option (ER D) :=
  match r with
  | some (.ok d w) => some (.ok d e w)
  | some (.ex c w) => some (.ex c e w)
  | none => none

/-! ### names -/
def slotOf : List Str → Str → Nat → Option Nat
  | [], _, _ => none
  | y :: r, x, i => if y = x then some i else slotOf r x (i + 1)
def isLoc (sc : Scope) (x : Str) : Bool := match sc.names.lookup x with
  | some .local => true | some .cell => true | some .free => true | _ => false
/-- may be stored -/
def isSto (sc : Scope) (x : Str) : Bool := match sc.names.lookup x with
  | some .local => true | some .cell => true | _ => false
def isGl (sc : Scope) (x : Str) : Bool := match sc.names.lookup x with
  | some .globalImplicit => true | _ => false
def okN (x : Str) : Bool := !(x == ("__debug__" : Str)) && !(x == ("__classdict__" : Str)) && !(x == ("__name__" : Str))
def rl (inner sc : Scope) : Scope :=
  { inner with names := inner.names.map fun (n, k) => if (k == .free && sc.kind == .function && sc.names.lookup n == some .cell) then (n, .cell) else (n, k) }

/-! ### operations on data -/
mutual
def toP : D → Option PyData
  | .non => some .none
  | .bl b => some (.bool b)
  | .int i => some (.int i)
  | .str x => some (.str x)
  | .lst xs => (toPs xs).map .list
  | .tup xs => (toPs xs).map .tuple
  | _ => none
def toPs : List D → Option (List PyData)
  | [] => some []
  | d :: ds => match toP d, toPs ds with
    | some a, some b => some (a :: b)
    | _, _ => none
end
def tyNames : List String := ["int", "str", "bool", "NoneType", "list", "tuple", "dict"]
def eqD (a b : D) : Option Bool := match a, b with
  | .ty x, .ty y => if x ∈ tyNames ∧ y ∈ tyNames then some (decide (x = y)) else none
  | a, b => match toP a, toP b with
    | some p, some q => if SeqAt.shaped p = true ∧ SeqAt.shaped q = true then some (PyData.eqv p q) else none
    | _, _ => none
def flatD : D → Bool
  | .non => true | .bl _ => true | .int _ => true | .str _ => true | _ => false
def eqF : D → D → Bool
  | .non, .non => true
  | .bl a, .bl b => a == b
  | .bl a, .int b => (if a then 1 else 0) == b
  | .int a, .bl b => a == (if b then 1 else 0)
  | .int a, .int b => a == b
  | .str a, .str b => a == b
  | _, _ => false
def small (n : Nat) : Bool := decide (n ≤ 100000)
/-- op of two values, not made of a tuple or list -/
def binD (op : Operator) (a b : D) : Option D := match op, a, b with
  | .Add, .int i, .int j => some (.int (i + j))
  | .Sub, .int i, .int j => some (.int (i - j))
  | .Mult, .int i, .int j => if (-(2 ^ 64) < i ∧ i < 2 ^ 64) ∨ (-(2 ^ 64) < j ∧ j < 2 ^ 64) then some (.int (i * j)) else none
  | .Mod, .int i, .int j => if 0 < j then some (.int (i % j)) else none
  | .FloorDiv, .int i, .int j => if 0 < j ∧ j < 1073741824 then some (.int (i / j)) else none
  | .Add, .tup xs, .tup ys => if small (xs.length + ys.length) then some (.tup (xs ++ ys)) else none
  | .Add, .lst xs, .lst ys => if small (xs.length + ys.length) then some (.lst (xs ++ ys)) else none
  | .Mult, .lst xs, .int k => if 0 ≤ k ∧ small (xs.length * k.toNat) ∧ k < 100000 then some (.lst (List.replicate k.toNat xs).flatten) else none
  | .Mult, .tup xs, .int k => if 2 ≤ k ∧ k ≤ 1000 ∧ xs.length ≤ 1000 ∧ xs.isEmpty = false then some (.tup (List.replicate k.toNat xs).flatten) else none
  | .Add, .str x, .str y => if small (x.length + y.length) then some (.str (x ++ y)) else none
  | _, _, _ => none
def inD (x : D) (xs : List D) : Option Bool := if flatD x && xs.all flatD then some (xs.any fun y => eqF y x) else none
def cmpD (op : CmpOp) (a b : D) : Option Bool := match op, a, b with
  | .Eq, a, b => eqD a b
  | .NotEq, a, b => (eqD a b).map (!·)
  | .Lt, .int i, .int j => some (decide (i < j))
  | .LtE, .int i, .int j => some (decide (i ≤ j))
  | .Gt, .int i, .int j => some (decide (j < i))
  | .GtE, .int i, .int j => some (decide (j ≤ i))
  | .In, .str x, .str z => (match x.cps.toList with | [c] => some (decide (c ∈ z.cps.toList)) | _ => none)
  | .NotIn, .str x, .str z => (match x.cps.toList with | [c] => some (!decide (c ∈ z.cps.toList)) | _ => none)
  | .In, x, .tup ys => inD x ys
  | .In, x, .lst ys => inD x ys
  | .NotIn, x, .tup ys => (inD x ys).map (!·)
  | .NotIn, x, .lst ys => (inD x ys).map (!·)
  | .Is, x, .non => (match x with | .non => some true | .ins _ _ _ => none | _ => some false)
  | .IsNot, x, .non => (match x with | .non => some false | .ins _ _ _ => none | _ => some true)
  | _, _, _ => none
def truD : D → Option Bool
  | .non => some false
  | .bl b => some b
  | .int i => some (i != 0)
  | .str y => if small y.length then some ((y.length : Int) != 0) else none
  | .lst xs => some (!xs.isEmpty)
  | .tup xs => some (!xs.isEmpty)
  | _ => none
def ixD (a i : D) : Option D := match a, i with
  | .tup xs, .int i => atI xs i
  | .lst xs, .int i => atI xs i
  | .scr ns, .int i => (atI ns i).map .int
  | .str z, .int i => if small z.length then (atI z.cps.toList i).map fun c => .str ⟨#[c]⟩ else none
  | _, _ => none
/-- a dict of the module from texts to defs -/
def cmpC (c : Cf) (op : CmpOp) (a b : D) : Option Bool := match b with
  | .glo g => (match op, a with
    | .In, .str x => (c.tab g).map fun t => (t.lookup x).isSome
    | .NotIn, .str x => (c.tab g).map fun t => !(t.lookup x).isSome
    | .In, .non => (c.tab g).map fun _ => false
    | .NotIn, .non => (c.tab g).map fun _ => true
    | _, _ => none)
  | b => cmpD op a b
def ixC (c : Cf) (a i : D) : Option D := match a with
  | .glo g => (match i with
    | .str x => (c.tab g).bind fun t => (t.lookup x).map .glo
    | _ => none)
  | a => ixD a i
def cutD {α : Type} (xs : List α) (lo hi : Option Int) : List α := (xs.drop (HT.sIx xs.length 0 lo)).take (HT.sIx xs.length xs.length hi - HT.sIx xs.length 0 lo)
def sliceD (a : D) (lo hi : Option Int) : Option D := match a with
  | .tup xs => some (.tup (cutD xs lo hi))
  | .lst xs => some (.lst (cutD xs lo hi))
  | _ => none
def tyD : D → Option String
  | .non => some "NoneType" | .bl _ => some "bool" | .int _ => some "int" | .str _ => some "str" | .lst _ => some "list" | .tup _ => some "tuple"
  | _ => none
def blOf : D → Option Bool
  | .bl b => some b | _ => none
def intOf : D → Option Int
  | .int b => some b | _ => none
def strOf : D → Option Str
  | .str b => some b | _ => none
def blsOf (xs : List D) : Option (List Bool) := xs.mapM blOf
def intsOf (xs : List D) : Option (List Int) := xs.mapM intOf
def strsOf (xs : List D) : Option (List Str) := xs.mapM strOf
/-- the built-in type of a value against a built-in type -/
def isiTy (t n : String) : Option Bool := kitB t n
/-- built-in functions on data -/
def biD (cl : Str → Bool) (f : Str) (ds : List D) : Option D :=
  if f = "len" then (match ds with
    | [.lst xs] => some (.int xs.length) | [.tup xs] => some (.int xs.length) | [.scr ns] => some (.int ns.length) | [.str x] => if small x.length then some (.int x.length) else none | _ => none)
  else if f = "int" then (match ds with
    | [.int i] => some (.int i) | [.bl k] => some (.int (if k then 1 else 0)) | _ => none)
  else if f = "abs" then (match ds with
    | [.int i] => some (.int (if i < 0 then -i else i)) | _ => none)
  else if f = "type" then (match ds with
    | [.dct] => some (.ty "dict")
    | [x] => (tyD x).map .ty | _ => none)
  else if f = "isinstance" then (match ds with
    | [x, .ty n] => (tyD x).bind fun t => (isiTy t n).map .bl
    | [.ins cn _ _, .glo g] => if cn = g && cl g then some (.bl true) else none
    | [x, .glo g] => if cl g then (tyD x).map fun _ => .bl false else none
    | _ => none)
  else if f = "tuple" then (match ds with
    | [.lst xs] => some (.tup xs) | [.tup xs] => some (.tup xs) | _ => none)
  else if f = "list" then (match ds with
    | [.lst xs] => some (.lst xs) | [.tup xs] => some (.lst xs) | _ => none)
  else if f = "all" then (match ds with
    | [.lst xs] => (blsOf xs).map fun bs => .bl (bs.all id) | _ => none)
  else if f = "any" then (match ds with
    | [.lst xs] => (blsOf xs).map fun bs => .bl (bs.any id) | _ => none)
  else if f = "sum" then (match ds with
    | [.lst xs] => (intsOf xs).map fun ns => .int ns.sum | _ => none)
  else none
/-- which built-in thing a name is: a function, or a type -/
def biK (f : Str) : Option (Bool × String) :=
  if f = "len" then some (true, "len") else if f = "int" then some (false, "int") else if f = "abs" then some (true, "abs") else if f = "type" then some (false, "type")
  else if f = "isinstance" then some (true, "isinstance") else if f = "tuple" then some (false, "tuple") else if f = "list" then some (false, "list")
  else if f = "all" then some (true, "all") else if f = "any" then some (true, "any") else if f = "sum" then some (true, "sum") else none
def insSorted (x : Int) : List Int → List Int
  | [] => [x]
  | y :: r => if x < y then x :: y :: r else if x = y then y :: r else y :: insSorted x r
/-- sorted(set(xs)) -/
def sortSet (xs : List Int) : List Int := xs.foldr insSorted []
/-- each key once, in the order of its first place -/
def has (acc : List Key) (k : Key) : Bool := acc.any fun j => decide (j = k)
def put1 (acc : List Key) (k : Key) : List Key := if has acc k = true then acc else acc ++ [k]
def dlK (ks : List Key) : List Key := ks.foldl put1 []
/-- a number or a text as a key -/
def keyD : D → Option Key
  | .int i => some (.inl i)
  | .str x => some (.inr x)
  | _ => none
/-- len(set(xs)) -/
def lenSet (xs : List D) : Option Nat := match xs.mapM keyD with
  | some ks => if ks.length < 4000 then some (dlK ks).length else none
  | none => none
/-- o.index(x) -/
def ixoD (o x : D) : Option Nat := match o with
  | .tup xs => (match x with
    | .str x => (strsOf xs).bind fun ys => ys.findIdx? (· = x)
    | _ => none)
  | .lst xs => if flatD x && xs.all flatD then xs.findIdx? fun z => eqF z x else none
  | _ => none

/-! ### storing -/
def setSl (b : Bk) (i : Nat) (d : D) (e : List Sl) : List Sl := e.set i (.val d)
mutual
/-- what a target does -/
def asg (b : Bk) : Nat → Expr → D → List Sl → Option (List Sl)
  | 0, _, _, _ => none
  | n + 1, tg, d, e => match tg with
    | .Name x _ => if okN x && isSto b.st x then (match slotOf b.N x 0 with
        | some i => if i ∈ b.mu then none else some (setSl b i d e)
        | none => none) else none
    | .Tuple es _ _ => (match d with
        | .tup xs => if xs.length = es.length then asgs b n es xs e else none
        | _ => none)
    | _ => none
def asgs (b : Bk) : Nat → List Expr → List D → List Sl → Option (List Sl)
  | 0, _, _, _ => none
  | n + 1, ts, ds, e => match ts, ds with
    | [], [] => some e
    | .Starred _ _ :: _, _ => none
    | t :: ts, d :: ds => (asg b n t d e).bind fun e1 => asgs b n ts ds e1
    | _, _ => none
end
def isStar : Expr → Bool
  | .Starred _ _ => true
  | _ => false
def isCallN : Expr → Bool
  | .Call (.Name _ _) [] [] _ => true
  | _ => false
def isSl : Expr → Bool
  | .Slice _ _ _ _ => true
  | _ => false
def wipeS (e : List Sl) : List Nat → List Sl
  | [] => e
  | v :: vs => (wipeS e vs).set v .un
/-- a def's name, when the expression is one -/
def nameOf : Expr → Option Str
  | .Name x _ => some x
  | _ => none
/-- a list that this def alone holds, when the expression is its name -/
def ownOf (b : Bk) (x : Expr) (e : List Sl) : Option (Nat × List D) := match x with
  | .Name x _ => if okN x && isLoc b.sc x then (match slotOf b.N x 0 with
      | some i => (match e[i]? with | some (.own xs) => some (i, xs) | _ => none)
      | none => none) else none
  | _ => none

/-! ### expressions, statements -/
inductive SO where
  | nx (e : List Sl) (w : Wd)
  | rt (d : D) (w : Wd)
  | bk (e : List Sl) (w : Wd)
  | ct (e : List Sl) (w : Wd)
  | ex (c : Str) (e : List Sl) (w : Wd)
/-- whose built-in methods may be asked: lists, and the tuple of names of an instance -/
def mtOk (b : Bk) (o : Expr) (d : D) : Bool := match d with
  | .lst _ => true
  | .tup xs => (match o with | .Attribute (.Name y _) f _ => f = "names" && !isGl b.sc y && (strsOf xs).isSome | _ => false)
  | _ => false
def tyName (y : Str) : Option String :=
  if y = "int" then some "int" else if y = "str" then some "str" else if y = "bool" then some "bool" else if y = "list" then some "list" else if y = "tuple" then some "tuple" else none
def isTupX : Expr → Bool
  | .Tuple _ _ _ => true | _ => false
def isSetX : Expr → Bool
  | .Set _ _ _ => true | _ => false
def isComp : Expr → Bool
  | .ListComp _ _ _ _ => true | .SetComp _ _ _ _ => true | .DictComp _ _ _ _ _ => true | _ => false
def isDisp : Expr → Bool
  | .Tuple _ _ _ => true | .List _ _ => true | _ => false
/-- the set that is asked about -/
def setArg : List Expr → Option Expr
  | [.Call (.Name s _) [a] [] _] => if s = "set" && !isStar a then some a else none
  | _ => none
def ownNames (b : Bk) (sc : Scope) : List (Str × Nat) := sc.names.filterMap fun y =>
  match y.2 with
  | .local => (slotOf b.N y.1 0).map fun i => (y.1, i)
  | .cell => (slotOf b.N y.1 0).map fun i => (y.1, i)
  | _ => none
/-- behind a block: what the outer slots hold again -/
def back (e0 e : List Sl) (vs : List Nat) : List Sl := vs.foldl (fun e i => e.set i (match e0[i]? with | some (.val d) => .val d | _ => .un)) e
def rngD (lo hi : Int) : List D := (List.range (hi - lo).toNat).map fun (i : Nat) => .int (lo + (i : Nat))
def okR (i : Int) : Bool := decide (-(2 ^ 62) ≤ i ∧ i < 2 ^ 62)
def lines (apos pos : Pos) : Bool := apos.endLine == pos.line
/-- the turns of a comprehension -/
def loopC (turn : D → List D → List Sl → Wd → Option (List D × List Sl × Wd)) : List D → List D → List Sl → Wd → Option (List D × List Sl × Wd)
  | [], acc, e, w => some (acc, e, w)
  | d :: ds, acc, e, w => match turn d acc e w with
    | some (acc, e, w) => loopC turn ds acc e w
    | none => none
/-- the turns of a for -/
def loopF (turn : D → List Sl → Wd → Option SO) : List D → List Sl → Wd → Option SO
  | [], e, w => some (.nx e w)
  | d :: ds, e, w => match turn d e w with
    | some (.nx e w) => loopF turn ds e w
    | some (.ct e w) => loopF turn ds e w
    | some (.bk e w) => some (.nx e w)
    | o => o
/-- one turn of a comprehension, from the test and the element -/
def turnC (test : List Sl → Wd → Option (ER Bool)) (elt : List Sl → Wd → Option (ER D)) (acc : List D) (e : List Sl) (w : Wd) : Option (List D × List Sl × Wd) :=
  match test e w with
  | some (.ok true e w) => (match elt e w with
    | some (.ok d e w) => if small acc.length then some (acc ++ [d], e, w) else none
    | _ => none)
  | some (.ok false e w) => some (acc, e, w)
  | _ => none
def evName (c : Cf) (b : Bk) (y : Str) (e : List Sl) (w : Wd) : Option (ER D) :=
  if okN y then (if isLoc b.sc y then (match slotOf b.N y 0 with
      | some i => (match e[i]? with
        | some (.val d) => some (.ok d e w)
        | some (.own xs) => some (.ok (.lst xs) (e.set i (.val (.lst xs))) w)
        | _ => none)
      | none => none)
    else if isGl b.sc y then (match c.con y with
      | some d => some (.ok d e w)
      | none => if c.bi y then (match tyName y with
        | some t => some (.ok (.ty t) e w)
        | none => none) else none)
    else none) else none
mutual
def ev (c : Cf) (b : Bk) : Nat → Expr → List Sl → Wd → Option (ER D)
  | 0, _, _, _ => none
  | n + 1, x, e, w => match x with
    | .Constant k _ _ => (match k with
      | .int i => some (.ok (.int i) e w) | .bool t => some (.ok (.bl t) e w) | .none => some (.ok .non e w) | .str s => some (.ok (.str s) e w) | _ => none)
    | .Name y _ => evName c b y e w
    | .BinOp p op q _ => bnd (ev c b n p e w) fun d1 e w => bnd (ev c b n q e w) fun d2 e w => (match binD op d1 d2 with
      | some d => some (.ok d e w) | none => none)
    | .UnaryOp .USub p _ => bnd (ev c b n p e w) fun d e w => (match d with
      | .int i => some (.ok (.int (-i)) e w)
      | _ => none)
    | .UnaryOp .Not p _ => bnd (ev c b n p e w) fun d e w => (match d with
      | .bl t => some (.ok (.bl (!t)) e w)
      | _ => none)
    | .BoolOp op xs _ => evB c b n op xs e w
    | .Compare p [op] [q] _ => if isSetX q then none else bnd (ev c b n p e w) fun d1 e w => bnd (ev c b n q e w) fun d2 e w => (match op, d1 with
      | .Eq, .ins cn ns ds => (match c.me cn "__eq__" with
        | some F => (match F [.ins cn ns ds, d2] w with
          | some (.ok (.bl t) w) => some (.ok (.bl t) e w) | _ => none)
        | none => none)
      | _, _ => (match cmpC c op d1 d2 with
        | some t => some (.ok (.bl t) e w) | none => none))
    | .Compare p [op, op2] [q, r] _ => if isSetX r then none else bnd (ev c b n p e w) fun d1 e w => bnd (ev c b n q e w) fun d2 e w => (match cmpD op d1 d2 with
      | some true => bnd (ev c b n r e w) fun d3 e w => (match cmpD op2 d2 d3 with
        | some t => some (.ok (.bl t) e w) | none => none)
      | some false => some (.ok (.bl false) e w)
      | none => none)
    | .IfExp t p q _ => bnd (evT c b n t e w) fun k e w => if k = true then ev c b n p e w else ev c b n q e w
    | .Attribute o f _ => if isCallN o then none else (match o with
      | .Name y _ => if isGl b.sc y && okN y then (match c.cc y f with
          | some d => some (.ok d e w) | none => none)
        else bnd (ev c b n o e w) fun d e w => (match d with
          | .ins cn ns ds => if c.fl cn f then (match (ns.zip ds).lookup f with | some d => some (.ok d e w) | none => none) else none
          | _ => none)
      | _ => none)
    | .Subscript p s _ => (match s with
      | .Slice lo hi none _ => bnd (ev c b n p e w) fun d e w => bnd (evO c b n lo e w) fun i e w => bnd (evO c b n hi e w) fun j e w => (match sliceD d i j with
        | some d => some (.ok d e w) | none => none)
      | .Slice _ _ _ _ => none
      | s => (match ownOf b p e with
        | some (i, _) => bnd (ev c b n s e w) fun k e w => (match e[i]?, k with
          | some (.own xs), .int k => (match atI xs k with | some d => some (.ok d e w) | none => none)
          | _, _ => none)
        | none => bnd (ev c b n p e w) fun d e w => bnd (ev c b n s e w) fun k e w => (match ixC c d k with
          | some d => some (.ok d e w) | none => none)))
    | .Dict [] [] _ => some (.ok .dct e w)
    | .Tuple xs _ _ => bnd (evs c b n xs e w) fun ds e w => if small ds.length then some (.ok (.tup ds) e w) else none
    | .List xs _ => bnd (evs c b n xs e w) fun ds e w => if small ds.length then some (.ok (.lst ds) e w) else none
    | .ListComp _ _ _ _ => bnd (evC c b n x e w) fun ds e w => some (.ok (.lst ds) e w)
    | .Call (.Name g _) args [] _ => if !okN g || args.any isStar then none
        else if isGl b.sc g then (match c.fn g with
          | some F => bnd (evs c b n args e w) fun ds e w => ofF (F ds w) e
          | none => (match c.mak g with
            | some F => if args.isEmpty then none else bnd (evs c b n args e w) fun ds e w => ofF (F ds w) e
            | none => if !c.bi g then none else evBi c b n g args e w))
        else if isLoc b.sc g then (match slotOf b.N g 0 with
          | some i => (match e[i]? with
            | some (.val (.glo f)) => (match c.fn f with
              | some F => if args.isEmpty then none else bnd (evs c b n args e w) fun ds e w => ofF (F ds w) e
              | none => none)
            | _ => none)
          | none => none)
        else none
    | .Call (.Attribute o m apos) args [] pos => if isCallN o || !lines apos pos || decide (29 ≤ args.length) || args.any isStar then none else (match ownOf b o e with
      | some (i, _) => evOwn c b n i m args e w
      | none => bnd (ev c b n o e w) fun d e w => (match d with
        | .ins cn ns ds => if m ∈ ns || args.isEmpty then none else (match c.me cn m with
          | some F => bnd (evs c b n args e w) fun as e w => ofF (F (.ins cn ns ds :: as) w) e
          | none => none)
        | d => evIx c b n o d m args e w))
    | _ => none
/-- o.index(x), o a built-in value -/
def evIx (c : Cf) (b : Bk) : Nat → Expr → D → Str → List Expr → List Sl → Wd → Option (ER D)
  | 0, _, _, _, _, _, _ => none
  | n + 1, o, d, m, args, e, w => match args with
    | [a] => if m = "index" && mtOk b o d then bnd (ev c b n a e w) fun x e w => (match ixoD d x with
      | some i => some (.ok (.int (i : Nat)) e w) | none => none) else none
    | _ => none
/-- a test -/
def evT (c : Cf) (b : Bk) : Nat → Expr → List Sl → Wd → Option (ER Bool)
  | 0, _, _, _ => none
  | n + 1, x, e, w => match x with
    | .UnaryOp .Not p _ => bnd (evT c b n p e w) fun k e w => some (.ok (!k) e w)
    | .BoolOp op xs _ => evTs c b n op xs e w
    | .Compare _ _ _ _ => bnd (ev c b n x e w) fun d e w => (match d with
      | .bl k => some (.ok k e w) | _ => none)
    | .IfExp _ _ _ _ => none
    | .NamedExpr _ _ _ => none
    | x => (match ownOf b x e with
      | some (_, xs) => some (.ok (!xs.isEmpty) e w)
      | none => bnd (ev c b n x e w) fun d e w => (match truD d with
        | some k => some (.ok k e w) | none => none))
def evTs (c : Cf) (b : Bk) : Nat → BoolOp → List Expr → List Sl → Wd → Option (ER Bool)
  | 0, _, _, _, _ => none
  | n + 1, op, xs, e, w => match xs with
    | [] => none
    | [x] => evT c b n x e w
    | x :: r => bnd (evT c b n x e w) fun k e w => (match op, k with
      | .And, true => evTs c b n op r e w
      | .And, false => some (.ok false e w)
      | .Or, true => some (.ok true e w)
      | .Or, false => evTs c b n op r e w)
/-- and, or as values -/
def evB (c : Cf) (b : Bk) : Nat → BoolOp → List Expr → List Sl → Wd → Option (ER D)
  | 0, _, _, _, _ => none
  | n + 1, op, xs, e, w => match xs with
    | [] => none
    | [x] => ev c b n x e w
    | x :: r => bnd (ev c b n x e w) fun d e w => (match op, d with
      | .And, .bl true => evB c b n op r e w
      | .And, .bl false => some (.ok (.bl false) e w)
      | .Or, .bl true => some (.ok (.bl true) e w)
      | .Or, .bl false => evB c b n op r e w
      | _, _ => none)
def evs (c : Cf) (b : Bk) : Nat → List Expr → List Sl → Wd → Option (ER (List D))
  | 0, _, _, _ => none
  | n + 1, xs, e, w => match xs with
    | [] => some (.ok [] e w)
    | x :: r => if isStar x then none else bnd (ev c b n x e w) fun d e w => bnd (evs c b n r e w) fun ds e w => some (.ok (d :: ds) e w)
def evO (c : Cf) (b : Bk) : Nat → Option Expr → List Sl → Wd → Option (ER (Option Int))
  | 0, _, _, _ => none
  | n + 1, x, e, w => match x with
    | none => some (.ok none e w)
    | some x => bnd (ev c b n x e w) fun d e w => (match d with
      | .int i => some (.ok (some i) e w) | _ => none)
/-- a call of a built-in name -/
def evBi (c : Cf) (b : Bk) : Nat → Str → List Expr → List Sl → Wd → Option (ER D)
  | 0, _, _, _, _ => none
  | n + 1, g, args, e, w =>
    if g = "len" && c.bi "set" && isGl b.sc "set" && (setArg args).isSome then (match setArg args with
      | some a => bnd (ev c b n a e w) fun d e w => (match d with
        | .lst xs => (match lenSet xs with | some k => some (.ok (.int (k : Nat)) e w) | none => none)
        | .tup xs => (match lenSet xs with | some k => some (.ok (.int (k : Nat)) e w) | none => none)
        | _ => none)
      | none => none)
    else if g = "sorted" && c.bi "set" && isGl b.sc "set" && (setArg args).isSome then (match setArg args with
      | some a => bnd (ev c b n a e w) fun d e w => (match d with
        | .tup xs => (match intsOf xs with | some ns => if ns.length < 64 then some (.ok (.lst ((sortSet ns).map D.int)) e w) else none | none => none)
        | _ => none)
      | none => none)
    else if (biK g).isNone then none
    else (match args with
      | [a] => (match ownOf b a e with
        | some (_, xs) => if g = "len" then some (.ok (.int xs.length) e w) else if g = "tuple" then some (.ok (.tup xs) e w) else if g = "list" then some (.ok (.lst xs) e w) else none
        | none => bnd (evs c b n args e w) fun ds e w => (match ds with
          | [.ins cn ns xs] => if g = "len" then (match c.me cn "__len__" with
            | some F => (match F [.ins cn ns xs] w with
              | some (.ok (.int k) w) => if 0 ≤ k ∧ k < 100000 then some (.ok (.int k) e w) else none | _ => none)
            | none => none) else none
          | _ => (match biD c.cls g ds with | some d => some (.ok d e w) | none => none)))
      | _ => if args.isEmpty then none else bnd (evs c b n args e w) fun ds e w => (match biD c.cls g ds with | some d => some (.ok d e w) | none => none))
/-- a method of a list that this def alone holds -/
def evOwn (c : Cf) (b : Bk) : Nat → Nat → Str → List Expr → List Sl → Wd → Option (ER D)
  | 0, _, _, _, _, _ => none
  | n + 1, i, m, args, e, w =>
    if m = "append" then (match args with
      | [a] => if isStar a then none else bnd (ev c b n a e w) fun d e w => (match e[i]? with
        | some (.own xs) => if xs.length < 100000 then some (.ok .non (e.set i (.own (xs ++ [d]))) w) else none
        | _ => none)
      | _ => none)
    else if m = "extend" then (match args with
      | [a] => if isStar a then none else bnd (ev c b n a e w) fun d e w => (match e[i]?, d with
        | some (.own xs), .lst ys => if small (xs.length + ys.length) then some (.ok .non (e.set i (.own (xs ++ ys))) w) else none
        | _, _ => none)
      | _ => none)
    else if m = "pop" then (match args with
      | [a] => if isStar a then none else bnd (ev c b n a e w) fun d e w => (match e[i]?, d with
        | some (.own xs), .int k => if 0 ≤ k ∧ k < xs.length ∧ k < 2 ^ 62 then (match xs[k.toNat]? with
          | some y => some (.ok y (e.set i (.own (xs.eraseIdx k.toNat))) w)
          | none => none) else none
        | _, _ => none)
      | _ => none)
    else none
/-- what is walked -/
def evI (c : Cf) (b : Bk) : Nat → Expr → Expr → List Sl → Wd → Option (ER (List D))
  | 0, _, _, _, _ => none
  | n + 1, tg, x, e, w => match x with
    | .Call (.Name g _) args [] _ => if args.any isStar then none else if g = "range" && isGl b.sc g && c.bi g && (args.length == 1 || args.length == 2) then bnd (evs c b n args e w) fun ds e w => (match ds with
        | [.int j] => if okR j then some (.ok (rngD 0 j) e w) else none
        | [.int i, .int j] => if okR i && okR j then some (.ok (rngD i j) e w) else none
        | _ => none)
      else if g = "zip" && isGl b.sc g && c.bi g && isTupX tg && args.length == 2 then bnd (evs c b n args e w) fun ds e w => (match ds with
        | [.tup xs, .tup ys] => some (.ok ((xs.zip ys).map fun p => .tup [p.1, p.2]) e w)
        | _ => none)
      else bnd (ev c b n x e w) fun d e w => (match d with
        | .lst xs => some (.ok xs e w) | .tup xs => some (.ok xs e w) | .str z => some (.ok (z.cps.toList.map fun k => .str ⟨#[k]⟩) e w) | _ => none)
    | x => bnd (ev c b n x e w) fun d e w => (match d with
        | .lst xs => some (.ok xs e w) | .tup xs => some (.ok xs e w) | .str z => some (.ok (z.cps.toList.map fun k => .str ⟨#[k]⟩) e w) | _ => none)
/-- a list comprehension: its items -/
def evC (c : Cf) (b : Bk) : Nat → Expr → List Sl → Wd → Option (ER (List D))
  | 0, _, _, _ => none
  | n + 1, x, e, w => match x with
    | .ListComp elt [⟨tg, iter, ifs, 0⟩] scope _ => if ifs.length ≤ 1 && blkC b.N b.sc scope (ownNames b scope) then
        (bnd (evI c b n tg iter e w) fun ds e1 w =>
          match loopC (fun d acc e w => match asg ⟨b.N, rl scope b.sc, scope, []⟩ n tg d (wipeS e ((ownNames b scope).map (·.2))) with
              | none => none
              | some e => turnC (fun e w => match ifs with | [] => some (.ok true e w) | f :: _ => evT c ⟨b.N, rl scope b.sc, scope, []⟩ n f e w) (fun e w => ev c ⟨b.N, rl scope b.sc, scope, []⟩ n elt e w) acc e w) ds [] e1 w with
          | some (out, e2, w) => some (.ok out (back e1 e2 ((ownNames b scope).map (·.2))) w)
          | none => none)
      else none
    | _ => none
end
mutual
def evSt (c : Cf) (b : Bk) : Nat → Stmt → List Sl → Wd → Option SO
  | 0, _, _, _ => none
  | n + 1, x, e, w => match x with
    | .Pass _ => some (.nx e w)
    | .Break _ => some (.bk e w)
    | .Continue _ => some (.ct e w)
    | .Return none _ => some (.rt .non w)
    | .Return (some v) _ => (match ev c b n v e w with
      | some (.ok d _ w) => some (.rt d w) | some (.ex k e w) => some (.ex k e w) | none => none)
    | .Expr v _ => if isComp v then none else (match ev c b n v e w with
      | some (.ok _ e w) => some (.nx e w) | some (.ex k e w) => some (.ex k e w) | none => none)
    | .If t p q _ => (match evT c b n t e w with
      | some (.ok k e w) => if k = true then evSs c b n p e w else evSs c b n q e w
      | some (.ex k e w) => some (.ex k e w) | none => none)
    | .Assign [tg] v _ => (match tg with
      | .Name y _ => if okN y && isSto b.st y then (match slotOf b.N y 0 with
        | some i => if i ∈ b.mu then (match v with
            | .List xs _ => (match bnd (evs c b n xs e w) fun ds e w => if small ds.length then some (.ok (D.lst ds) e w) else none with
              | some (.ok (.lst ds) e w) => some (.nx (e.set i (.own ds)) w) | some (.ex k e w) => some (.ex k e w) | _ => none)
            | .BinOp p .Add q _ => (match bnd (ev c b n p e w) fun d1 e w => bnd (ev c b n q e w) fun d2 e w => (match binD .Add d1 d2 with | some d => some (.ok d e w) | none => none) with
              | some (.ok (.lst ds) e w) => some (.nx (e.set i (.own ds)) w) | some (.ex k e w) => some (.ex k e w) | _ => none)
            | .ListComp _ _ _ _ => (match evC c b n v e w with
              | some (.ok ds e w) => some (.nx (e.set i (.own ds)) w) | some (.ex k e w) => some (.ex k e w) | none => none)
            | .Call (.Name g _) [a] [] _ => if g = "list" && isGl b.sc g && c.bi g && !isStar a then (match ev c b n a e w with
              | some (.ok (.lst ds) e w) => some (.nx (e.set i (.own ds)) w) | some (.ok (.tup ds) e w) => some (.nx (e.set i (.own ds)) w) | some (.ex k e w) => some (.ex k e w) | _ => none) else none
            | _ => none)
          else (match ev c b n v e w with
            | some (.ok d e w) => some (.nx (e.set i (.val d)) w) | some (.ex k e w) => some (.ex k e w) | none => none)
        | none => none) else none
      | .Tuple _ _ _ => if isDisp v || isComp v then none else (match ev c b n v e w with
        | some (.ok d e w) => (match asg b n tg d e with | some e => some (.nx e w) | none => none)
        | some (.ex k e w) => some (.ex k e w) | none => none)
      | _ => none)
    | .For tg iter body [] _ => (match evI c b n tg iter e w with
      | some (.ok ds e w) => loopF (fun d e w => match asg b n tg d e with | none => none | some e => evSs c b n body e w) ds e w
      | some (.ex k e w) => some (.ex k e w) | none => none)
    | .Raise (some (.Call (.Name y _) [.Constant (.str _) _ _] [] _)) none _ => if c.exn y && isGl b.sc y && okN y then some (.ex y e w) else none
    | _ => none
def evSs (c : Cf) (b : Bk) : Nat → List Stmt → List Sl → Wd → Option SO
  | 0, _, _, _ => none
  | n + 1, xs, e, w => match xs with
    | [] => some (.nx e w)
    | x :: r => (match evSt c b n x e w with
      | some (.nx e w) => evSs c b n r e w
      | o => o)
end
/-- a def called -/
def evD (c : Cf) (b : Bk) (n : Nat) (body : List Stmt) (np : Nat) : Fn := fun ds w =>
  if ds.length = np then (match evSs c b n body (ds.map Sl.val ++ List.replicate (b.N.length - np) .un) w with
    | some (.rt d w) => some (.ok d w)
    | some (.nx _ w) => some (.ok .non w)
    | some (.ex k _ w) => some (.ex k w)
    | _ => none) else none
end Pv
end
section
set_option Elab.async false
set_option linter.all false
set_option autoImplicit false
set_option maxRecDepth 100000
set_option maxHeartbeats 1000000
/-! What a def knows while it runs; readings that say just what is wanted; operations on data in the heap. -/
namespace Pv
open PySem PySem.Spec PyProof.Rows L2

/-! ### readings -/
def RE (X : Cx) (e : Expr) : TE := fun σ H Q => ∀ (pins : List (Addr × Obj)) (s : Shared), Inv X pins σ H s → wpAny (model X.prog X.w) X.A (eval e X.env) (EP X pins σ Q) X.xe s
theorem pe_self {X : Cx} {e : Expr} : PE X e (RE X e) := ⟨fun pins s σ H Q I h => h pins s I⟩
theorem re_of {X : Cx} {e : Expr} {t : TE} {σ : L2.St} {H : Hp} {Q : VK} (h : PE X e t) (q : t σ H Q) : RE X e σ H Q := fun pins s I => h.run pins s σ H Q I q
def RT (X : Cx) (e : Expr) : TT := fun σ H Q => ∀ (pins : List (Addr × Obj)) (s : Shared), Inv X pins σ H s → wpAny (model X.prog X.w) X.A (isTrue e X.env (eval e X.env)) (TP X pins σ Q) X.xe s
theorem pt_self {X : Cx} {e : Expr} : PT X e (RT X e) := ⟨fun pins s σ H Q I h => h pins s I⟩
theorem rt_of {X : Cx} {e : Expr} {t : TT} {σ : L2.St} {H : Hp} {Q : Bool → Hp → Prop} (h : PT X e t) (q : t σ H Q) : RT X e σ H Q := fun pins s I => h.run pins s σ H Q I q
def RV (X : Cx) (e : Expr) : TT := fun σ H Q => ∀ (whole : Sem Value) (pins : List (Addr × Obj)) (s : Shared), Inv X pins σ H s → wpAny (model X.prog X.w) X.A (isTrue e X.env whole) (TP X pins σ Q) X.xe s
theorem pw_self {X : Cx} {e : Expr} : PW X e (RV X e) := ⟨fun whole pins s σ H Q I h => h whole pins s I⟩
theorem rv_of {X : Cx} {e : Expr} {t : TT} {σ : L2.St} {H : Hp} {Q : Bool → Hp → Prop} (h : PW X e t) (q : t σ H Q) : RV X e σ H Q := fun whole pins s I => h.run whole pins s σ H Q I q
def RA (X : Cx) (es : List Expr) : TA := fun σ H Q => ∀ (pos : Pos) (pins : List (Addr × Obj)) (s : Shared), Inv X pins σ H s → wpAny (model X.prog X.w) X.A (spliced (backTo pos (starEach es X.env))) (AP X pins σ Q) X.xe s
theorem pa_self {X : Cx} {es : List Expr} : PA X es (RA X es) := ⟨fun pos pins s σ H Q I h => h pos pins s I⟩
theorem ra_of {X : Cx} {es : List Expr} {t : TA} {σ : L2.St} {H : Hp} {Q : List V → Hp → Prop} (h : PA X es t) (q : t σ H Q) : RA X es σ H Q := fun pos pins s I => h.run pos pins s σ H Q I q
def RO (X : Cx) (e : Option Expr) : TO := fun σ H Q => ∀ (pins : List (Addr × Obj)) (s : Shared), Inv X pins σ H s → wpAny (model X.prog X.w) X.A (evalPart e X.env) (fun u s' => ∃ o H', Inv X pins σ H' s' ∧ PySem.IsPart u o ∧ Q o H') X.xe s
theorem po_self {X : Cx} {e : Option Expr} : PO X e (RO X e) := ⟨fun pins s σ H Q I h => h pins s I⟩
theorem ro_of {X : Cx} {e : Option Expr} {t : TO} {σ : L2.St} {H : Hp} {Q : Option Int → Hp → Prop} (h : PO X e t) (q : t σ H Q) : RO X e σ H Q := fun pins s I => h.run pins s σ H Q I q
def RS (X : Cx) (st : Stmt) : TS := fun D σ H => ∀ (pins : List (Addr × Obj)) (s : Shared), Inv X pins σ H s → wpAny (model X.prog X.w) X.A (exec st X.env) (SP X pins D) X.xe s
theorem ps_self {X : Cx} {st : Stmt} : PS X st (RS X st) := ⟨fun pins s σ H D I h => h pins s I⟩
theorem rs_of {X : Cx} {st : Stmt} {t : TS} {D : Ends} {σ : L2.St} {H : Hp} (h : PS X st t) (q : t D σ H) : RS X st D σ H := fun pins s I => h.run pins s σ H D I q
def RSs (X : Cx) (st : List Stmt) : TS := fun D σ H => ∀ (pins : List (Addr × Obj)) (s : Shared), Inv X pins σ H s → wpAny (model X.prog X.w) X.A (execs st X.env) (SP X pins D) X.xe s
theorem pss_self {X : Cx} {st : List Stmt} : PSs X st (RSs X st) := ⟨fun pins s σ H D I h => h pins s I⟩
theorem rss_of {X : Cx} {st : List Stmt} {t : TS} {D : Ends} {σ : L2.St} {H : Hp} (h : PSs X st t) (q : t D σ H) : RSs X st D σ H := fun pins s I => h.run pins s σ H D I q
/-- two values -/
def B2 (X : Cx) (f : Value → Value → Sem Value) : R2 := fun x y H Q => ∀ (pins : List (Addr × Obj)) (s : Shared) (σ : L2.St) (v u : Value), Inv X pins σ H s → RelV x v → RelV y u → wpAny (model X.prog X.w) X.A (f v u) (EP X pins σ Q) X.xe s
theorem op_self {X : Cx} {f : Value → Value → Sem Value} : OpR X f (B2 X f) := fun pins s σ H x y v u Q I r1 r2 h => h pins s σ v u I r1 r2
theorem b2_of {X : Cx} {f : Value → Value → Sem Value} {r : R2} {x y : V} {H : Hp} {Q : VK} (h : OpR X f r) (q : r x y H Q) : B2 X f x y H Q := fun pins s σ v u I r1 r2 => h pins s σ H x y v u Q I r1 r2 q
def B1 (X : Cx) (f : Value → Sem Value) : V → Hp → VK → Prop := fun x H Q => ∀ (pins : List (Addr × Obj)) (s : Shared) (σ : L2.St) (v : Value), Inv X pins σ H s → RelV x v → wpAny (model X.prog X.w) X.A (f v) (EP X pins σ Q) X.xe s
theorem un_self {X : Cx} {f : Value → Sem Value} : UnR X f (B1 X f) := fun pins s σ H x v Q I r1 h => h pins s σ v I r1
theorem b1_of {X : Cx} {f : Value → Sem Value} {r : V → Hp → VK → Prop} {x : V} {H : Hp} {Q : VK} (h : UnR X f r) (q : r x H Q) : B1 X f x H Q := fun pins s σ v I r1 => h pins s σ H x v Q I r1 q
def BC (X : Cx) (f : Value) : List V → Hp → VK → Prop := fun xs H Q => ∀ (pins : List (Addr × Obj)) (s : Shared) (σ : L2.St) (us : List Value), Inv X pins σ H s → Vals xs us → wpAny (model X.prog X.w) X.A (call f us) (EP X pins σ Q) X.xe s
theorem cr_self {X : Cx} {f : Value} : CallR X f (BC X f) := fun pins s σ H xs us Q I r1 h => h pins s σ us I r1
theorem bc_of {X : Cx} {f : Value} {r : List V → Hp → VK → Prop} {xs : List V} {H : Hp} {Q : VK} (h : CallR X f r) (q : r xs H Q) : BC X f xs H Q := fun pins s σ us I r1 => h pins s σ H xs us Q I r1 q
def BIx (X : Cx) : R2 := fun x y H Q => ∀ (value slice : Expr) (pins : List (Addr × Obj)) (s : Shared) (σ : L2.St) (v u : Value), Inv X pins σ H s → RelV x v → RelV y u →
    subscripted slice false v u = operate [v, u] (getItem v u) → wpAny (model X.prog X.w) X.A (subscriptTail value slice v u) (EP X pins σ Q) X.xe s
theorem ix_self {X : Cx} : IxR X (BIx X) := fun value slice pins s σ H x y v u Q I r1 r2 h e => h value slice pins s σ v u I r1 r2 e
theorem bix_of {X : Cx} {r : R2} {x y : V} {H : Hp} {Q : VK} (h : IxR X r) (q : r x y H Q) : BIx X x y H Q := fun value slice pins s σ v u I r1 r2 e => h value slice pins s σ H x y v u Q I r1 r2 q e
def BSl (X : Cx) : V → Option Int → Option Int → Hp → VK → Prop := fun x lo hi H Q => ∀ (pins : List (Addr × Obj)) (s : Shared) (σ : L2.St) (v vl vu : Value) (sl : Addr), Inv X pins σ H s → RelV x v → s.heap.IsSliceOf sl vl vu .none → IsPart vl lo → IsPart vu hi →
    ∃ T id, typeLookup (.type T) "__getitem__" = pure (some (.builtin id)) ∧ s.TypeIs v T ∧ wpAny (model X.prog X.w) X.A (getItem v (.ref sl)) (EP X pins σ Q) X.xe s
theorem sl_self {X : Cx} : SlR X (BSl X) := fun pins s σ H x v vl vu lo hi sl Q I r1 h1 h2 h3 h => h pins s σ v vl vu sl I r1 h1 h2 h3
theorem bsl_of {X : Cx} {r : V → Option Int → Option Int → Hp → VK → Prop} {x : V} {lo hi : Option Int} {H : Hp} {Q : VK} (h : SlR X r) (q : r x lo hi H Q) : BSl X x lo hi H Q := fun pins s σ v vl vu sl I r1 h1 h2 h3 => h pins s σ H x v vl vu lo hi sl Q I r1 h1 h2 h3 q
def BM (X : Cx) (id : String) : V → List V → Hp → VK → Prop := fun x xs H Q => ∀ (pins : List (Addr × Obj)) (s : Shared) (σ : L2.St) (v : Value) (us : List Value), Inv X pins σ H s → RelV x v → Vals xs us → wpAny (model X.prog X.w) X.A (call (.builtin id) (v :: us)) (EP X pins σ Q) X.xe s

/-! ### what is kept -/
structure Kp (W W' : Wl) : Prop where
  hd : W'.hd = W.hd
  sr : W'.sr = W.sr
  ex : Same W.h W'.h
theorem Kp.refl (W : Wl) : Kp W W := ⟨rfl, rfl, Same.refl _⟩
theorem Kp.trans {a b c : Wl} (x : Kp a b) (y : Kp b c) : Kp a c := ⟨y.hd.trans x.hd, y.sr.trans x.sr, x.ex.trans y.ex⟩
def Wl.put (W : Wl) (H : Hp) : Wl := { W with h := H }
theorem Kp.new {W : Wl} {p : Addr} {o : HO} (h : W.h p = none) : Kp W (W.put (upd W.h p o)) := ⟨rfl, rfl, fun a u e => by
  show upd W.h p o a = some u
  rw [upd_ne (ne_of_none e h)]
  exact e⟩
theorem Kp.fm {W W' : Wl} (k : Kp W W') : Fm W W' := ⟨fun a o e _ => k.ex a o e, .inr k.sr, fun x y c e n => by
  rw [k.sr, n] at e; cases e⟩
theorem Kp.le {W W' : Wl} (k : Kp W W') : Le W W' := k.fm.le fun a h => .inl (by rw [← k.hd]; exact h)
theorem vis_sub (W : Wl) : Same W.vis W.h := fun _ _ e => (vis_some e).1
theorem Kp.vis {W W' : Wl} (k : Kp W W') : Same W.vis W'.vis := k.le.ex
/-- a new object is seen -/
theorem vis_new {W : Wl} {p : Addr} {o : HO} (hp : W.h p = none) (hk : HdOk W) (hs : ∀ x y c, W.sr = some (x, y, c) → W.h c ≠ none) : (W.put (upd W.h p o)).vis p = some o :=
  vis_of upd_same (fun z => hk p z hp) fun x y e => hs x y p e hp

structure SR (m : Md) (W0 W : Wl) (σ : L2.St) (env : List Sl) (w : Wd) : Prop where
  len : env.length = σ.length
  val : ∀ (i : Nat) (d : D), env[i]? = some (Sl.val d) → ∃ v, σ[i]? = some (some v) ∧ RW m W v d
  own : ∀ (i : Nat) (xs : List D), env[i]? = some (Sl.own xs) → ∃ p vs, σ[i]? = some (some (V.ref p)) ∧ W.hd p ∧ W0.h p = none ∧ W.h p = some (HO.lst vs) ∧ (∀ x y, W.sr ≠ some (x, y, p)) ∧ RWs m W vs xs
  ap : ∀ (i j : Nat) (p : Addr) (xs ys : List D), env[i]? = some (Sl.own xs) → env[j]? = some (Sl.own ys) → σ[i]? = some (some (V.ref p)) → σ[j]? = some (some (V.ref p)) → i = j
  wr : WR m W w
  hdok : HdOk W
  fm : Fm W0 W
  hd0 : ∀ a, W0.hd a → W.hd a
  hd1 : ∀ a, W.hd a → W0.hd a ∨ W0.h a = none
  hdok0 : HdOk W0
theorem WR.place {m : Md} {W : Wl} {w : Wd} (h : WR m W w) : ∀ x y c, W.sr = some (x, y, c) → W.h c ≠ none := by
  intro x y c e z
  cases w with
  | none =>
    have h : W.sr = none := h
    rw [h] at e; cases e
  | some p =>
    obtain ⟨ds, n⟩ := p
    obtain ⟨a, b, c', e', _, _, hc, _⟩ := h
    rw [e] at e'; cases e'
    rw [z] at hc; cases hc
theorem WR.kp {m : Md} {W W' : Wl} {w : Wd} (h : WR m W w) (k : Kp W W') : WR m W' w := by
  cases w with
  | none => exact k.sr.trans h
  | some p =>
    obtain ⟨ds, n⟩ := p
    obtain ⟨a, b, c, e, h1, h2, h3, h4⟩ := h
    exact ⟨a, b, c, k.sr.trans e, k.vis _ _ h1, k.vis _ _ h2, k.ex _ _ h3, by rw [k.hd]; exact h4⟩
theorem HdOk.kp {W W' : Wl} (h : HdOk W) (k : Kp W W') : HdOk W' := fun a ha z => by
  rw [k.hd] at ha
  cases e : W.h a with
  | none => exact h a ha e
  | some o =>
    have := k.ex a o e
    rw [z] at this; cases this
theorem SR.kp {m : Md} {W0 W W' : Wl} {σ : L2.St} {env : List Sl} {w : Wd} (r : SR m W0 W σ env w) (k : Kp W W') : SR m W0 W' σ env w where
  len := r.len
  val := fun i d e => by
    obtain ⟨v, h1, h2⟩ := r.val i d e
    exact ⟨v, h1, k.le.rp h2⟩
  own := fun i xs e => by
    obtain ⟨p, vs, h1, h2, h3, h4, h5, h6⟩ := r.own i xs e
    exact ⟨p, vs, h1, by rw [k.hd]; exact h2, h3, k.ex _ _ h4, by rw [k.sr]; exact h5, k.le.rps h6⟩
  ap := r.ap
  wr := r.wr.kp k
  hdok := r.hdok.kp k
  fm := r.fm.trans k.fm
  hd0 := fun a h => by rw [k.hd]; exact r.hd0 a h
  hd1 := fun a h => r.hd1 a (by rw [← k.hd]; exact h)
  hdok0 := r.hdok0

/-! ### data as the library's -/
section
variable {m : Md} {sr : Option (Addr × Addr × Addr)} {H : Hp}
mutual
theorem Rp.dp : ∀ {d : D} {v : V} {p : PyData}, Rp m sr H v d → toP d = some p → Dp m.K H v p
  | .non, _, _, .non, e => by cases e; exact .non
  | .bl _, _, _, .bl b, e => by cases e; exact .bl b
  | .int _, _, _, .int b, e => by cases e; exact .int b
  | .str _, _, _, .str b, e => by cases e; exact .str b
  | .lst xs, _, p, .lst h r, e => by
    cases hp : toPs xs with
    | none => unfold toP at e; rw [hp] at e; cases e
    | some q =>
      unfold toP at e; rw [hp] at e; cases e
      exact .lst (SqL.of h) (Rps.dp r hp)
  | .tup xs, _, p, .tup h r, e => by
    cases hp : toPs xs with
    | none => unfold toP at e; rw [hp] at e; cases e
    | some q =>
      unfold toP at e; rw [hp] at e; cases e
      exact .tup h (Rps.dp r hp)
theorem Rps.dp : ∀ {ds : List D} {vs : List V} {ps : List PyData}, Rps m sr H vs ds → toPs ds = some ps → DpAll m.K H vs ps
  | [], _, _, .nil, e => by cases e; exact .nil
  | d :: ds, _, p, .cons r t, e => by
    unfold toPs at e
    cases h1 : toP d with
    | none => rw [h1] at e; cases e
    | some a =>
      cases h2 : toPs ds with
      | none => rw [h1, h2] at e; cases e
      | some b =>
        rw [h1, h2] at e; cases e
        exact .cons (Rp.dp r h1) (Rps.dp t h2)
end
theorem Rp.flat : ∀ {d : D} {v : V}, Rp m sr H v d → flatD d = true → flatV v = true
  | .non, _, .non, _ => rfl
  | .bl _, _, .bl _, _ => rfl
  | .int _, _, .int _, _ => rfl
  | .str _, _, .str _, _ => rfl
theorem Rps.flat : ∀ {ds : List D} {vs : List V}, Rps m sr H vs ds → ds.all flatD = true → vs.all flatV = true
  | [], _, .nil, _ => rfl
  | d :: ds, _, .cons r t, e => by
    rw [List.all_cons, Bool.and_eq_true] at e
    rw [List.all_cons, r.flat e.1, Rps.flat t e.2]
    rfl
theorem Rp.eqF {a b : D} {x y : V} (ra : Rp m sr H x a) (rb : Rp m sr H y b) (fa : flatD a = true) (fb : flatD b = true) : eqV x y = eqF a b := by
  cases ra <;> first | (cases fa; done) | (cases rb <;> first | (cases fb; done) | rfl)
theorem Rps.inV {x : V} {a : D} (ra : Rp m sr H x a) (fa : flatD a = true) : ∀ {ds : List D} {vs : List V}, Rps m sr H vs ds → ds.all flatD = true → L2.inV x vs = ds.any fun y => Pv.eqF y a
  | [], _, .nil, _ => rfl
  | d :: ds, _, .cons (v := v) (vs := vs) r t, e => by
    rw [List.all_cons, Bool.and_eq_true] at e
    show (eqV v x || vs.any fun y => eqV y x) = _
    rw [List.any_cons, r.eqF ra e.1 fa]
    exact congrArg _ (Rps.inV ra fa t e.2)
end
end Pv
end
section
set_option linter.all false
set_option autoImplicit false
set_option maxRecDepth 100000
namespace PvNe
open PySem PySem.TypeEq PyProof.Rows
open Sem (wp)
theorem slot_type_ne : Slot "type" (cmpInfo .NotEq).2.1 "object.__ne__" :=
  .of (owner := "object") (n := "__ne__") (by rw [typeLookup_type, builtinLookup_eq_fast]; kernel_rfl) (by decide +kernel) (by decide +kernel) (by decide +kernel)
    (by first | exact .inl (by decide +kernel) | exact .inr (by decide +kernel)) (by rw [isSubtype_type]; kernel_rfl)
section
variable {prog : Program} {w : World} {A : Around} {E : Value → Shared → Prop} {s : Shared}
theorem ne_entry_same {X : String} (hX : ∀ s' : Shared, s'.TypeIs (.type X) "type") {Q : Fin → Shared → Prop} (h : Q (.done (.ret (.bool false))) s) :
    wpAny (model prog w) A (Builtin.«object.__ne__» ⟨[.type X, .type X], []⟩) Q E s := by
  unfold Builtin.«object.__ne__»
  refine wpAny_bind (wpAny_of_eq (show slotArgs "__ne__" 1 ⟨[.type X, .type X], []⟩ = pure (.type X, [.type X]) from rfl) ?_)
  refine wpAny_bind (wpAny_cRoomFor_or (.inl rfl) ?_)
  refine wpAny_bind (wpAny_callSpecialIfBound?_slot (hX s) slot_type_eq (call_gives slot_type_eq (hX s) F.entry_object_eq (F.args_object_eq_2 _ _) (object_eq_same rfl (by simp)) ?_))
  exact wpAny_bind (wpAny_truthy_bool (wpAny_pure h))
theorem ne_entry_other {X Y : String} (hX : ∀ s' : Shared, s'.TypeIs (.type X) "type") (hne : (Value.type X == Value.type Y) = false) {Q : Fin → Shared → Prop} (h : Q (.done (.ret .notImplemented)) s) :
    wpAny (model prog w) A (Builtin.«object.__ne__» ⟨[.type X, .type Y], []⟩) Q E s := by
  unfold Builtin.«object.__ne__»
  refine wpAny_bind (wpAny_of_eq (show slotArgs "__ne__" 1 ⟨[.type X, .type Y], []⟩ = pure (.type X, [.type Y]) from rfl) ?_)
  refine wpAny_bind (wpAny_cRoomFor_or (.inl rfl) ?_)
  refine wpAny_bind (wpAny_callSpecialIfBound?_slot (hX s) slot_type_eq (call_gives slot_type_eq (hX s) F.entry_object_eq (F.args_object_eq_2 _ _) (object_eq_other rfl hne) ?_))
  exact wpAny_pure h
theorem ne_type_same {X : String} (hX : ∀ s' : Shared, s'.TypeIs (.type X) "type") {Q : Value → Shared → Prop} (h : Q (.bool false) s) : wpAny (model prog w) A (compareOp .NotEq (.type X) (.type X)) Q E s := by
  show wpAny _ A (richCompare .NotEq _ _) Q E s
  exact wpAny_richCompare_same (T := "type") (hX s) (hX s) slot_type_ne
    (wpAny_call_entry slot_type_ne (hX s) PySem.F.cmpEntry_ne (ne_entry_same hX ⟨_, rfl, (by intro e; cases e), h⟩) (PySem.F.cmpArgs_ne _ _))
theorem ne_type_other {X Y : String} (hX : ∀ s' : Shared, s'.TypeIs (.type X) "type") (hY : ∀ s' : Shared, s'.TypeIs (.type Y) "type") (hne : (Value.type X == Value.type Y) = false) {Q : Value → Shared → Prop} (h : Q (.bool true) s) :
    wpAny (model prog w) A (compareOp .NotEq (.type X) (.type Y)) Q E s := by
  have hne' : (Value.type Y == Value.type X) = false := by
    rw [Bool.eq_false_iff] at hne ⊢
    intro e
    exact hne (by rw [beq_iff_eq] at e ⊢; exact e.symm)
  show wpAny _ A (richCompare .NotEq _ _) Q E s
  have hc : wpAny (model prog w) A (call (.builtin "object.__ne__") [.type X, .type Y]) (fun v s₁ => v = .notImplemented ∧ wpAny (model prog w) A (call (.builtin "object.__ne__") [.type Y, .type X]) (fun v s₂ => v = .notImplemented ∧ Q (.bool true) s₂) E s₁) E s :=
    wpAny_call_entry slot_type_ne (hX s) PySem.F.cmpEntry_ne (ne_entry_other hX hne ⟨_, rfl, rfl, wpAny_call_entry slot_type_ne (hY s) PySem.F.cmpEntry_ne (ne_entry_other hY hne' ⟨_, rfl, rfl, h⟩) (PySem.F.cmpArgs_ne _ _)⟩) (PySem.F.cmpArgs_ne _ _)
  have h1 : Slot "type" (cmpInfo .NotEq).2.1 "object.__ne__" := slot_type_ne
  have h2 : Slot "type" (cmpInfo .NotEq).2.2 "object.__ne__" := slot_type_ne
  rcases hi : cmpInfo CmpOp.NotEq with ⟨sym, f, r⟩
  rw [hi] at h1 h2
  simp only [richCompare, hi, (hX s).oneThing_none]
  try with_reducible refine wpAny_holding ?_
  refine wpAny_bind (wpAny_cRoomFor_or (.inl rfl) ?_)
  refine wpAny_bind (wpAny_typeOf (hX s) (wpAny_bind (wpAny_typeOf (hY s) ?_)))
  simp only [bne_self_eq_false, Bool.false_eq_true, if_false, pure_bind, Bool.not_false, if_true]
  refine wpAny_bind (m := tryCompare (.type X) _ (.type Y)) (wpAny_tryCompare_declines (hX s) h1 (wpAny_mono hc (fun v s₁ h₁ => ⟨h₁.1, ?_⟩) fun _ _ x => x))
  refine wpAny_bind (m := tryCompare (.type Y) _ (.type X)) (wpAny_tryCompare_declines (hY s₁) h2 (wpAny_mono h₁.2 (fun v s₂ h₂ => ⟨h₂.1, ?_⟩) fun _ _ x => x))
  refine wpAny_bind (wpAny_rule (wpAny_bind (wpAny_of_eq (show isSame (.type X) (.type Y) = pure false by rw [isSame_plain rfl, hne]) (wpAny_pure h₂.2))))
end
end PvNe
end
section
set_option Elab.async false
set_option linter.all false
set_option autoImplicit false
set_option maxRecDepth 100000
set_option maxHeartbeats 1000000
/-! Operations on data, in the heap. -/
namespace Pv
open PySem PySem.Spec PyProof.Rows L2

abbrev mdOf (X : Cx) : Md := ⟨X.K, X.mg⟩
structure Gd (W : Wl) : Prop where
  hk : HdOk W
  hs : ∀ x y c, W.sr = some (x, y, c) → W.h c ≠ none
theorem SR.gd {m : Md} {W0 W : Wl} {σ : L2.St} {env : List Sl} {w : Wd} (r : SR m W0 W σ env w) : Gd W := ⟨r.hdok, r.wr.place⟩
theorem sm {n : Nat} (h : small n = true) : n ≤ sizeLine := Nat.le_trans (of_decide_eq_true h) (by decide)
theorem sm_lt {n : Nat} (h : small n = true) : n < sizeLine := Nat.lt_of_le_of_lt (of_decide_eq_true h) (by decide)
theorem lt_sm {n : Nat} (h : n < 100000) : n < sizeLine := Nat.lt_trans h (by decide)

section
variable {X : Cx} {W : Wl} {Q : VK} {x y : V} {a b d : D}
/-- the new list, the new tuple -/
theorem new_lst (g : Gd W) {vs : List V} {ds : List D} (r : RWs (mdOf X) W vs ds) (q : ∀ v W', Kp W W' → RW (mdOf X) W' v (.lst ds) → Q v W'.h) : ∀ p, W.h p = none → Q (.ref p) (upd W.h p (.lst vs)) := fun p hp =>
  q (.ref p) (W.put (upd W.h p (.lst vs))) (Kp.new hp) (.lst (vis_new hp g.hk g.hs) ((Kp.new hp).le.rps r))
theorem new_tup (g : Gd W) {vs : List V} {ds : List D} (r : RWs (mdOf X) W vs ds) (q : ∀ v W', Kp W W' → RW (mdOf X) W' v (.tup ds) → Q v W'.h) : ∀ p, W.h p = none → Q (.ref p) (upd W.h p (.tup vs)) := fun p hp =>
  q (.ref p) (W.put (upd W.h p (.tup vs))) (Kp.new hp) (.tup (SqT.of (vis_new hp g.hk g.hs)) ((Kp.new hp).le.rps r))
theorem Rps.replicate {m : Md} {sr : Option (Addr × Addr × Addr)} {H : Hp} {vs : List V} {ds : List D} (r : Rps m sr H vs ds) : ∀ k : Nat, Rps m sr H (List.replicate k vs).flatten (List.replicate k ds).flatten
  | 0 => .nil
  | k + 1 => by
    rw [List.replicate_succ, List.replicate_succ, List.flatten_cons, List.flatten_cons]
    exact Rps.append r (Rps.replicate r k)

theorem bin_ok {op : Operator} (g : Gd W) (h : binD op a b = some d) (ra : RW (mdOf X) W x a) (rb : RW (mdOf X) W y b) (q : ∀ v W', Kp W W' → RW (mdOf X) W' v d → Q v W'.h) : B2 X (binaryOp op) x y W.h Q := by
  unfold binD at h
  split at h
  · cases h; cases ra; cases rb
    exact b2_of op_add ⟨_, _, rfl, rfl, q _ W (Kp.refl W) (.int _)⟩
  · cases h; cases ra; cases rb
    exact b2_of op_sub ⟨_, _, rfl, rfl, q _ W (Kp.refl W) (.int _)⟩
  · split at h
    · rename_i hc
      cases h; cases ra; cases rb
      exact b2_of op_mul ⟨_, _, rfl, rfl, hc, q _ W (Kp.refl W) (.int _)⟩
    · cases h
  · split at h
    · rename_i hc
      cases h; cases ra; cases rb
      exact b2_of op_mod ⟨_, _, rfl, rfl, hc, q _ W (Kp.refl W) (.int _)⟩
    · cases h
  · split at h
    · rename_i hc
      cases h; cases ra; cases rb
      exact b2_of op_fdiv ⟨_, _, rfl, rfl, hc, q _ W (Kp.refl W) (.int _)⟩
    · cases h
  · split at h
    · rename_i hc
      cases h
      cases ra with
      | tup ha r1 =>
        cases rb with
        | tup hb r2 =>
          rename_i xs ys va vs vb ws
          refine b2_of op_catA ⟨_, _, _, _, rfl, rfl, sqT_ex (vis_sub W) ha, sqT_ex (vis_sub W) hb, ?_, fun e => ?_, fun e1 e2 => ?_, fun e1 e2 => new_tup g (Rps.append r1 r2) q⟩
          · rw [r1.length, r2.length]; exact sm hc
          · subst e
            have : xs = [] := by
              cases r1; rfl
            subst this
            exact q _ W (Kp.refl W) (.tup hb r2)
          · subst e2
            have : ys = [] := by
              cases r2; rfl
            subst this
            rw [List.append_nil] at q
            exact q _ W (Kp.refl W) (.tup ha r1)
    · cases h
  · split at h
    · rename_i hc
      cases h
      cases ra with
      | lst ha r1 =>
        cases rb with
        | lst hb r2 =>
          refine b2_of op_cat ⟨_, _, _, _, rfl, rfl, vis_sub W _ _ ha, vis_sub W _ _ hb, ?_, new_lst g (Rps.append r1 r2) q⟩
          rw [r1.length, r2.length]; exact sm hc
    · cases h
  · split at h
    · rename_i hc
      cases h
      cases rb
      cases ra with
      | lst ha r1 =>
        refine b2_of op_rep ⟨_, _, _, rfl, rfl, vis_sub W _ _ ha, by omega, by omega, ?_, new_lst g (r1.replicate _) q⟩
        rw [r1.length]; exact sm hc.2.1
    · cases h
  · split at h
    · rename_i hc
      cases h
      cases rb
      cases ra with
      | tup ha r1 =>
        refine b2_of op_repT ⟨_, _, _, rfl, rfl, sqT_ex (vis_sub W) ha, fun z => ?_, hc.1, hc.2.1, by rw [r1.length]; exact hc.2.2.1, new_tup g (r1.replicate _) q⟩
        subst z
        cases r1
        exact absurd hc.2.2.2 (by decide)
    · cases h
  · split at h
    · rename_i hc
      cases h; cases ra; cases rb
      exact b2_of op_add_str ⟨_, _, rfl, rfl, sm hc, q _ W (Kp.refl W) (.str _)⟩
    · cases h
  · cases h

/-! ### comparisons -/
theorem ty_meta {n : String} (hn : n ∈ tyNames) (s' : Shared) : s'.TypeIs (.type n) "type" := by
  unfold tyNames at hn
  simp only [List.mem_cons, List.mem_singleton, List.not_mem_nil, or_false] at hn
  rcases hn with rfl | rfl | rfl | rfl | rfl | rfl | rfl
  · exact PySem.TypeEq.meta_int s'
  · exact PySem.TypeEq.meta_str s'
  · exact PySem.TypeEq.meta_bool s'
  · exact PySem.TypeEq.meta_NoneType s'
  · exact PySem.TypeEq.meta_list s'
  · exact PySem.TypeEq.meta_tuple s'
  · exact PySem.TypeEq.meta_dict s'
theorem ty_ok {s t : String} (h : s ∈ tyNames ∧ t ∈ tyNames) (q : Q (.bl (decide (s = t))) W.h) : B2 X (compareOp .Eq) (.ty s) (.ty t) W.h Q := by
  intro pins sh σ v u I r1 r2
  cases r1; cases r2
  by_cases e : s = t
  · subst e
    rw [decide_eq_true rfl] at q
    exact PySem.TypeEq.eq_type_same (ty_meta h.1) ⟨.bl true, _, I, rfl, q⟩
  · rw [decide_eq_false e] at q
    refine PySem.TypeEq.eq_type_other (ty_meta h.1) (ty_meta h.2) ?_ ⟨.bl false, _, I, rfl, q⟩
    rw [ty_beq]
    exact decide_eq_false e
theorem ty_ne {s t : String} (h : s ∈ tyNames ∧ t ∈ tyNames) (q : Q (.bl (!decide (s = t))) W.h) : B2 X (compareOp .NotEq) (.ty s) (.ty t) W.h Q := by
  intro pins sh σ v u I r1 r2
  cases r1; cases r2
  by_cases e : s = t
  · subst e
    rw [decide_eq_true rfl] at q
    exact PvNe.ne_type_same (ty_meta h.1) ⟨.bl false, _, I, rfl, q⟩
  · rw [decide_eq_false e] at q
    refine PvNe.ne_type_other (ty_meta h.1) (ty_meta h.2) ?_ ⟨.bl true, _, I, rfl, q⟩
    rw [ty_beq]
    exact decide_eq_false e
theorem eq_ok {k : Bool} (hu : X.A.units + 64 < cLine) (h : eqD a b = some k) (ra : RW (mdOf X) W x a) (rb : RW (mdOf X) W y b) (q : Q (.bl k) W.h) : B2 X (compareOp .Eq) x y W.h Q := by
  have gen : ∀ (a b : D), (match toP a, toP b with
    | some p, some q => if SeqAt.shaped p = true ∧ SeqAt.shaped q = true then some (PyData.eqv p q) else none
    | _, _ => none) = some k → RW (mdOf X) W x a → RW (mdOf X) W y b → B2 X (compareOp .Eq) x y W.h Q := by
    intro a b h ra rb
    split at h
    · rename_i p r hp hr
      split at h
      · rename_i hs
        cases h
        exact b2_of (op_eqD hu) ⟨_, _, Rp.dp (Rp.mono (vis_sub W) (.inr rfl) ra) hp, Rp.dp (Rp.mono (vis_sub W) (.inr rfl) rb) hr, hs.1, hs.2, q⟩
      · cases h
    · cases h
  unfold eqD at h
  split at h
  · split at h
    · rename_i hc
      cases h; cases ra; cases rb
      exact ty_ok hc q
    · cases h
  · exact gen _ _ h ra rb
theorem ne_ok {k : Bool} (hu : X.A.units + 64 < cLine) (h : eqD a b = some k) (ra : RW (mdOf X) W x a) (rb : RW (mdOf X) W y b) (nt : ∀ s t, a = .ty s → b = .ty t → False) (q : Q (.bl (!k)) W.h) : B2 X (compareOp .NotEq) x y W.h Q := by
  have gen : ∀ (a b : D), (match toP a, toP b with
    | some p, some q => if SeqAt.shaped p = true ∧ SeqAt.shaped q = true then some (PyData.eqv p q) else none
    | _, _ => none) = some k → RW (mdOf X) W x a → RW (mdOf X) W y b → B2 X (compareOp .NotEq) x y W.h Q := by
    intro a b h ra rb
    split at h
    · rename_i p r hp hr
      split at h
      · rename_i hs
        cases h
        exact b2_of (op_neD hu) ⟨_, _, Rp.dp (Rp.mono (vis_sub W) (.inr rfl) ra) hp, Rp.dp (Rp.mono (vis_sub W) (.inr rfl) rb) hr, hs.1, hs.2, q⟩
      · cases h
    · cases h
  unfold eqD at h
  split at h
  · exact (nt _ _ rfl rfl).elim
  · exact gen _ _ h ra rb
theorem in_ok {xs : List D} {k neg : Bool} (h : inD a xs = some k) (ra : RW (mdOf X) W x a) (rb : (∃ p vs, y = .ref p ∧ (SqL X.K W.h p vs ∨ SqT X.K W.h p vs) ∧ RWs (mdOf X) W vs xs)) :
    (Q (.bl (if neg then !k else k)) W.h → rIn X.K neg x y W.h Q) := by
  intro q
  unfold inD at h
  split at h
  · rename_i hf
    rw [Bool.and_eq_true] at hf
    cases h
    obtain ⟨p, vs, rfl, hs, r⟩ := rb
    refine ⟨p, vs, rfl, hs, ra.flat hf.1, r.flat hf.2, ?_⟩
    rw [Rps.inV ra hf.1 r hf.2]
    exact q
  · cases h
theorem sign_of {s : Str} {c : Nat} (h : s.cps.toList = [c]) : s = ⟨#[c]⟩ := by
  obtain ⟨a⟩ := s
  congr
  exact Array.toList_inj.mp h
theorem cmp_ok {op : CmpOp} {k : Bool} (hu : X.A.units + 64 < cLine) (h : cmpD op a b = some k) (ra : RW (mdOf X) W x a) (rb : RW (mdOf X) W y b) (q : Q (.bl k) W.h) : B2 X (compareOp op) x y W.h Q := by
  unfold cmpD at h
  split at h
  · exact eq_ok hu h ra rb q
  · by_cases ht : ∃ s t, a = .ty s ∧ b = .ty t
    · obtain ⟨s, t, rfl, rfl⟩ := ht
      cases ra; cases rb
      have h2 : (if s ∈ tyNames ∧ t ∈ tyNames then some (decide (s = t)) else none).map (!·) = some k := h
      split at h2
      · rename_i hc
        cases h2
        exact ty_ne hc q
      · cases h2
    · cases he : eqD a b with
      | none => rw [he] at h; cases h
      | some k' =>
        rw [he] at h
        cases h
        exact ne_ok hu he ra rb (fun s t e1 e2 => ht ⟨s, t, e1, e2⟩) q
  · cases h; cases ra; cases rb
    exact b2_of op_lt ⟨_, _, rfl, rfl, q⟩
  · cases h; cases ra; cases rb
    exact b2_of op_le ⟨_, _, rfl, rfl, q⟩
  · cases h; cases ra; cases rb
    exact b2_of op_gt ⟨_, _, rfl, rfl, q⟩
  · cases h; cases ra; cases rb
    exact b2_of op_ge ⟨_, _, rfl, rfl, q⟩
  · split at h
    · rename_i s z _ c hc
      cases h; cases ra; cases rb
      exact b2_of op_in_sign ⟨c, z, by rw [sign_of hc], rfl, q⟩
    · cases h
  · split at h
    · rename_i s z _ c hc
      cases h; cases ra; cases rb
      exact b2_of op_notIn_sign ⟨c, z, by rw [sign_of hc], rfl, q⟩
    · cases h
  · cases rb with
    | tup hb r => exact b2_of op_in_seq (in_ok (neg := false) h ra ⟨_, _, rfl, .inr (sqT_ex (vis_sub W) hb), r⟩ q)
  · cases rb with
    | lst hb r => exact b2_of op_in_seq (in_ok (neg := false) h ra ⟨_, _, rfl, .inl (SqL.of (vis_sub W _ _ hb)), r⟩ q)
  · obtain ⟨k', hi, e⟩ := Option.map_eq_some_iff.mp h
    subst e
    · cases rb with
      | tup hb r => exact b2_of op_notIn_seq (in_ok (neg := true) hi ra ⟨_, _, rfl, .inr (sqT_ex (vis_sub W) hb), r⟩ q)
  · obtain ⟨k', hi, e⟩ := Option.map_eq_some_iff.mp h
    subst e
    · cases rb with
      | lst hb r => exact b2_of op_notIn_seq (in_ok (neg := true) hi ra ⟨_, _, rfl, .inl (SqL.of (vis_sub W _ _ hb)), r⟩ q)
  · cases rb
    have hk : decide (x = V.non) = k := by
      cases ra <;> first | (cases h; rfl) | (cases h; done)
    exact b2_of op_isN ⟨rfl, by rw [hk]; exact q⟩
  · cases rb
    have hk : (!decide (x = V.non)) = k := by
      cases ra <;> first | (cases h; rfl) | (cases h; done)
    exact b2_of op_notN ⟨rfl, by rw [hk]; exact q⟩
  · cases h

/-! ### truth, items, slices -/
theorem tru_ok' {k : Bool} (h : truD a = some k) (ra : RW (mdOf X) W x a) : TruV X.K x W.h k := by
  unfold truD at h
  split at h
  · cases h; cases ra; rfl
  · cases h; cases ra; rfl
  · cases h; cases ra; rfl
  · split at h
    · rename_i hc
      cases h; cases ra
      exact ⟨sm hc, rfl⟩
    · cases h
  · cases h
    cases ra with
    | lst ha r =>
      refine .inl ⟨_, SqL.of (vis_sub W _ _ ha), ?_⟩
      cases r <;> rfl
  · cases h
    cases ra with
    | tup ha r =>
      refine .inr (.inl ⟨_, sqT_ex (vis_sub W) ha, ?_⟩)
      cases r <;> rfl
  · cases h
theorem at_get {α β : Type} {xs : List α} {ys : List β} {i : Int} {d : α} (hl : ys.length = xs.length) (h : atI xs i = some d) : ∃ j : Nat, xs[j]? = some d ∧ ∀ v : β, ys[j]? = some v → atI ys i = some v := by
  unfold atI at h
  cases e : ixN xs.length i with
  | none => rw [e] at h; cases h
  | some j =>
    rw [e] at h
    refine ⟨j, h, fun v hv => ?_⟩
    unfold atI
    rw [hl, e]
    exact hv
theorem ix_ok (h : ixD a b = some d) (ra : RW (mdOf X) W x a) (rb : RW (mdOf X) W y b) (q : ∀ v, RW (mdOf X) W v d → Q v W.h) : BIx X x y W.h Q := by
  unfold ixD at h
  split at h
  · cases rb
    cases ra with
    | tup ha r =>
      obtain ⟨j, h1, h2⟩ := at_get (ys := _) r.length h
      obtain ⟨v, hv, rv⟩ := r.get h1
      exact bix_of ix_tup ⟨_, _, _, _, rfl, rfl, sqT_ex (vis_sub W) ha, h2 v hv, q v rv⟩
  · cases rb
    cases ra with
    | lst ha r =>
      obtain ⟨j, h1, h2⟩ := at_get (ys := _) r.length h
      obtain ⟨v, hv, rv⟩ := r.get h1
      exact bix_of ix_list ⟨_, _, _, _, rfl, rfl, SqL.of (vis_sub W _ _ ha), h2 v hv, q v rv⟩
  · rename_i ns i
    cases rb
    cases ra with
    | scr ha =>
      cases e : atI ns i with
      | none => rw [e] at h; cases h
      | some z =>
        rw [e] at h; cases h
        obtain ⟨j, h1, h2⟩ := at_get (ys := ns.map V.int) (by simp) e
        exact bix_of ix_list ⟨_, _, _, _, rfl, rfl, sqL_ex (vis_sub W) ha, h2 (.int z) (by rw [List.getElem?_map, h1]; rfl), q _ (.int z)⟩
  · split at h
    · rename_i z i hc
      cases ra; cases rb
      cases e : atI z.cps.toList i with
      | none => rw [e] at h; cases h
      | some c =>
        rw [e] at h; cases h
        exact bix_of ix_str ⟨_, _, c, rfl, rfl, sm hc, e, q _ (.str _)⟩
    · cases h
  · cases h
theorem Rps.cut {m : Md} {sr : Option (Addr × Addr × Addr)} {H : Hp} {vs : List V} {ds : List D} (r : Rps m sr H vs ds) (lo hi : Option Int) : Rps m sr H (cutV vs lo hi) (cutD ds lo hi) := by
  unfold cutV cutD
  rw [r.length]
  exact Rps.take _ (Rps.drop _ r)
theorem sIx_le' (n d : Nat) (hd : d ≤ n) (o : Option Int) : HT.sIx n d o ≤ n := HT.sIx_le n d hd o
theorem cutD_whole {α : Type} {xs : List α} {lo hi : Option Int} (h : HT.sIx xs.length 0 lo = 0 ∧ HT.sIx xs.length xs.length hi = xs.length) : cutD xs lo hi = xs := by
  unfold cutD
  rw [h.1, h.2]
  simp
theorem slice_ok {lo hi : Option Int} (g : Gd W) (h : sliceD a lo hi = some d) (ra : RW (mdOf X) W x a) (q : ∀ v W', Kp W W' → RW (mdOf X) W' v d → Q v W'.h) : BSl X x lo hi W.h Q := by
  unfold sliceD at h
  split at h
  · cases h
    cases ra with
    | tup ha r =>
      refine bsl_of sl_tupA ⟨_, _, rfl, sqT_ex (vis_sub W) ha, fun e => ?_, fun _ => new_tup g (r.cut lo hi) q⟩
      rw [r.length] at e
      have e2 := cutD_whole (xs := _) e
      rw [e2] at q
      exact q _ W (Kp.refl W) (.tup ha r)
  · cases h
    cases ra with
    | lst ha r => exact bsl_of sl_list ⟨_, _, rfl, SqL.of (vis_sub W _ _ ha), new_lst g (r.cut lo hi) q⟩
  · cases h
end
end Pv
end
section
set_option Elab.async false
set_option linter.all false
set_option autoImplicit false
set_option maxRecDepth 100000
set_option maxHeartbeats 1000000
/-! Built-in functions on data, in the heap. -/
namespace Pv
open PySem PySem.Spec PyProof.Rows L2

theorem mapM_of {α : Type} {f : D → Option α} {g : α → D} (hf : ∀ d a, f d = some a → d = g a) : ∀ {xs : List D} {bs : List α}, xs.mapM f = some bs → xs = bs.map g
  | [], bs, h => by
    simp at h; subst h; rfl
  | x :: xs, bs, h => by
    rw [List.mapM_cons] at h
    cases hx : f x with
    | none => rw [hx] at h; cases h
    | some a =>
      rw [hx] at h
      cases hr : xs.mapM f with
      | none =>
        rw [hr] at h; cases h
      | some r =>
        rw [hr] at h
        cases h
        rw [List.map_cons, ← hf x a hx, ← mapM_of hf hr]
theorem bls_of {xs : List D} {bs : List Bool} (h : blsOf xs = some bs) : xs = bs.map D.bl := mapM_of (fun d a e => by
  unfold blOf at e; split at e
  · cases e; rfl
  · cases e) h
theorem ints_of {xs : List D} {bs : List Int} (h : intsOf xs = some bs) : xs = bs.map D.int := mapM_of (fun d a e => by
  unfold intOf at e; split at e
  · cases e; rfl
  · cases e) h
theorem strs_of {xs : List D} {bs : List Str} (h : strsOf xs = some bs) : xs = bs.map D.str := mapM_of (fun d a e => by
  unfold strOf at e; split at e
  · cases e; rfl
  · cases e) h
theorem bi_fn {f : Str} {id : String} (h : biK f = some (true, id)) : bootBuiltins f = some (.builtin id) := by
  unfold biK at h
  repeat' (split at h)
  all_goals first | (cases h; done) | (rename_i e; subst e; cases h; decide +kernel) | skip
theorem bi_ty {f : Str} {id : String} (h : biK f = some (false, id)) : bootBuiltins f = some (.type id) := by
  unfold biK at h
  repeat' (split at h)
  all_goals first | (cases h; done) | (rename_i e; subst e; cases h; decide +kernel) | skip
/-- own classes that isinstance is asked about -/
structure IsC (K : PySem.W.Frag) (C : Addr) : Prop where
  ins : C8.InsC K C
  no : ∀ t ∈ tyNames, PySem.W.kitOne K (.type t) (.ref C) = some false

section
variable {X : Cx} {W : Wl} {Q : VK}
theorem ty_in {d : D} {t : String} (h : tyD d = some t) : t ∈ tyNames := by
  unfold tyD at h
  split at h <;> first | (cases h; decide) | cases h
theorem tyB_of {d : D} {t : String} {v : V} (h : tyD d = some t) (r : RW (mdOf X) W v d) : TyB X.K W.h v t := by
  unfold tyD at h
  split at h
  · cases h; cases r; exact .non
  · cases h; cases r; exact .bl _
  · cases h; cases r; exact .int _
  · cases h; cases r; exact .str _
  · cases h
    cases r with
    | lst ha _ => exact .lst (SqL.of (vis_sub W _ _ ha))
  · cases h
    cases r with
    | tup ha _ => exact .tup (sqT_ex (vis_sub W) ha)
  · cases h
theorem tyX_of {d : D} {t : String} {v : V} (h : tyD d = some t) (r : RW (mdOf X) W v d) : TyX X.K W.h v (.type t) := by
  unfold tyD at h
  split at h
  · cases h; cases r; exact .base .non
  · cases h; cases r; exact .base (.bl _)
  · cases h; cases r; exact .base (.int _)
  · cases h; cases r; exact .base (.str _)
  · cases h
    cases r with
    | lst ha _ => exact .base (.lst (vis_sub W _ _ ha))
  · cases h
    cases r with
    | tup ha _ =>
      rcases sqT_ex (vis_sub W) ha with (h | ⟨o, h⟩) | ⟨o, its, n, h1, h2, _⟩
      · exact .base (.tup h)
      · exact .fTuple h
      · exact .kTuple h1 h2
  · cases h
theorem bi_ok {cl : Str → Bool} {f : Str} {ds : List D} {d : D} {vs : List V} {k : Bool} {id : String} (hc : X.calm = true) (g : Gd W) (hk : biK f = some (k, id)) (h : biD cl f ds = some d) (rs : RWs (mdOf X) W vs ds)
    (hcl : ∀ c C, cl c = true → X.mg c = some (.ref C) → IsC X.K C) (q : ∀ v W', Kp W W' → RW (mdOf X) W' v d → Q v W'.h) : BC X (if k = true then .builtin id else .type id) vs W.h Q := by
  unfold biD at h
  split at h
  · rename_i e; subst e
    have : k = true ∧ id = "len" := by
      have : biK ("len" : Str) = some (true, "len") := rfl
      rw [this] at hk; cases hk; exact ⟨rfl, rfl⟩
    obtain ⟨rfl, rfl⟩ := this
    rw [if_pos rfl]
    split at h
    · cases h
      cases rs with | cons r t => cases t; cases r with
        | lst ha r =>
          have q' := q (.int _) W (Kp.refl W) (.int _)
          rw [← r.length] at q'
          exact bc_of call_len ⟨_, _, rfl, .inl ⟨_, SqL.of (vis_sub W _ _ ha), rfl⟩, q'⟩
    · cases h
      cases rs with | cons r t => cases t; cases r with
        | tup ha r =>
          have q' := q (.int _) W (Kp.refl W) (.int _)
          rw [← r.length] at q'
          exact bc_of call_len ⟨_, _, rfl, .inr ⟨_, sqT_ex (vis_sub W) ha, rfl⟩, q'⟩
    · cases h
      cases rs with | cons r t => cases t; cases r with
        | scr ha =>
          have q' := q (.int _) W (Kp.refl W) (.int _)
          exact bc_of call_len ⟨_, _, rfl, .inl ⟨_, sqL_ex (vis_sub W) ha, rfl⟩, by rw [List.length_map]; exact q'⟩
    · split at h
      · rename_i hs
        cases h
        cases rs with | cons r t => cases t; cases r with
          | str x => exact bc_of call_len ⟨_, _, rfl, ⟨sm hs, rfl⟩, q (.int _) W (Kp.refl W) (.int _)⟩
      · cases h
    · cases h
  split at h
  · rename_i e; subst e
    have : k = false ∧ id = "int" := by
      have : biK ("int" : Str) = some (false, "int") := rfl
      rw [this] at hk; cases hk; exact ⟨rfl, rfl⟩
    obtain ⟨rfl, rfl⟩ := this
    rw [if_neg Bool.false_ne_true]
    split at h
    · cases h
      cases rs with | cons r t => cases t; cases r; exact bc_of call_int1 (.inl ⟨_, rfl, q _ W (Kp.refl W) (.int _)⟩)
    · cases h
      cases rs with | cons r t => cases t; cases r; exact bc_of call_int1 (.inr ⟨_, rfl, q _ W (Kp.refl W) (.int _)⟩)
    · cases h
  split at h
  · rename_i e; subst e
    have : k = true ∧ id = "abs" := by
      have : biK ("abs" : Str) = some (true, "abs") := rfl
      rw [this] at hk; cases hk; exact ⟨rfl, rfl⟩
    obtain ⟨rfl, rfl⟩ := this
    rw [if_pos rfl]
    split at h
    · cases h
      cases rs with | cons r t => cases t; cases r; exact bc_of call_abs ⟨_, rfl, q _ W (Kp.refl W) (.int _)⟩
    · cases h
  split at h
  · rename_i e; subst e
    have : k = false ∧ id = "type" := by
      have : biK ("type" : Str) = some (false, "type") := rfl
      rw [this] at hk; cases hk; exact ⟨rfl, rfl⟩
    obtain ⟨rfl, rfl⟩ := this
    rw [if_neg Bool.false_ne_true]
    split at h
    · cases h
      cases rs with | cons r t' => cases t'; cases r with
        | dct ha => exact bc_of call_type1 ⟨_, _, rfl, .dK (vis_sub W _ _ ha), q _ W (Kp.refl W) (.ty _)⟩
    · obtain ⟨t, ht, e⟩ := Option.map_eq_some_iff.mp h
      subst e
      cases rs with | cons r t' => cases t'; exact bc_of call_type1 ⟨_, _, rfl, tyB_of ht r, q _ W (Kp.refl W) (.ty _)⟩
    · cases h
  split at h
  · rename_i e; subst e
    have : k = true ∧ id = "isinstance" := by
      have : biK ("isinstance" : Str) = some (true, "isinstance") := rfl
      rw [this] at hk; cases hk; exact ⟨rfl, rfl⟩
    obtain ⟨rfl, rfl⟩ := this
    rw [if_pos rfl]
    split at h
    · obtain ⟨t, ht, h2⟩ := Option.bind_eq_some_iff.mp h
      obtain ⟨r, hr, e⟩ := Option.map_eq_some_iff.mp h2
      subst e
      cases rs with | cons r1 t1 => cases t1 with | cons r2 t2 =>
        cases t2; cases r2
        exact bc_of call_isi ⟨_, _, _, _, _, rfl, .ty _, tyX_of ht r1, kit_ty hr, q _ W (Kp.refl W) (.bl _)⟩
    · split at h
      · rename_i hh
        rw [Bool.and_eq_true] at hh
        have e := of_decide_eq_true hh.1
        subst e
        cases h
        cases rs with | cons r1 t1 => cases t1 with | cons r2 t2 =>
          cases t2
          cases r2 with
          | glo hg =>
            cases r1 with
            | ins h1 h2 h3 h4 h5 =>
              rw [hg] at h1
              cases h1
              exact bc_of (C8.call_isC (hcl _ _ hh.2 hg).ins) ⟨_, _, _, rfl, vis_sub W _ _ h2, q _ W (Kp.refl W) (.bl _)⟩
      · cases h
    · split at h
      · rename_i hh
        obtain ⟨t, ht, e⟩ := Option.map_eq_some_iff.mp h
        subst e
        cases rs with | cons r1 t1 => cases t1 with | cons r2 t2 =>
          cases t2
          cases r2 with
          | glo hg => exact bc_of call_isi ⟨_, _, _, _, _, rfl, .own _, tyX_of ht r1, (hcl _ _ hh hg).no _ (ty_in ht), q _ W (Kp.refl W) (.bl _)⟩
      · cases h
    · cases h
  split at h
  · rename_i e; subst e
    have : k = false ∧ id = "tuple" := by
      have : biK ("tuple" : Str) = some (false, "tuple") := rfl
      rw [this] at hk; cases hk; exact ⟨rfl, rfl⟩
    obtain ⟨rfl, rfl⟩ := this
    rw [if_neg Bool.false_ne_true]
    split at h
    · cases h
      cases rs with | cons r t => cases t; cases r with
        | lst ha r => exact bc_of call_tuple_of ⟨_, _, rfl, .inl ⟨SqL.of (vis_sub W _ _ ha), new_tup g r q⟩⟩
    · cases h
      cases rs with | cons r t => cases t; cases r with
        | tup ha r => exact bc_of call_tuple_of ⟨_, _, rfl, .inr ⟨sqT_ex (vis_sub W) ha, q _ W (Kp.refl W) (.tup ha r)⟩⟩
    · cases h
  split at h
  · rename_i e; subst e
    have : k = false ∧ id = "list" := by
      have : biK ("list" : Str) = some (false, "list") := rfl
      rw [this] at hk; cases hk; exact ⟨rfl, rfl⟩
    obtain ⟨rfl, rfl⟩ := this
    rw [if_neg Bool.false_ne_true]
    split at h
    · cases h
      cases rs with | cons r t => cases t; cases r with
        | lst ha r => exact bc_of call_list_of ⟨_, _, rfl, .inl (SqL.of (vis_sub W _ _ ha)), new_lst g r q⟩
    · cases h
      cases rs with | cons r t => cases t; cases r with
        | tup ha r => exact bc_of call_list_of ⟨_, _, rfl, .inr (sqT_ex (vis_sub W) ha), new_lst g r q⟩
    · cases h
  split at h
  · rename_i e; subst e
    have : k = true ∧ id = "all" := by
      have : biK ("all" : Str) = some (true, "all") := rfl
      rw [this] at hk; cases hk; exact ⟨rfl, rfl⟩
    obtain ⟨rfl, rfl⟩ := this
    rw [if_pos rfl]
    split at h
    · obtain ⟨bs, hb, e⟩ := Option.map_eq_some_iff.mp h
      subst e
      have e := bls_of hb
      subst e
      cases rs with | cons r t => cases t; cases r with
        | lst ha r =>
          have e := r.bls
          subst e
          exact bc_of (cr_all hc) ⟨_, _, rfl, SqL.of (vis_sub W _ _ ha), q _ W (Kp.refl W) (.bl _)⟩
    · cases h
  split at h
  · rename_i e; subst e
    have : k = true ∧ id = "any" := by
      have : biK ("any" : Str) = some (true, "any") := rfl
      rw [this] at hk; cases hk; exact ⟨rfl, rfl⟩
    obtain ⟨rfl, rfl⟩ := this
    rw [if_pos rfl]
    split at h
    · obtain ⟨bs, hb, e⟩ := Option.map_eq_some_iff.mp h
      subst e
      have e := bls_of hb
      subst e
      cases rs with | cons r t => cases t; cases r with
        | lst ha r =>
          have e := r.bls
          subst e
          exact bc_of (cr_any hc) ⟨_, _, rfl, SqL.of (vis_sub W _ _ ha), q _ W (Kp.refl W) (.bl _)⟩
    · cases h
  split at h
  · rename_i e; subst e
    have : k = true ∧ id = "sum" := by
      have : biK ("sum" : Str) = some (true, "sum") := rfl
      rw [this] at hk; cases hk; exact ⟨rfl, rfl⟩
    obtain ⟨rfl, rfl⟩ := this
    rw [if_pos rfl]
    split at h
    · obtain ⟨bs, hb, e⟩ := Option.map_eq_some_iff.mp h
      subst e
      have e := ints_of hb
      subst e
      cases rs with | cons r t => cases t; cases r with
        | lst ha r =>
          have e := r.ints
          subst e
          exact bc_of (cr_sum hc) ⟨_, _, rfl, SqL.of (vis_sub W _ _ ha), q _ W (Kp.refl W) (.int _)⟩
    · cases h
  · cases h
end
end Pv
end
section
set_option Elab.async false
set_option linter.all false
set_option autoImplicit false
set_option maxRecDepth 100000
set_option maxHeartbeats 1000000
/-! Promises of defs, the module's facts, the running def's context. -/
namespace Pv
open PySem PySem.Spec PyProof.Rows L2

/-- a def hands back what its function says -/
def spR (m : Md) (np : Nat) (F : Fn) : Sp := fun vs H Q E => ∃ (W : Wl) (w : Wd) (ds : List D) (r : FR), W.h = H ∧ HdOk W ∧ WR m W w ∧ RWs m W vs ds ∧ ds.length = np ∧ F ds w = some r ∧ (match r with
  | .ok d w' => ∀ v W', W'.hd = W.hd → Fm W W' → WR m W' w' → RW m W' v d → Q v W'.h
  | .ex c w' => ∀ W' C, W'.hd = W.hd → Fm W W' → WR m W' w' → m.mg c = some (.ref C) → E (.ref C) none W'.h)
/-- an __init__: what the new instance is -/
def spI (m : Md) (C : Addr) (np : Nat) (F : Fn) : Sp := fun vs H Q E => ∃ (W : Wl) (w : Wd) (x dx : Addr) (as : List V) (ds : List D) (r : FR), vs = .ref x :: as ∧ W.h x = none ∧ W.h dx = none ∧ dx ≠ x ∧ H = upd (upd W.h dx (.own x)) x (.ins C dx []) ∧
  HdOk W ∧ WR m W w ∧ RWs m W as ds ∧ ds.length = np ∧ F ds w = some r ∧ (match r with
  | .ok d w' => ∀ W', W'.hd = W.hd → Fm W W' → WR m W' w' → RW m W' (.ref x) d → Q .non W'.h
  | .ex c w' => ∀ W' C, W'.hd = W.hd → Fm W W' → WR m W' w' → m.mg c = some (.ref C) → E (.ref C) none W'.h)

/-- a class of errors of one's own, called with a text -/
structure ExC (K : PySem.W.Frag) (C : Addr) : Prop where
  ex : ∃ (bmB : List Value) (B newId initId : String), PySem.ExcBaseFacts B newId initId bmB ∧ PySem.W.excIn K C bmB newId = true
  kp : PySem.W.keepIn K (.ref C) = true
  sub : PySem.W.subIn K (.ref C) (.type "BaseException") = some true
  ty : PySem.W.typeIn K (.ref C) = some (.type "type")

/-- a dict of the module from texts to defs -/
structure TabOk (w : World) (K : PySem.W.Frag) (mg : Str → Option Value) (a : Addr) (t : List (Str × Str)) : Prop where
  low : (a == sysModules) = false
  es : ∃ es n, K.lookup a = some ⟨.type "dict", none, .dict es n, #[]⟩ ∧ PySem.W.KeysLit w.params es.toList
  no : ∀ x, t.lookup x = none → PySem.W.nsIn K a x = some none
  yes : ∀ x f, t.lookup x = some f → ∃ q, PySem.W.nsIn K a x = some (some (.ref q)) ∧ mg f = some (.ref q)

structure MF (P : Program) (w : World) (K : PySem.W.Frag) (mg : Str → Option Value) (base : Heap) (c : Cf) (k : Nat) : Prop where
  fn : ∀ x F, c.fn x = some F → ∃ f fd ps, FnOk P w K mg base (L2.CX P w) k f fd ps (spR ⟨K, mg⟩ ps.length F) ∧ mg x = some (.ref f) ∧ PySem.W.keepIn K (.ref f) = true ∧ Binds K fd ps [] ∧ (∀ ds w r, F ds w = some r → ds.length = ps.length)
  mak : ∀ x F, c.mak x = some F → ∃ C f fd ps, Mk K C f ∧ mg x = some (.ref C) ∧ FnOk P w K mg base (L2.CX P w) k f fd ("self" :: ps) (spI ⟨K, mg⟩ C ps.length F) ∧ Binds K fd ("self" :: ps) [] ∧ (∀ ds w r, F ds w = some r → ds.length = ps.length)
  me : ∀ cn mm F, c.me cn mm = some F → ∃ C f fd ps, mg cn = some (.ref C) ∧ Cls K C ∧ Meth K C mm f ∧ FnOk P w K mg base (L2.CX P w) k f fd ps (spR ⟨K, mg⟩ ps.length F) ∧ Binds K fd ps [] ∧ (∀ ds w r, F ds w = some r → ds.length = ps.length)
  con : ∀ x d, c.con x = some d → ∃ u v, mg x = some u ∧ RelV v u ∧ ∀ W : Wl, RW ⟨K, mg⟩ W v d
  cc : ∀ cn f d, c.cc cn f = some d → ∃ C mc v u, mg cn = some (.ref C) ∧ ClX.CRead K C mc ∧ ClX.CVal K C mc f v u ∧ ∀ W : Wl, RW ⟨K, mg⟩ W v d
  bi : ∀ x, c.bi x = true → mg x = none
  exn : ∀ x, c.exn x = true → ∃ C, mg x = some (.ref C) ∧ ExC K C
  cls : ∀ x C, c.cls x = true → mg x = some (.ref C) → IsC K C
  nosp : ∀ cn, c.me cn "__len__" = none ∧ c.me cn "__eq__" = none
  tab : ∀ g t, c.tab g = some t → ∃ a, mg g = some (.ref a) ∧ TabOk w K mg a t
  fl : ∀ cn f, c.fl cn f = true → ∃ C, mg cn = some (.ref C) ∧ Cls K C ∧ NoAttr K C f

structure CO (X : Cx) (c : Cf) (b : Bk) (WW : WX) (k : Nat) : Prop where
  mf : MF X.prog X.w X.K X.mg X.base c k
  room : Room (k + 1) X.A
  N : X.N = b.N
  nd : b.N.Nodup
  sc : X.env.scope = b.sc
  calm : X.calm = true
  sto : ∀ x, isSto b.st x = true → Loc b.sc x ∧ (X.fn x = true ∨ b.sc.names.lookup x = some .local)
  tk : Takes X WW

section
variable {X : Cx} {c : Cf} {b : Bk} {WW : WX} {k : Nat}
theorem CO.units (C : CO X c b WW k) : X.A.units + 64 < cLine := C.room.units
theorem CO.r1 (C : CO X c b WW k) : Room k X.A := C.room.mono (Nat.le_succ k)
theorem slot_at : ∀ {N : List Str} {x : Str} {j i : Nat}, slotOf N x j = some i → j ≤ i ∧ N[i - j]? = some x
  | [], _, _, _, h => by cases h
  | y :: r, x, j, i, h => by
    unfold slotOf at h
    split at h
    · rename_i e
      cases h; subst e
      exact ⟨Nat.le_refl _, by simp⟩
    · obtain ⟨h1, h2⟩ := slot_at h
      refine ⟨by omega, ?_⟩
      have : i - j = (i - (j + 1)) + 1 := by omega
      rw [this]
      simpa using h2
theorem CO.slot (C : CO X c b WW k) {x : Str} {i : Nat} (h : slotOf b.N x 0 = some i) : X.N[i]? = some x := by
  rw [C.N]
  have := (slot_at h).2
  simpa using this
theorem CO.vis (C : CO X c b WW k) {x : Str} (h : isLoc b.sc x = true) : Vis X.env.scope x := by
  rw [C.sc]
  unfold isLoc at h
  unfold Vis
  split at h
  · rename_i e; exact .inl e
  · rename_i e; exact .inr (.inl e)
  · rename_i e; exact .inr (.inr e)
  · cases h
theorem CO.gl (C : CO X c b WW k) {x : Str} (h : isGl b.sc x = true) : Gl X x := by
  show X.env.scope.names.lookup x = some .globalImplicit
  rw [C.sc]
  unfold isGl at h
  split at h
  · rename_i e; exact e
  · cases h
theorem okN_1 {x : Str} (h : okN x = true) : (x == ("__debug__" : Str)) = false := by
  unfold okN at h
  simp only [Bool.and_eq_true, Bool.not_eq_true'] at h
  exact h.1.1
theorem okN_2 {x : Str} (h : okN x = true) : (x == ("__classdict__" : Str)) = false := by
  unfold okN at h
  simp only [Bool.and_eq_true, Bool.not_eq_true'] at h
  exact h.1.2
theorem okN_3 {x : Str} (h : okN x = true) : x ≠ "__name__" := by
  unfold okN at h
  simp only [Bool.and_eq_true, Bool.not_eq_true'] at h
  intro e
  subst e
  exact absurd h.2 (by decide)

/-! ### ends -/
/-- what an expression may do to what is known: nothing new is hidden -/
structure Lx (W W' : Wl) : Prop where
  le : Le W W'
  hd : ∀ a, W'.hd a → W.hd a
theorem Lx.refl (W : Wl) : Lx W W := ⟨Le.refl W, fun _ h => h⟩
theorem Lx.trans {a b c : Wl} (x : Lx a b) (y : Lx b c) : Lx a c := ⟨x.le.trans y.le, fun p h => x.hd p (y.hd p h)⟩
theorem Kp.lx {W W' : Wl} (k : Kp W W') : Lx W W' := ⟨k.le, fun a h => by rw [← k.hd]; exact h⟩
def Fin {α β : Type} (X : Cx) (WW : WX) (W0 : Wl) (σ : L2.St) (W : Wl) (rep : Wl → β → α → Prop) (r : ER α) (Q : β → Hp → Prop) : Prop := match r with
  | .ok a e w => ∀ v W', SR (mdOf X) W0 W' σ e w → Lx W W' → rep W' v a → Q v W'.h
  | .ex c e w => ∀ W' C, SR (mdOf X) W0 W' σ e w → Lx W W' → X.mg c = some (.ref C) → WW (.ref C) none σ W'.h
variable {α β : Type} {W0 W W1 : Wl} {σ : L2.St} {rep : Wl → β → α → Prop} {r : ER α} {Q : β → Hp → Prop}
theorem Fin.le (F : Fin X WW W0 σ W rep r Q) (l : Lx W W1) : Fin X WW W0 σ W1 rep r Q := by
  unfold Fin at F ⊢
  split
  · exact fun v W' s l' h => F v W' s (l.trans l') h
  · exact fun W' C s l' h => F W' C s (l.trans l') h
theorem bnd_inv {α β : Type} {r1 : Option (ER α)} {k : α → List Sl → Wd → Option (ER β)} {r : ER β} (h : bnd r1 k = some r) : (∃ a e w, r1 = some (.ok a e w) ∧ k a e w = some r) ∨ (∃ c e w, r1 = some (.ex c e w) ∧ r = .ex c e w) := by
  unfold bnd at h
  split at h
  · exact .inl ⟨_, _, _, rfl, h⟩
  · cases h; exact .inr ⟨_, _, _, rfl, rfl⟩
  · cases h
/-- behind a call: what the def knows -/
theorem SR.call {m : Md} {W0 W W' : Wl} {σ : L2.St} {e : List Sl} {w w' : Wd} (s : SR m W0 W σ e w) (hd : W'.hd = W.hd) (fm : Fm W W') (wr : WR m W' w') : SR m W0 W' σ e w' where
  len := s.len
  val := fun i d h => by
    obtain ⟨v, h1, h2⟩ := s.val i d h
    exact ⟨v, h1, (fm.le fun a h => .inl (by rw [← hd]; exact h)).rp h2⟩
  own := fun i xs h => by
    obtain ⟨p, vs, h1, h2, h3, h4, h5, h6⟩ := s.own i xs h
    refine ⟨p, vs, h1, by rw [hd]; exact h2, h3, fm.1 p _ h4 h5, fun x y e => ?_, (fm.le fun a h => .inl (by rw [← hd]; exact h)).rps h6⟩
    rcases fm.2.1 with z | z
    · have := fm.2.2 x y p e z
      rw [h4] at this; cases this
    · rw [z] at e; exact h5 x y e
  ap := s.ap
  wr := wr
  hdok := fun a h z => by
    rw [hd] at h
    cases e : W.h a with
    | none => exact s.hdok a h e
    | some o =>
      by_cases hp : ∃ x y, W.sr = some (x, y, a)
      · obtain ⟨x, y, hp⟩ := hp
        rcases fm.2.1 with q | q
        · rw [q] at hp; cases hp
        · exact wr.place x y a (q.trans hp) z
      · have := fm.1 a o e (fun x y q => hp ⟨x, y, q⟩)
        rw [z] at this; cases this
  fm := s.fm.trans fm
  hd0 := fun a h => by rw [hd]; exact s.hd0 a h
  hd1 := fun a h => s.hd1 a (by rw [← hd]; exact h)
  hdok0 := s.hdok0
theorem hd_le {W W' : Wl} (hd : W'.hd = W.hd) (fm : Fm W W') : Lx W W' := ⟨fm.le fun a h => .inl (by rw [← hd]; exact h), fun a h => by rw [← hd]; exact h⟩
/-- a call's promise, from what is wanted behind it -/
theorem spR_of {F : Fn} {ds : List D} {vs : List V} {w : Wd} {e : List Sl} {fr : FR} {r : ER D} {Q : VK} (s : SR (mdOf X) W0 W σ e w) (h : F ds w = some fr) (hr : ofF (some fr) e = some r) (rs : RWs (mdOf X) W vs ds) (Fi : Fin X WW W0 σ W (RW (mdOf X)) r Q) :
    spR (mdOf X) ds.length F vs W.h Q (WE WW σ) := by
  refine ⟨W, w, ds, fr, rfl, s.hdok, s.wr, rs, rfl, h, ?_⟩
  cases fr with
  | ok d w' =>
    cases hr
    exact fun v W' hd fm wr rv => Fi v W' (s.call hd fm wr) (hd_le hd fm) rv
  | ex c w' =>
    cases hr
    exact fun W' C hd fm wr hm => Fi W' C (s.call hd fm wr) (hd_le hd fm) hm
end
end Pv
end
section
set_option Elab.async false
set_option linter.all false
set_option autoImplicit false
set_option maxRecDepth 100000
set_option maxHeartbeats 1000000
/-! Calls where what is raised is wished for at the caller's slots; changes of what is known of the slots. -/
namespace Pv
open PySem PySem.Spec PyProof.Rows L2

theorem star_no {x : Expr} {es : List Expr} {env : Env} (h : isStar x = false) : starEach (x :: es) env = (false, eval x env) :: starEach es env := by
  cases x <;> first | rfl | (cases h)
theorem star_any : ∀ {es : List Expr} {env : Env} {pos : Pos}, es.any isStar = false → (backTo pos (starEach es env)).any (·.1) = false
  | [], _, _, _ => rfl
  | x :: es, env, pos, h => by
    rw [List.any_cons, Bool.or_eq_false_iff] at h
    rw [star_no h.1]
    show (false || (backTo pos (starEach es env)).any (·.1)) = false
    rw [star_any h.2]
    rfl
theorem star_len : ∀ {es : List Expr} {env : Env}, (starEach es env).length = es.length
  | [], _ => rfl
  | x :: es, env => by
    cases x <;> exact congrArg (· + 1) star_len
theorem plainIx {s : Expr} (h : isSl s = false) : PlainIx s := by
  intro o i
  cases s <;> first | rfl | (cases h)
theorem base_eq {o : Expr} {f : Str} {env : Env} {w : Sem Value} (h : isCallN o = false) : attributeBase o f env w = w := by
  cases o <;> try rfl
  rename_i fn args kws pos
  cases fn <;> try rfl
  cases args <;> try rfl
  cases kws <;> first | rfl | (cases h)
theorem noMark {op : CmpOp} {e : Expr} (h : isSetX e = false) : behindInMarks op e = false := by
  cases e <;> first | rfl | (cases h)
theorem noMark2 {op op2 : CmpOp} {q e : Expr} (h : isSetX e = false) : lastMarks [op, op2] [q, e] = false := noMark h

section
variable {X : Cx} {CX : CXT} {k : Nat} {f C : Addr} {fd : FuncData} {ps : List Str} {sp : Sp} {E : L2.St → XK} {x m : Str} {p pos apos : Pos} {e o : Expr} {es : List Expr} {ta : TE} {t : TA}
/-- an instance is made, its __init__ may raise -/
def tMakeS (C : Addr) (sp : Sp) (E : L2.St → XK) (t : TA) : TE := fun σ H Q => t σ H fun vs H1 => ∀ x dx, H1 x = none → H1 dx = none → dx ≠ x → sp (.ref x :: vs) (upd (upd H1 dx (.own x)) x (.ins C dx [])) (fun v H2 => v = .non ∧ Q (.ref x) H2) (E σ)
theorem pe_makeS (M : Mk X.K C f) (F : FnOk X.prog X.w X.K X.mg X.base CX k f fd ps sp) (hr : Room (k + 1) X.A) (hg : Gl X x) (hm : X.mg x = some (.ref C)) (hb : Binds X.K fd ps []) (hx : ∀ σ, PassesAt CX X σ (E σ))
    (ha : PA X (e :: es) t) (hdb : (x == ("__debug__" : Str)) = false) (he : starEach (e :: es) X.env = (false, eval e X.env) :: starEach es X.env) (hpl : (backTo pos (starEach es X.env)).any (·.1) = false) :
    PE X (.Call (.Name x p) (e :: es) [] pos) (tMakeS C sp E t) := by
  refine ⟨fun pins s σ H Q I h => ?_⟩
  refine wpAny_Call_Name_kw (ld_glob I hg hm ?_ hdb)
  refine PySem.W.callWith_K (h₀ := X.base) I.ok.mod.kin M.kp (thn (ha.run pos pins s σ H _ I h) fun us s1 ⟨vs, H1, I1, r, q⟩ => ⟨I1.kIn, ?_⟩) he hpl
  have n1 : H1 (s1.heap.objs.size + 1) = none := I1.hok.fresh (Nat.le_succ _)
  have n2 : H1 s1.heap.objs.size = none := I1.hok.fresh (Nat.le_refl _)
  have want := q _ _ n1 n2 (Nat.ne_of_lt (Nat.lt_succ_self _))
  have J := Inv.made (C := C) I1
  have rv : Vals (V.ref (s1.heap.objs.size + 1) :: vs) (Value.ref (s1.heap.objs.size + 1) :: us) := .cons rfl r
  have hl : (Value.ref (s1.heap.objs.size + 1) :: us).length = ps.length := by
    rw [← rv.length]; exact F.len _ _ _ _ want
  have bs := hb _ (Value.ref (s1.heap.objs.size + 1) :: us) J.kIn (by rw [List.append_nil]; exact hl)
  rw [List.append_nil] at bs
  refine wpAny_call (make_map (f := f) I1.kIn M.makes M.init (beq_iff_eq.mp M.fn) (codeAny_mono (F.run _ X.stack _ _ _ _ _ _ (E σ) (hr.make C us []) (J.env0.make C us []) bs rv want) fun rr s' hq => ?_))
  cases rr with
  | error ee => exact hx σ pins _ _ ee s' J hq
  | ok fl =>
    cases fl with
    | ret u =>
      obtain ⟨v, H', J', rv', ev, q3⟩ := J.after hq
      subst ev
      exact ⟨rv', ⟨V.ref (s1.heap.objs.size + 1), H', J', rfl, q3⟩⟩
    | next => exact hq.elim
    | brk => exact hq.elim
    | cont => exact hq.elim
/-- a method that may raise -/
def tMethP (C : Addr) (m : Str) (sp : Sp) (E : L2.St → XK) (ta : TE) (t : TA) : TE := fun σ H Q => ta σ H fun x H1 => ∃ a dx fs, x = .ref a ∧ H1 a = some (.ins C dx fs) ∧ fs.lookup m = none ∧ t σ H1 fun vs H2 => sp (x :: vs) H2 Q (E σ)
theorem meth_tree {args : List Expr} {env : Env} (h1 : isCallN o = false) (h2 : lines apos pos = true) (h3 : args.length < 29) (h4 : args.any isStar = false) :
    eval (.Call (.Attribute o m apos) args [] pos) env = (do
      let ov ← eval o env
      standAt apos.atName
      let (f, first) ← holding [ov] (getMethod ov m (do return (← importBound o env).getD true))
      callWith pos f first (backTo pos (starEach args env)) (backToKw pos (keywordEach [] env))) := by
  have few : methodCallForm (args.length + 0) (backTo pos (starEach args env)) (backToKw pos (keywordEach [] env)) = true := by
    unfold methodCallForm
    have ha : (backTo pos (starEach args env)).all (fun x => !x.1) = true := by
      have := star_any (env := env) (pos := pos) h4
      rw [List.all_eq_not_any_not]
      simpa using this
    rw [ha]
    show (true && true && decide (args.length + 0 + (if ([] : List (Option Str × Sem Value)).isEmpty then 0 else 1) < 30)) = true
    simp
    omega
  have hl : (apos.endLine == pos.line) = true := h2
  have tree : eval (.Call (.Attribute o m apos) args [] pos) env = (do
      let ov ← attributeBase o m env (eval o env)
      standAt apos.atName
      methodCall o m apos pos env ov (args.length + 0) (backTo pos (starEach args env)) (backToKw pos (keywordEach [] env))) := rfl
  rw [tree, base_eq h1]
  unfold methodCall calleeOf methodCallPos
  rw [few]
  simp only [Bool.not_true, Bool.false_or, hl, if_true, pure_bind]
theorem pe_methP (he : PE X o ta) (c : Cls X.K C) (hm : Meth X.K C m f) (F : FnOk X.prog X.w X.K X.mg X.base CX k f fd ps sp) (hr : Room k X.A) (hb : Binds X.K fd ps []) (hx : ∀ σ, PassesAt CX X σ (E σ)) (ha : PA X (e :: es) t)
    (h1 : isCallN o = false) (h2 : lines apos pos = true) (h3 : (e :: es).length < 29) (h4 : (e :: es).any isStar = false) : PE X (.Call (.Attribute o m apos) (e :: es) [] pos) (tMethP C m sp E ta t) := by
  have h5 := h4
  rw [List.any_cons, Bool.or_eq_false_iff] at h5
  refine ⟨fun pins s σ H Q I h => ?_⟩
  refine PySem.W.methodCall_KW (pl := do return (← importBound o X.env).getD true) (thn (he.run pins s σ H _ I h) fun u s1 ⟨x, H1, I1, rx, a, dx, fs, ex, ea, l, q⟩ => ?_) (meth_tree h1 h2 h3 h4)
  subst ex
  obtain rfl : u = Value.ref a := rx
  refine getmeth_ok I1 ea c hm l ?_
  refine PySem.W.callWith_K (first := [.ref a]) (h₀ := X.base) I.ok.mod.kin hm.kp (thn (ha.run pos pins s1 σ H1 _ I1 q) fun us s2 ⟨vs, H2, I2, r, q2⟩ => ⟨I2.kIn, ?_⟩) (star_no h5.1) (star_any h5.2)
  exact run_fnS (us := .ref a :: us) (vs := .ref a :: vs) F hr hb (hx σ) I2 (.cons rfl r) q2
end

/-! ### what is known of the slots changes -/
section
variable {m : Md} {W0 W : Wl} {σ : L2.St} {e : List Sl} {w : Wd}
theorem get_set {α : Type} {l : List α} {i j : Nat} {a b : α} (h : (l.set i a)[j]? = some b) : (i = j ∧ b = a) ∨ (i ≠ j ∧ l[j]? = some b) := by
  rw [List.getElem?_set] at h
  by_cases e : i = j
  · rw [if_pos e] at h
    split at h
    · cases h; exact .inl ⟨e, rfl⟩
    · cases h
  · rw [if_neg e] at h
    exact .inr ⟨e, h⟩
/-- less is known of a slot -/
theorem SR.setUn (s : SR m W0 W σ e w) (i : Nat) : SR m W0 W σ (e.set i .un) w where
  len := by rw [List.length_set]; exact s.len
  val := fun j d h => by
    rcases get_set h with ⟨_, z⟩ | ⟨_, h⟩
    · cases z
    · exact s.val j d h
  own := fun j xs h => by
    rcases get_set h with ⟨_, z⟩ | ⟨_, h⟩
    · cases z
    · exact s.own j xs h
  ap := fun j j' p xs ys h1 h2 => by
    rcases get_set h1 with ⟨_, z⟩ | ⟨_, h1⟩
    · cases z
    rcases get_set h2 with ⟨_, z⟩ | ⟨_, h2⟩
    · cases z
    exact s.ap j j' p xs ys h1 h2
  wr := s.wr
  hdok := s.hdok
  fm := s.fm
  hd0 := s.hd0
  hd1 := s.hd1
  hdok0 := s.hdok0
theorem SR.setVal (s : SR m W0 W σ e w) {i : Nat} {d : D} (h : ∃ v, σ[i]? = some (some v) ∧ RW m W v d) : SR m W0 W σ (e.set i (.val d)) w where
  len := by rw [List.length_set]; exact s.len
  val := fun j d' h' => by
    rcases get_set h' with ⟨q, z⟩ | ⟨_, h'⟩
    · cases z; subst q; exact h
    · exact s.val j d' h'
  own := fun j xs h' => by
    rcases get_set h' with ⟨_, z⟩ | ⟨_, h'⟩
    · cases z
    · exact s.own j xs h'
  ap := fun j j' p xs ys h1 h2 => by
    rcases get_set h1 with ⟨_, z⟩ | ⟨_, h1⟩
    · cases z
    rcases get_set h2 with ⟨_, z⟩ | ⟨_, h2⟩
    · cases z
    exact s.ap j j' p xs ys h1 h2
  wr := s.wr
  hdok := s.hdok
  fm := s.fm
  hd0 := s.hd0
  hd1 := s.hd1
  hdok0 := s.hdok0
/-- what was hidden is shown -/
def Wl.unh (W : Wl) (p : Addr) : Wl := { W with hd := fun a => W.hd a ∧ a ≠ p }
theorem unh_lx (W : Wl) (p : Addr) : Lx W (W.unh p) := ⟨⟨fun a o e => by
  obtain ⟨h1, h2, h3⟩ := vis_some e
  exact vis_of h1 (fun z => h2 z.1) h3, .inr rfl⟩, fun a h => h.1⟩
theorem WR.unh (h : WR m W w) (p : Addr) : WR m (W.unh p) w := by
  cases w with
  | none => exact h
  | some q =>
    obtain ⟨ds, n⟩ := q
    obtain ⟨a, b, c, e1, h1, h2, h3, h4⟩ := h
    exact ⟨a, b, c, e1, (unh_lx W p).le.ex _ _ h1, (unh_lx W p).le.ex _ _ h2, h3, fun z => h4 z.1⟩
theorem SR.unh (s : SR m W0 W σ e w) {p : Addr} (h0 : W0.h p = none) (ho : ∀ (i : Nat) xs, e[i]? = some (Sl.own xs) → σ[i]? ≠ some (some (V.ref p))) : SR m W0 (W.unh p) σ e w where
  len := s.len
  val := fun j d h => by
    obtain ⟨v, h1, h2⟩ := s.val j d h
    exact ⟨v, h1, (unh_lx W p).le.rp h2⟩
  own := fun j xs h => by
    obtain ⟨q, vs, h1, h2, h3, h4, h5, h6⟩ := s.own j xs h
    refine ⟨q, vs, h1, ⟨h2, fun z => ?_⟩, h3, h4, h5, (unh_lx W p).le.rps h6⟩
    subst z
    exact ho j xs h h1
  ap := s.ap
  wr := s.wr.unh p
  hdok := fun a h => s.hdok a h.1
  fm := s.fm
  hd0 := fun a h => ⟨s.hd0 a h, fun z => by
    subst z
    exact s.hdok0 _ h h0⟩
  hd1 := fun a h => s.hd1 a h.1
  hdok0 := s.hdok0
/-- a list that was this def's alone is so no more -/
theorem SR.freeze (s : SR m W0 W σ e w) {i : Nat} {xs : List D} (h : e[i]? = some (Sl.own xs)) :
    ∃ p, σ[i]? = some (some (V.ref p)) ∧ Lx W (W.unh p) ∧ SR m W0 (W.unh p) σ (e.set i (.val (.lst xs))) w ∧ RW m (W.unh p) (.ref p) (.lst xs) := by
  obtain ⟨p, vs, h1, h2, h3, h4, h5, h6⟩ := s.own i xs h
  have rv : RW m (W.unh p) (.ref p) (.lst xs) := .lst (vis_of h4 (fun z => z.2 rfl) h5) ((unh_lx W p).le.rps h6)
  refine ⟨p, h1, unh_lx W p, ?_, rv⟩
  have s1 := (s.setUn i).unh h3 (fun j ys hj hσ => by
    rcases get_set hj with ⟨_, z⟩ | ⟨hne, hj⟩
    · cases z
    · exact hne (s.ap i j p xs ys h hj h1 hσ))
  have s2 := s1.setVal (i := i) ⟨_, h1, rv⟩
  rw [List.set_set] at s2
  exact s2
/-- the slot is given a new value -/
theorem SR.store (s : SR m W0 W σ e w) {i : Nat} {d : D} {v : V} (hi : i < σ.length) (rv : RW m W v d) : SR m W0 W (σ.set i (some v)) (e.set i (.val d)) w where
  len := by rw [List.length_set, List.length_set]; exact s.len
  val := fun j d' h' => by
    rcases get_set h' with ⟨q, z⟩ | ⟨q, h'⟩
    · cases z; subst q
      exact ⟨v, by rw [List.getElem?_set_self hi], rv⟩
    · obtain ⟨u, h1, h2⟩ := s.val j d' h'
      exact ⟨u, by rw [List.getElem?_set_ne q]; exact h1, h2⟩
  own := fun j xs h' => by
    rcases get_set h' with ⟨_, z⟩ | ⟨q, h'⟩
    · cases z
    · obtain ⟨p, vs, h1, h2⟩ := s.own j xs h'
      exact ⟨p, vs, by rw [List.getElem?_set_ne q]; exact h1, h2⟩
  ap := fun j j' p xs ys h1 h2 g1 g2 => by
    rcases get_set h1 with ⟨_, z⟩ | ⟨q1, h1⟩
    · cases z
    rcases get_set h2 with ⟨_, z⟩ | ⟨q2, h2⟩
    · cases z
    rw [List.getElem?_set_ne q1] at g1
    rw [List.getElem?_set_ne q2] at g2
    exact s.ap j j' p xs ys h1 h2 g1 g2
  wr := s.wr
  hdok := s.hdok
  fm := s.fm
  hd0 := s.hd0
  hd1 := s.hd1
  hdok0 := s.hdok0
end
end Pv
end
section
set_option Elab.async false
set_option linter.all false
set_option autoImplicit false
set_option maxRecDepth 100000
set_option maxHeartbeats 1000000
/-! What an expression comes to, as the running def sees it. -/
namespace Pv
open PySem PySem.Spec PyProof.Rows L2

abbrev FinD (X : Cx) (WW : WX) (W0 : Wl) (σ : L2.St) (W : Wl) (r : ER D) (Q : VK) : Prop := Fin X WW W0 σ W (RW (mdOf X)) r Q
abbrev FinB (X : Cx) (WW : WX) (W0 : Wl) (σ : L2.St) (W : Wl) (r : ER Bool) (Q : Bool → Hp → Prop) : Prop := Fin X WW W0 σ W (fun _ k a => k = a) r Q
abbrev FinA (X : Cx) (WW : WX) (W0 : Wl) (σ : L2.St) (W : Wl) (r : ER (List D)) (Q : List V → Hp → Prop) : Prop := Fin X WW W0 σ W (RWs (mdOf X)) r Q
abbrev FinO (X : Cx) (WW : WX) (W0 : Wl) (σ : L2.St) (W : Wl) (r : ER (Option Int)) (Q : Option Int → Hp → Prop) : Prop := Fin X WW W0 σ W (fun _ k a => k = a) r Q
/-- what is walked yields the items -/
def Feeds (X : Cx) (J : It) (W : Wl) (ds : List D) : Prop := ∀ Wi, Le W Wi → Gd Wi → ∀ i : Nat, (∀ d, ds[i]? = some d → J.go i Wi.h ∧ ∀ x H', J.yld i Wi.h x H' → ∃ W', W'.h = H' ∧ Kp Wi W' ∧ RW (mdOf X) W' x d) ∧ (ds.length ≤ i → J.stop i Wi.h)
theorem Feeds.le {X : Cx} {J : It} {W W' : Wl} {ds : List D} (f : Feeds X J W ds) (l : Le W W') : Feeds X J W' ds := fun Wi li g i => f Wi (l.trans li) g i
def RI (X : Cx) (tg iter : Expr) : TI := fun σ H R => ∀ (pins : List (Addr × Obj)) (s : Shared), Inv X pins σ H s → wpAny (model X.prog X.w) X.A (eval iter X.env) (fun v s1 => wpAny (model X.prog X.w) X.A (pyIter v) (PIE X pins σ tg R) X.xe s1) X.xe s
theorem pi_self {X : Cx} {tg iter : Expr} : PI X tg iter (RI X tg iter) := ⟨fun pins s σ H R I h => h pins s I⟩
theorem ri_of {X : Cx} {tg iter : Expr} {wi : TI} {σ : L2.St} {H : Hp} {R : It → Hp → Prop} (h : PI X tg iter wi) (q : wi σ H R) : RI X tg iter σ H R := fun pins s I => h.run pins s σ H R I q
abbrev FinI (X : Cx) (WW : WX) (W0 : Wl) (σ : L2.St) (W : Wl) (r : ER (List D)) (R : It → Hp → Prop) : Prop := Fin X WW W0 σ W (fun W J ds => Feeds X J W ds) r R
/-- a new list, still hidden -/
structure FL (X : Cx) (W0 W W' : Wl) (p : Addr) (ds : List D) : Prop where
  fresh : W0.h p = none
  hid : W'.hd p
  hd : ∀ a, W'.hd a → a = p ∨ W.hd a
  le : Le W W'
  np : ∀ x y, W'.sr ≠ some (x, y, p)
  at_ : ∃ vs, W'.h p = some (HO.lst vs) ∧ RWs (mdOf X) W' vs ds
abbrev FinL (X : Cx) (WW : WX) (W0 : Wl) (σ : L2.St) (W : Wl) (r : ER (List D)) (Q : VK) : Prop := match r with
  | .ok ds e w => ∀ p W', SR (mdOf X) W0 W' σ e w → FL X W0 W W' p ds → (∀ (i : Nat) xs, e[i]? = some (Sl.own xs) → σ[i]? ≠ some (some (V.ref p))) → Q (.ref p) W'.h
  | .ex c e w => ∀ W' C, SR (mdOf X) W0 W' σ e w → Lx W W' → X.mg c = some (.ref C) → WW (.ref C) none σ W'.h

section
variable (c : Cf) (k : Nat)
def S_ev (n : Nat) : Prop := ∀ (X : Cx) (b : Bk) (WW : WX), CO X c b WW k → ∀ (W0 W : Wl) (σ : L2.St) (e : List Sl) (w : Wd) (x : Expr) (r : ER D) (Q : VK), ev c b n x e w = some r → SR (mdOf X) W0 W σ e w → FinD X WW W0 σ W r Q → RE X x σ W.h Q
def S_evT (n : Nat) : Prop := ∀ (X : Cx) (b : Bk) (WW : WX), CO X c b WW k → ∀ (W0 W : Wl) (σ : L2.St) (e : List Sl) (w : Wd) (x : Expr) (r : ER Bool) (Q : Bool → Hp → Prop), evT c b n x e w = some r → SR (mdOf X) W0 W σ e w → FinB X WW W0 σ W r Q → RT X x σ W.h Q
def S_evTs (n : Nat) : Prop := ∀ (X : Cx) (b : Bk) (WW : WX), CO X c b WW k → ∀ (W0 W : Wl) (σ : L2.St) (e : List Sl) (w : Wd) (op : BoolOp) (xs : List Expr) (pos : Pos) (r : ER Bool) (Q : Bool → Hp → Prop), evTs c b n op xs e w = some r → SR (mdOf X) W0 W σ e w → FinB X WW W0 σ W r Q → RV X (.BoolOp op xs pos) σ W.h Q
def S_evB (n : Nat) : Prop := ∀ (X : Cx) (b : Bk) (WW : WX), CO X c b WW k → ∀ (W0 W : Wl) (σ : L2.St) (e : List Sl) (w : Wd) (op : BoolOp) (xs : List Expr) (pos : Pos) (r : ER D) (Q : VK), evB c b n op xs e w = some r → SR (mdOf X) W0 W σ e w → FinD X WW W0 σ W r Q → RE X (.BoolOp op xs pos) σ W.h Q
def S_evs (n : Nat) : Prop := ∀ (X : Cx) (b : Bk) (WW : WX), CO X c b WW k → ∀ (W0 W : Wl) (σ : L2.St) (e : List Sl) (w : Wd) (xs : List Expr) (r : ER (List D)) (Q : List V → Hp → Prop), evs c b n xs e w = some r → SR (mdOf X) W0 W σ e w → FinA X WW W0 σ W r Q → RA X xs σ W.h Q
def S_evO (n : Nat) : Prop := ∀ (X : Cx) (b : Bk) (WW : WX), CO X c b WW k → ∀ (W0 W : Wl) (σ : L2.St) (e : List Sl) (w : Wd) (x : Option Expr) (r : ER (Option Int)) (Q : Option Int → Hp → Prop), evO c b n x e w = some r → SR (mdOf X) W0 W σ e w → FinO X WW W0 σ W r Q → RO X x σ W.h Q
def S_evBi (n : Nat) : Prop := ∀ (X : Cx) (b : Bk) (WW : WX), CO X c b WW k → ∀ (W0 W : Wl) (σ : L2.St) (e : List Sl) (w : Wd) (g : Str) (args : List Expr) (p pos : Pos) (r : ER D) (Q : VK), okN g = true → isGl b.sc g = true → c.bi g = true → args.any isStar = false → evBi c b n g args e w = some r → SR (mdOf X) W0 W σ e w → FinD X WW W0 σ W r Q →
  RE X (.Call (.Name g p) args [] pos) σ W.h Q
def S_evOwn (n : Nat) : Prop := ∀ (X : Cx) (b : Bk) (WW : WX), CO X c b WW k → ∀ (W0 W : Wl) (σ : L2.St) (e : List Sl) (w : Wd) (o : Expr) (i : Nat) (xs : List D) (m : Str) (args : List Expr) (apos pos : Pos) (r : ER D) (Q : VK), ownOf b o e = some (i, xs) → lines apos pos = true → args.length < 29 → args.any isStar = false → evOwn c b n i m args e w = some r → SR (mdOf X) W0 W σ e w → FinD X WW W0 σ W r Q →
  RE X (.Call (.Attribute o m apos) args [] pos) σ W.h Q
def S_evI (n : Nat) : Prop := ∀ (X : Cx) (b : Bk) (WW : WX), CO X c b WW k → ∀ (W0 W : Wl) (σ : L2.St) (e : List Sl) (w : Wd) (tg : Expr) (x : Expr) (r : ER (List D)) (R : It → Hp → Prop), evI c b n tg x e w = some r → SR (mdOf X) W0 W σ e w → FinI X WW W0 σ W r R → RI X tg x σ W.h R
def S_evC (n : Nat) : Prop := ∀ (X : Cx) (b : Bk) (WW : WX), CO X c b WW k → ∀ (W0 W : Wl) (σ : L2.St) (e : List Sl) (w : Wd) (x : Expr) (r : ER (List D)) (Q : VK), evC c b n x e w = some r → SR (mdOf X) W0 W σ e w → FinL X WW W0 σ W r Q → RE X x σ W.h Q
structure S_all (n : Nat) : Prop where
  ev : S_ev c k n
  evT : S_evT c k n
  evTs : S_evTs c k n
  evB : S_evB c k n
  evs : S_evs c k n
  evO : S_evO c k n
  evBi : S_evBi c k n
  evOwn : S_evOwn c k n
  evI : S_evI c k n
  evC : S_evC c k n
end
section
variable {c : Cf} {k n : Nat} {X : Cx} {b : Bk} {WW : WX} {W0 W : Wl} {σ : L2.St} {e : List Sl} {w : Wd} {x : Expr}
/-- an expression, then more -/
theorem bindE {α β : Type} (S : S_ev c k n) (C : CO X c b WW k) (s : SR (mdOf X) W0 W σ e w) {f : D → List Sl → Wd → Option (ER α)} {r : ER α} {rep : Wl → β → α → Prop} {Q : β → Hp → Prop} (h : bnd (ev c b n x e w) f = some r) (F : Fin X WW W0 σ W rep r Q) {R : VK}
    (nx : ∀ d e1 w1 v W1, f d e1 w1 = some r → SR (mdOf X) W0 W1 σ e1 w1 → Lx W W1 → RW (mdOf X) W1 v d → Fin X WW W0 σ W1 rep r Q → R v W1.h) : RE X x σ W.h R := by
  rcases bnd_inv h with ⟨d, e1, w1, h1, h2⟩ | ⟨c', e1, w1, h1, h2⟩
  · exact S X b WW C W0 W σ e w x _ R h1 s fun v W1 s1 l1 r1 => nx d e1 w1 v W1 h2 s1 l1 r1 (F.le l1)
  · subst h2
    exact S X b WW C W0 W σ e w x _ R h1 s F
theorem bindT {α β : Type} (S : S_evT c k n) (C : CO X c b WW k) (s : SR (mdOf X) W0 W σ e w) {f : Bool → List Sl → Wd → Option (ER α)} {r : ER α} {rep : Wl → β → α → Prop} {Q : β → Hp → Prop} (h : bnd (evT c b n x e w) f = some r) (F : Fin X WW W0 σ W rep r Q) {R : Bool → Hp → Prop}
    (nx : ∀ d e1 w1 W1, f d e1 w1 = some r → SR (mdOf X) W0 W1 σ e1 w1 → Lx W W1 → Fin X WW W0 σ W1 rep r Q → R d W1.h) : RT X x σ W.h R := by
  rcases bnd_inv h with ⟨d, e1, w1, h1, h2⟩ | ⟨c', e1, w1, h1, h2⟩
  · exact S X b WW C W0 W σ e w x _ R h1 s fun v W1 s1 l1 r1 => by subst r1; exact nx _ e1 w1 W1 h2 s1 l1 (F.le l1)
  · subst h2
    exact S X b WW C W0 W σ e w x _ R h1 s F
theorem bindA {α β : Type} {xs : List Expr} (S : S_evs c k n) (C : CO X c b WW k) (s : SR (mdOf X) W0 W σ e w) {f : List D → List Sl → Wd → Option (ER α)} {r : ER α} {rep : Wl → β → α → Prop} {Q : β → Hp → Prop} (h : bnd (evs c b n xs e w) f = some r) (F : Fin X WW W0 σ W rep r Q) {R : List V → Hp → Prop}
    (nx : ∀ d e1 w1 v W1, f d e1 w1 = some r → SR (mdOf X) W0 W1 σ e1 w1 → Lx W W1 → RWs (mdOf X) W1 v d → Fin X WW W0 σ W1 rep r Q → R v W1.h) : RA X xs σ W.h R := by
  rcases bnd_inv h with ⟨d, e1, w1, h1, h2⟩ | ⟨c', e1, w1, h1, h2⟩
  · exact S X b WW C W0 W σ e w xs _ R h1 s fun v W1 s1 l1 r1 => nx d e1 w1 v W1 h2 s1 l1 r1 (F.le l1)
  · subst h2
    exact S X b WW C W0 W σ e w xs _ R h1 s F
theorem bindO {α β : Type} {xo : Option Expr} (S : S_evO c k n) (C : CO X c b WW k) (s : SR (mdOf X) W0 W σ e w) {f : Option Int → List Sl → Wd → Option (ER α)} {r : ER α} {rep : Wl → β → α → Prop} {Q : β → Hp → Prop} (h : bnd (evO c b n xo e w) f = some r) (F : Fin X WW W0 σ W rep r Q) {R : Option Int → Hp → Prop}
    (nx : ∀ d e1 w1 W1, f d e1 w1 = some r → SR (mdOf X) W0 W1 σ e1 w1 → Lx W W1 → Fin X WW W0 σ W1 rep r Q → R d W1.h) : RO X xo σ W.h R := by
  rcases bnd_inv h with ⟨d, e1, w1, h1, h2⟩ | ⟨c', e1, w1, h1, h2⟩
  · exact S X b WW C W0 W σ e w xo _ R h1 s fun v W1 s1 l1 r1 => by subst r1; exact nx _ e1 w1 W1 h2 s1 l1 (F.le l1)
  · subst h2
    exact S X b WW C W0 W σ e w xo _ R h1 s F

theorem tyName_ok {y : Str} {t : String} (h : tyName y = some t) : bootBuiltins y = some (.type t) := by
  unfold tyName at h
  repeat' (split at h)
  all_goals first | (rename_i e; subst e; cases h; decide +kernel) | (cases h; done)
theorem own_name {o : Expr} {i : Nat} {xs : List D} (h : ownOf b o e = some (i, xs)) : ∃ y p, o = .Name y p ∧ okN y = true ∧ isLoc b.sc y = true ∧ slotOf b.N y 0 = some i ∧ e[i]? = some (Sl.own xs) := by
  unfold ownOf at h
  split at h
  · rename_i y p
    split at h
    · rename_i hc
      rw [Bool.and_eq_true] at hc
      split at h
      · rename_i j hj
        split at h
        · rename_i ys hy
          cases h
          exact ⟨y, p, rfl, hc.1, hc.2, hj, hy⟩
        · cases h
      · cases h
    · cases h
  · cases h
/-- the name of a list that this def alone holds, read -/
theorem re_own {o : Expr} {i : Nat} {xs : List D} (C : CO X c b WW k) (s : SR (mdOf X) W0 W σ e w) (h : ownOf b o e = some (i, xs)) {Q : VK} (q : ∀ p vs, σ[i]? = some (some (V.ref p)) → W.hd p → W0.h p = none → W.h p = some (HO.lst vs) → RWs (mdOf X) W vs xs → Q (.ref p) W.h) : RE X o σ W.h Q := by
  obtain ⟨y, p0, rfl, h1, h2, h3, h4⟩ := own_name h
  obtain ⟨p, vs, g1, g2, g3, g4, g5, g6⟩ := s.own i xs h4
  exact re_of (pe_var (C.slot h3) (C.vis h2) (okN_1 h1) (okN_2 h1)) ⟨_, g1, q p vs g1 g2 g3 g4 g6⟩
theorem re_name {y : Str} {p : Pos} (S : CO X c b WW k) : True := trivial
end
end Pv
end
section
set_option Elab.async false
set_option linter.all false
set_option autoImplicit false
set_option maxRecDepth 100000
set_option maxHeartbeats 1000000
/-! The cases. -/
namespace Pv
open PySem PySem.Spec PyProof.Rows L2
section
variable {c : Cf} {k n : Nat} {X : Cx} {b : Bk} {WW : WX} {W0 W : Wl} {σ : L2.St} {e : List Sl} {w : Wd} {r : ER D} {Q : VK}
theorem c_const {j : Const} {u : Nat} {pos : Pos} (C : CO X c b WW k) (s : SR (mdOf X) W0 W σ e w) (h : ev c b (n + 1) (.Constant j u pos) e w = some r) (F : FinD X WW W0 σ W r Q) : RE X (.Constant j u pos) σ W.h Q := by
  cases j <;> first | (cases h; done) | skip
  · cases h; exact re_of pe_non (F _ W s (Lx.refl W) .non)
  · cases h; exact re_of pe_bl (F _ W s (Lx.refl W) (.bl _))
  · cases h; exact re_of pe_int (F _ W s (Lx.refl W) (.int _))
  · cases h; exact re_of pe_str (F _ W s (Lx.refl W) (.str _))
theorem c_name {y : Str} {pos : Pos} (C : CO X c b WW k) (s : SR (mdOf X) W0 W σ e w) (h : ev c b (n + 1) (.Name y pos) e w = some r) (F : FinD X WW W0 σ W r Q) : RE X (.Name y pos) σ W.h Q := by
  have h : evName c b y e w = some r := h
  unfold evName at h
  split at h
  · rename_i hn
    split at h
    · rename_i hl
      split at h
      · rename_i i hi
        split at h
        · rename_i d hd
          cases h
          obtain ⟨v, h1, h2⟩ := s.val i d hd
          exact re_of (pe_var (C.slot hi) (C.vis hl) (okN_1 hn) (okN_2 hn)) ⟨v, h1, F v W s (Lx.refl W) h2⟩
        · rename_i xs hx
          cases h
          obtain ⟨p, h1, l, s1, h2⟩ := s.freeze hx
          exact re_of (pe_var (C.slot hi) (C.vis hl) (okN_1 hn) (okN_2 hn)) ⟨_, h1, F _ (W.unh p) s1 l h2⟩
        · cases h
      · cases h
    · split at h
      · rename_i hg
        split at h
        · rename_i d hd
          cases h
          obtain ⟨u, v, h1, h2, h3⟩ := C.mf.con y d hd
          exact re_of (pe_glob (C.gl hg) h1 h2 (okN_1 hn)) (F v W s (Lx.refl W) (h3 W))
        · split at h
          · rename_i hb
            split at h
            · rename_i t ht
              cases h
              exact re_of (pe_bltn (v := .ty t) (C.gl hg) (C.mf.bi y hb) (tyName_ok ht) rfl (okN_3 hn) (okN_1 hn)) (F _ W s (Lx.refl W) (.ty t))
            · cases h
          · cases h
      · cases h
  · cases h
theorem c_binop {p q : Expr} {op : Operator} {pos : Pos} (I : S_all c k n) (C : CO X c b WW k) (s : SR (mdOf X) W0 W σ e w) (h : ev c b (n + 1) (.BinOp p op q pos) e w = some r) (F : FinD X WW W0 σ W r Q) : RE X (.BinOp p op q pos) σ W.h Q := by
  have h : (bnd (ev c b n p e w) fun d1 e w => bnd (ev c b n q e w) fun d2 e w => (match binD op d1 d2 with
      | some d => some (.ok d e w) | none => none)) = some r := h
  refine re_of (pe_op op_self pe_self pe_self) ?_
  refine bindE I.ev C s h F fun d1 e1 w1 v1 W1 h s l1 r1 F => ?_
  refine bindE I.ev C s h F fun d2 e2 w2 v2 W2 h s l2 r2 F => ?_
  split at h
  · rename_i d hd
    cases h
    exact bin_ok s.gd hd (l2.le.rp r1) r2 fun v W3 kp rv => F v W3 (s.kp kp) kp.lx rv
  · cases h
theorem c_neg {p : Expr} {pos : Pos} (I : S_all c k n) (C : CO X c b WW k) (s : SR (mdOf X) W0 W σ e w) (h : ev c b (n + 1) (.UnaryOp .USub p pos) e w = some r) (F : FinD X WW W0 σ W r Q) : RE X (.UnaryOp .USub p pos) σ W.h Q := by
  have h : (bnd (ev c b n p e w) fun d e w => (match d with
      | .int i => some (.ok (.int (-i)) e w)
      | _ => none)) = some r := h
  refine re_of (pe_un un_self pe_self) ?_
  refine bindE I.ev C s h F fun d1 e1 w1 v1 W1 h s l1 r1 F => ?_
  split at h
  · cases h; cases r1
    exact b1_of un_neg ⟨_, rfl, F _ W1 s (Lx.refl _) (.int _)⟩
  · cases h
theorem c_not {p : Expr} {pos : Pos} (I : S_all c k n) (C : CO X c b WW k) (s : SR (mdOf X) W0 W σ e w) (h : ev c b (n + 1) (.UnaryOp .Not p pos) e w = some r) (F : FinD X WW W0 σ W r Q) : RE X (.UnaryOp .Not p pos) σ W.h Q := by
  have h : (bnd (ev c b n p e w) fun d e w => (match d with
      | .bl t => some (.ok (.bl (!t)) e w)
      | _ => none)) = some r := h
  refine re_of (pe_not pe_self) ?_
  refine bindE I.ev C s h F fun d1 e1 w1 v1 W1 h s l1 r1 F => ?_
  split at h
  · cases h; cases r1
    exact ⟨_, rfl, F _ W1 s (Lx.refl _) (.bl _)⟩
  · cases h
theorem c_if {t p q : Expr} {pos : Pos} (I : S_all c k n) (C : CO X c b WW k) (s : SR (mdOf X) W0 W σ e w) (h : ev c b (n + 1) (.IfExp t p q pos) e w = some r) (F : FinD X WW W0 σ W r Q) : RE X (.IfExp t p q pos) σ W.h Q := by
  have h : (bnd (evT c b n t e w) fun kk e w => if kk = true then ev c b n p e w else ev c b n q e w) = some r := h
  refine re_of (pe_ifExp pt_self pe_self pe_self) ?_
  refine bindT I.evT C s h F fun d1 e1 w1 W1 h s l1 F => ?_
  cases d1 with
  | true => exact I.ev X b WW C W0 W1 σ e1 w1 p r Q h s F
  | false => exact I.ev X b WW C W0 W1 σ e1 w1 q r Q h s F
theorem look_fs {m : Md} {sr : Option (Addr × Addr × Addr)} {H : Hp} {f : Str} {d : D} : ∀ {fs : List (Str × V)} {ds : List D}, Rps m sr H (fs.map (·.2)) ds → ((fs.map (·.1)).zip ds).lookup f = some d → ∃ v, fs.lookup f = some v ∧ Rp m sr H v d
  | [], _, _, h => by simp at h
  | (g, v) :: fs, ds, r, h => by
    rw [List.map_cons] at r
    cases r with
    | cons r1 r2 =>
      rename_i d1 ds1
      rw [List.map_cons, List.zip_cons_cons, List.lookup_cons] at h
      rw [List.lookup_cons]
      cases hb : f == g with
      | true =>
        rw [hb] at h
        cases h
        exact ⟨v, rfl, r1⟩
      | false =>
        rw [hb] at h
        exact look_fs r2 h
theorem look_none {f : Str} : ∀ {fs : List (Str × V)}, f ∉ fs.map (·.1) → fs.lookup f = none
  | [], _ => rfl
  | (g, v) :: fs, h => by
    rw [List.map_cons, List.mem_cons, not_or] at h
    rw [List.lookup_cons, beq_eq_false_iff_ne.mpr h.1]
    exact look_none h.2
theorem c_attr {o : Expr} {f : Str} {pos : Pos} (I : S_all c k n) (C : CO X c b WW k) (s : SR (mdOf X) W0 W σ e w) (h : ev c b (n + 1) (.Attribute o f pos) e w = some r) (F : FinD X WW W0 σ W r Q) : RE X (.Attribute o f pos) σ W.h Q := by
  have h : (if isCallN o then none else (match o with
      | .Name y _ => if isGl b.sc y && okN y then (match c.cc y f with
          | some d => some (.ok d e w) | none => none)
        else bnd (ev c b n o e w) fun d e w => (match d with
          | .ins cn ns ds => if c.fl cn f then (match (ns.zip ds).lookup f with | some d => some (.ok d e w) | none => none) else none
          | _ => none)
      | _ => none)) = some r := h
  split at h
  · cases h
  rename_i hcn
  split at h
  · rename_i y p _
    split at h
    · rename_i hg
      rw [Bool.and_eq_true] at hg
      split at h
      · rename_i d hd
        cases h
        obtain ⟨C', mc, v, u, h1, h2, h3, h4⟩ := C.mf.cc y f d hd
        exact re_of (ClX.pe_cval (pe_glob (v := .ref C') (C.gl hg.1) h1 rfl (okN_1 hg.2)) rfl) ⟨C', mc, v, u, rfl, h2, h3, F v W s (Lx.refl W) (h4 W)⟩
      · cases h
    · refine re_of (pe_fld pe_self rfl) ?_
      refine bindE I.ev C s h F fun d1 e1 w1 v1 W1 h s l1 r1 F => ?_
      split at h
      · split at h
        · rename_i cn ns ds hfl
          split at h
          · rename_i d hd
            cases h
            obtain ⟨C', g1, g2, g3⟩ := C.mf.fl cn f hfl
            cases r1 with
            | ins h1 h2 h3 h4 h5 =>
              have e1 : X.mg cn = some (.ref C') := g1
              have e2 := h1
              rw [show (mdOf X).mg cn = X.mg cn from rfl, e1] at e2
              cases e2
              subst h3
              obtain ⟨v, hv, rv⟩ := look_fs h4 hd
              exact ⟨_, _, _, _, v, rfl, vis_sub W1 _ _ h2, g2, g3, hv, F v W1 s (Lx.refl _) rv⟩
          · cases h
        · cases h
      · cases h
  · cases h

/-! ### what an own class answers: len(o), o == x -/
theorem len_ins {F : Fn} {cn : Str} {ns : List Str} {ds : List D} {v : V} {j : Int} {w' : Wd} (C : CO X c b WW k) (s : SR (mdOf X) W0 W σ e w) (hm : c.me cn "__len__" = some F) (hF : F [.ins cn ns ds] w = some (.ok (.int j) w')) (hj : 0 ≤ j ∧ j < 100000) (rv : RW (mdOf X) W v (.ins cn ns ds))
    (q : ∀ W', SR (mdOf X) W0 W' σ e w' → Lx W W' → Q (.int j) W'.h) : BC X (.builtin "len") [v] W.h Q := by
  rw [(C.mf.nosp cn).1] at hm
  cases hm
theorem eq_ins {F : Fn} {cn : Str} {ns : List Str} {ds : List D} {v u : V} {d2 : D} {t : Bool} {w' : Wd} (C : CO X c b WW k) (s : SR (mdOf X) W0 W σ e w) (hm : c.me cn "__eq__" = some F) (hF : F [.ins cn ns ds, d2] w = some (.ok (.bl t) w')) (rv : RW (mdOf X) W v (.ins cn ns ds)) (ru : RW (mdOf X) W u d2)
    (q : ∀ W', SR (mdOf X) W0 W' σ e w' → Lx W W' → Q (.bl t) W'.h) : B2 X (compareOp .Eq) v u W.h Q := by
  rw [(C.mf.nosp cn).2] at hm
  cases hm
/-- None is no key of a dict of texts -/
theorem none_mapK {P : Program} {wd : World} {K : PySem.W.Frag} {a : Addr} {es : Array DictEntry} {j : Nat} {h : Heap} (X : K.In h) (hl : K.lookup a = some ⟨.type "dict", none, .dict es j, #[]⟩) (hk : PySem.W.KeysLit wd.params es.toList) :
    ∃ f, h.MapOf (noneKind P wd) a f ∧ f none = none := by
  have key : ∀ e ∈ es, ∃ x : Str, ∃ t : Tok, e.key = .str x t ∧ e.hash = PyData.keyHash wd.params x := fun e he => by
    obtain ⟨x, t, e1, e2⟩ := hk.all e (Array.mem_toList_iff.mpr he)
    exact ⟨x, t, e1, e2⟩
  refine ⟨fun k => findBy (noneKind P wd).is es k, ⟨_, es, j, X _ _ hl, ⟨rfl, rfl, rfl⟩, rfl, fun e he => ?_, fun k => rfl⟩, ?_⟩
  · obtain ⟨x, t, h1, h2⟩ := key e he
    refine ⟨some (.inr x), ?_, ?_⟩
    · show keyIs (.inr x) e.key = true
      rw [h1]
      exact strKind_is P wd x t
    · rw [h2]
      rfl
  · have q : (es.find? fun e => nkIs none e.key) = none := by
      rw [Array.find?_eq_none]
      intro e he hq
      obtain ⟨x, t, h1, _⟩ := key e he
      rw [h1] at hq
      cases hq
    show (es.find? fun e => nkIs none e.key).map (·.val) = none
    rw [q] <;> rfl
theorem tab_in {a : Addr} {t : List (Str × Str)} {x : Str} (T : TabOk X.w X.K X.mg a t) (q : Q (.bl (t.lookup x).isSome) W.h) : B2 X (compareOp .In) (.str x) (.ref a) W.h Q := by
  intro pins sh σ v u I r1 r2
  cases r2
  obtain ⟨tk, rfl⟩ := r1
  obtain ⟨es, j, hl, hk⟩ := T.es
  refine wpAny_in_of (strKind_is X.prog X.w x tk) T.low (PySem.W.mapOf_K (prog := X.prog) I.kIn hl hk) ?_
  cases hx : t.lookup x with
  | none =>
    rw [hx] at q
    rw [PySem.W.find_K hl (T.no x hx)]
    exact ⟨.bl false, _, I.tok _, rfl, q⟩
  | some f =>
    obtain ⟨b', h1, h2⟩ := T.yes x f hx
    rw [hx] at q
    rw [PySem.W.find_K hl h1]
    exact ⟨.bl true, _, I.tok _, rfl, q⟩
theorem tab_notIn {a : Addr} {t : List (Str × Str)} {x : Str} (T : TabOk X.w X.K X.mg a t) (q : Q (.bl (!(t.lookup x).isSome)) W.h) : B2 X (compareOp .NotIn) (.str x) (.ref a) W.h Q := by
  intro pins sh σ v u I r1 r2
  cases r2
  obtain ⟨tk, rfl⟩ := r1
  obtain ⟨es, j, hl, hk⟩ := T.es
  refine wpAny_notIn_of (strKind_is X.prog X.w x tk) T.low (PySem.W.mapOf_K (prog := X.prog) I.kIn hl hk) ?_
  cases hx : t.lookup x with
  | none =>
    rw [hx] at q
    rw [PySem.W.find_K hl (T.no x hx)]
    exact ⟨.bl true, _, I.tok _, rfl, q⟩
  | some f =>
    obtain ⟨b', h1, h2⟩ := T.yes x f hx
    rw [hx] at q
    rw [PySem.W.find_K hl h1]
    exact ⟨.bl false, _, I.tok _, rfl, q⟩
theorem tab_inN {a : Addr} {t : List (Str × Str)} (T : TabOk X.w X.K X.mg a t) (q : Q (.bl false) W.h) : B2 X (compareOp .In) .non (.ref a) W.h Q := by
  intro pins sh σ v u I r1 r2
  cases r2
  cases r1
  obtain ⟨es, j, hl, hk⟩ := T.es
  obtain ⟨f, hm, hf⟩ := none_mapK (P := X.prog) I.kIn hl hk
  refine wpAny_in_of (show (noneKind X.prog X.w).is none .none = true from rfl) T.low hm ?_
  rw [hf]
  exact ⟨.bl false, _, I.tok _, rfl, q⟩
theorem tab_notInN {a : Addr} {t : List (Str × Str)} (T : TabOk X.w X.K X.mg a t) (q : Q (.bl true) W.h) : B2 X (compareOp .NotIn) .non (.ref a) W.h Q := by
  intro pins sh σ v u I r1 r2
  cases r2
  cases r1
  obtain ⟨es, j, hl, hk⟩ := T.es
  obtain ⟨f, hm, hf⟩ := none_mapK (P := X.prog) I.kIn hl hk
  refine wpAny_notIn_of (show (noneKind X.prog X.w).is none .none = true from rfl) T.low hm ?_
  rw [hf]
  exact ⟨.bl true, _, I.tok _, rfl, q⟩
theorem cmpC_ok {op : CmpOp} {d1 d2 : D} {v1 v2 : V} {t : Bool} (C : CO X c b WW k) (h : cmpC c op d1 d2 = some t) (r1 : RW (mdOf X) W v1 d1) (r2 : RW (mdOf X) W v2 d2) (q : Q (.bl t) W.h) : B2 X (compareOp op) v1 v2 W.h Q := by
  unfold cmpC at h
  split at h
  · rename_i g
    cases r2 with
    | glo hg =>
      split at h
      · obtain ⟨tb, h1, h2⟩ := Option.map_eq_some_iff.mp h
        subst h2
        cases r1
        obtain ⟨a, ha, T⟩ := C.mf.tab g tb h1
        have := hg.symm.trans ha
        cases this
        exact tab_in T q
      · obtain ⟨tb, h1, h2⟩ := Option.map_eq_some_iff.mp h
        subst h2
        cases r1
        obtain ⟨a, ha, T⟩ := C.mf.tab g tb h1
        have := hg.symm.trans ha
        cases this
        exact tab_notIn T q
      · obtain ⟨tb, h1, h2⟩ := Option.map_eq_some_iff.mp h
        subst h2
        cases r1
        obtain ⟨a, ha, T⟩ := C.mf.tab g tb h1
        have := hg.symm.trans ha
        cases this
        exact tab_inN T q
      · obtain ⟨tb, h1, h2⟩ := Option.map_eq_some_iff.mp h
        subst h2
        cases r1
        obtain ⟨a, ha, T⟩ := C.mf.tab g tb h1
        have := hg.symm.trans ha
        cases this
        exact tab_notInN T q
      · cases h
  · exact cmp_ok C.units h r1 r2 q
theorem ixC_ok {d1 d2 d : D} {v1 v2 : V} (C : CO X c b WW k) (h : ixC c d1 d2 = some d) (r1 : RW (mdOf X) W v1 d1) (r2 : RW (mdOf X) W v2 d2) (q : ∀ v, RW (mdOf X) W v d → Q v W.h) : BIx X v1 v2 W.h Q := by
  unfold ixC at h
  split at h
  · rename_i g
    split at h
    · rename_i x
      obtain ⟨tb, h1, h2⟩ := Option.bind_eq_some_iff.mp h
      obtain ⟨f, h3, h4⟩ := Option.map_eq_some_iff.mp h2
      subst h4
      cases r2
      cases r1 with
      | glo hg =>
        obtain ⟨a, ha, T⟩ := C.mf.tab g tb h1
        have := hg.symm.trans ha
        cases this
        obtain ⟨es, j, hl, hk⟩ := T.es
        obtain ⟨q', k1, k2⟩ := T.yes x f h3
        exact bix_of ix_kdict ⟨_, _, .ref q', rfl, rfl, ⟨es, j, _, hl, hk, k1, rfl⟩, q _ (.glo k2)⟩
    · cases h
  · exact ix_ok h r1 r2 q
theorem d_cmp {p q : Expr} {op : CmpOp} {pos : Pos} (I : S_all c k n) (C : CO X c b WW k) (s : SR (mdOf X) W0 W σ e w) (h : ev c b (n + 1) (.Compare p [op] [q] pos) e w = some r) (F : FinD X WW W0 σ W r Q) : isSetX q = false ∧ tOp (B2 X (compareOp op)) (RE X p) (RE X q) σ W.h Q := by
  have h : (if isSetX q then none else bnd (ev c b n p e w) fun d1 e w => bnd (ev c b n q e w) fun d2 e w => (match op, d1 with
      | .Eq, .ins cn ns ds => (match c.me cn "__eq__" with
        | some F => (match F [.ins cn ns ds, d2] w with
          | some (.ok (.bl t) w) => some (.ok (.bl t) e w) | _ => none)
        | none => none)
      | _, _ => (match cmpC c op d1 d2 with
        | some t => some (.ok (.bl t) e w) | none => none))) = some r := h
  split at h
  · cases h
  rename_i hs
  refine ⟨by simpa using hs, ?_⟩
  refine bindE I.ev C s h F fun d1 e1 w1 v1 W1 h s l1 r1 F => ?_
  refine bindE I.ev C s h F fun d2 e2 w2 v2 W2 h s l2 r2 F => ?_
  split at h
  · split at h
    · rename_i F' hF
      split at h
      · rename_i t w' hh
        cases h
        exact eq_ins C s hF hh (l2.le.rp r1) r2 fun W' s' l' => F _ W' s' l' (.bl _)
      · cases h
    · cases h
  · split at h
    · rename_i t ht
      cases h
      exact cmpC_ok C ht (l2.le.rp r1) r2 (F _ W2 s (Lx.refl _) (.bl _))
    · cases h
theorem d_chain {p q u : Expr} {op op2 : CmpOp} {pos : Pos} (I : S_all c k n) (C : CO X c b WW k) (s : SR (mdOf X) W0 W σ e w) (h : ev c b (n + 1) (.Compare p [op, op2] [q, u] pos) e w = some r) (F : FinD X WW W0 σ W r Q) : isSetX u = false ∧ tChain (B2 X (compareOp op)) (B2 X (compareOp op2)) (RE X p) (RE X q) (RE X u) σ W.h Q := by
  have h : (if isSetX u then none else bnd (ev c b n p e w) fun d1 e w => bnd (ev c b n q e w) fun d2 e w => (match cmpD op d1 d2 with
      | some true => bnd (ev c b n u e w) fun d3 e w => (match cmpD op2 d2 d3 with
        | some t => some (.ok (.bl t) e w) | none => none)
      | some false => some (.ok (.bl false) e w)
      | none => none)) = some r := h
  split at h
  · cases h
  rename_i hs
  refine ⟨by simpa using hs, ?_⟩
  refine bindE I.ev C s h F fun d1 e1 w1 v1 W1 h s l1 r1 F => ?_
  refine bindE I.ev C s h F fun d2 e2 w2 v2 W2 h s l2 r2 F => ?_
  split at h
  · rename_i ht
    refine cmp_ok C.units ht (l2.le.rp r1) r2 ⟨true, rfl, ?_⟩
    refine iteT ?_
    refine bindE I.ev C s h F fun d3 e3 w3 v3 W3 h s l3 r3 F => ?_
    split at h
    · rename_i t ht2
      cases h
      exact cmp_ok C.units ht2 (l3.le.rp r2) r3 (F _ W3 s (Lx.refl _) (.bl _))
    · cases h
  · rename_i ht
    cases h
    exact cmp_ok C.units ht (l2.le.rp r1) r2 ⟨false, rfl, iteF (F _ W2 s (Lx.refl _) (.bl _))⟩
  · cases h
theorem c_cmp {p q : Expr} {op : CmpOp} {pos : Pos} (I : S_all c k n) (C : CO X c b WW k) (s : SR (mdOf X) W0 W σ e w) (h : ev c b (n + 1) (.Compare p [op] [q] pos) e w = some r) (F : FinD X WW W0 σ W r Q) : RE X (.Compare p [op] [q] pos) σ W.h Q := by
  obtain ⟨h1, h2⟩ := d_cmp I C s h F
  exact re_of (pe_cmpR op_self pe_self pe_self (noMark h1)) h2
theorem c_chain {p q u : Expr} {op op2 : CmpOp} {pos : Pos} (I : S_all c k n) (C : CO X c b WW k) (s : SR (mdOf X) W0 W σ e w) (h : ev c b (n + 1) (.Compare p [op, op2] [q, u] pos) e w = some r) (F : FinD X WW W0 σ W r Q) : RE X (.Compare p [op, op2] [q, u] pos) σ W.h Q := by
  obtain ⟨h1, h2⟩ := d_chain I C s h F
  exact re_of (pe_chain op_self op_self pe_self pe_self pe_self (noMark2 h1)) h2
/-- which comparisons are walked -/
theorem cmp_cases {p : Expr} {ops : List CmpOp} {cs : List Expr} {pos : Pos} (h : ev c b (n + 1) (.Compare p ops cs pos) e w = some r) : (∃ op q, ops = [op] ∧ cs = [q]) ∨ (∃ op op2 q u, ops = [op, op2] ∧ cs = [q, u]) := by
  match ops, cs with
  | [], _ => cases h
  | [op], [] => cases h
  | [op], [q] => exact .inl ⟨op, q, rfl, rfl⟩
  | [op], _ :: _ :: _ => cases h
  | [op, op2], [] => cases h
  | [op, op2], [_] => cases h
  | [op, op2], [q, u] => exact .inr ⟨op, op2, q, u, rfl, rfl⟩
  | [op, op2], _ :: _ :: _ :: _ => cases h
  | _ :: _ :: _ :: _, _ => cases h
theorem c_tuple {xs : List Expr} {j : Nat} {pos : Pos} (I : S_all c k n) (C : CO X c b WW k) (s : SR (mdOf X) W0 W σ e w) (h : ev c b (n + 1) (.Tuple xs j pos) e w = some r) (F : FinD X WW W0 σ W r Q) : RE X (.Tuple xs j pos) σ W.h Q := by
  have h : (bnd (evs c b n xs e w) fun ds e w => if small ds.length then some (.ok (.tup ds) e w) else none) = some r := h
  refine re_of (pe_tup pa_self) ?_
  refine bindA I.evs C s h F fun d1 e1 w1 v1 W1 h s l1 r1 F => ?_
  split at h
  · rename_i hs
    cases h
    refine ⟨by rw [r1.length]; exact sm hs, new_tup s.gd r1 fun v W2 kp rv => F v W2 (s.kp kp) kp.lx rv⟩
  · cases h
theorem c_list {xs : List Expr} {pos : Pos} (I : S_all c k n) (C : CO X c b WW k) (s : SR (mdOf X) W0 W σ e w) (h : ev c b (n + 1) (.List xs pos) e w = some r) (F : FinD X WW W0 σ W r Q) : RE X (.List xs pos) σ W.h Q := by
  have h : (bnd (evs c b n xs e w) fun ds e w => if small ds.length then some (.ok (.lst ds) e w) else none) = some r := h
  refine re_of (pe_lst pa_self) ?_
  refine bindA I.evs C s h F fun d1 e1 w1 v1 W1 h s l1 r1 F => ?_
  split at h
  · rename_i hs
    cases h
    refine ⟨by rw [r1.length]; exact sm hs, new_lst s.gd r1 fun v W2 kp rv => F v W2 (s.kp kp) kp.lx rv⟩
  · cases h
/-- a new list is no more hidden -/
theorem FL.val {p : Addr} {ds : List D} {W1 : Wl} {e1 : List Sl} {w1 : Wd} (f : FL X W0 W W1 p ds) (s0 : SR (mdOf X) W0 W σ e w) (s : SR (mdOf X) W0 W1 σ e1 w1) (no : ∀ (i : Nat) xs, e1[i]? = some (Sl.own xs) → σ[i]? ≠ some (some (V.ref p))) :
    SR (mdOf X) W0 (W1.unh p) σ e1 w1 ∧ Lx W (W1.unh p) ∧ RW (mdOf X) (W1.unh p) (.ref p) (.lst ds) := by
  obtain ⟨vs, h1, h2⟩ := f.at_
  have hp0 : W0.h p = none := f.fresh
  refine ⟨s.unh hp0 no, ⟨f.le.trans (unh_lx W1 p).le, fun a h => ?_⟩, .lst (vis_of h1 (fun z => z.2 rfl) f.np) ((unh_lx W1 p).le.rps h2)⟩
  rcases f.hd a h.1 with z | z
  · exact (h.2 z).elim
  · exact z
theorem c_comp {elt : Expr} {gs : List Comprehension} {sc : Scope} {pos : Pos} (I : S_all c k n) (C : CO X c b WW k) (s : SR (mdOf X) W0 W σ e w) (h : ev c b (n + 1) (.ListComp elt gs sc pos) e w = some r) (F : FinD X WW W0 σ W r Q) : RE X (.ListComp elt gs sc pos) σ W.h Q := by
  have h : (bnd (evC c b n (.ListComp elt gs sc pos) e w) fun ds e w => some (.ok (.lst ds) e w)) = some r := h
  rcases bnd_inv h with ⟨d, e1, w1, h1, h2⟩ | ⟨c', e1, w1, h1, h2⟩
  · cases h2
    refine I.evC X b WW C W0 W σ e w _ _ Q h1 s fun p W1 s1 f no => ?_
    obtain ⟨g1, g2, g3⟩ := f.val s s1 no
    exact F _ (W1.unh p) g1 g2 g3
  · subst h2
    exact I.evC X b WW C W0 W σ e w _ _ Q h1 s F
theorem c_sub {p u : Expr} {pos : Pos} (I : S_all c k n) (C : CO X c b WW k) (s : SR (mdOf X) W0 W σ e w) (h : ev c b (n + 1) (.Subscript p u pos) e w = some r) (F : FinD X WW W0 σ W r Q) : RE X (.Subscript p u pos) σ W.h Q := by
  by_cases hsl : isSl u = true
  · cases u <;> first | (cases hsl; done) | skip
    rename_i lo hi st pos2
    cases st with
    | some st => cases h
    | none =>
      have h : (bnd (ev c b n p e w) fun d e w => bnd (evO c b n lo e w) fun i e w => bnd (evO c b n hi e w) fun j e w => (match sliceD d i j with
        | some d => some (.ok d e w) | none => none)) = some r := h
      refine re_of (pe_slice sl_self pe_self po_self po_self) ?_
      refine bindE I.ev C s h F fun d1 e1 w1 v1 W1 h s l1 r1 F => ?_
      refine bindO I.evO C s h F fun i e2 w2 W2 h s l2 F => ?_
      refine bindO I.evO C s h F fun j e3 w3 W3 h s l3 F => ?_
      split at h
      · rename_i d hd
        cases h
        exact slice_ok s.gd hd ((l2.trans l3).le.rp r1) fun v W4 kp rv => F v W4 (s.kp kp) kp.lx rv
      · cases h
  · have hsl : isSl u = false := by simpa using hsl
    have h : (match ownOf b p e with
        | some (i, _) => bnd (ev c b n u e w) fun kk e w => (match e[i]?, kk with
          | some (.own xs), .int kk => (match atI xs kk with | some d => some (.ok d e w) | none => none)
          | _, _ => none)
        | none => bnd (ev c b n p e w) fun d e w => bnd (ev c b n u e w) fun kk e w => (match ixC c d kk with
          | some d => some (.ok d e w) | none => none)) = some r := by
      cases u <;> first | exact h | (cases hsl; done)
    refine re_of (pe_ix ix_self pe_self pe_self (plainIx hsl)) ?_
    split at h
    · rename_i i xs ho
      refine re_own C s ho fun q vs hσ _ _ _ _ => ?_
      refine bindE I.ev C s h F fun d1 e1 w1 v1 W1 h s l1 r1 F => ?_
      split at h
      · rename_i ys j hy
        split at h
        · rename_i d hd
          cases h
          cases r1
          obtain ⟨q', vs', g1, g2, g3, g4, g5, g6⟩ := s.own i ys hy
          rw [hσ] at g1
          cases g1
          obtain ⟨j', k1, k2⟩ := at_get (ys := vs') g6.length hd
          obtain ⟨v, hv, rv⟩ := g6.get k1
          exact bix_of ix_list ⟨_, _, _, _, rfl, rfl, SqL.of g4, k2 v hv, F v W1 s (Lx.refl _) rv⟩
        · cases h
      · cases h
    · refine bindE I.ev C s h F fun d1 e1 w1 v1 W1 h s l1 r1 F => ?_
      refine bindE I.ev C s h F fun d2 e2 w2 v2 W2 h s l2 r2 F => ?_
      split at h
      · rename_i d hd
        cases h
        exact ixC_ok C hd (l2.le.rp r1) r2 fun v rv => F v W2 s (Lx.refl _) rv
      · cases h

/-! ### tests, rows of arguments, parts of slices -/
def plainT : Expr → Bool
  | .UnaryOp .Not _ _ => false | .BoolOp _ _ _ => false | .Compare _ _ _ _ => false | .IfExp _ _ _ _ => false | _ => true
theorem truth_tree {x : Expr} {env : Env} (h : plainT x = true) : ∀ whole, isTrue x env whole = (do let v ← whole; standAt x.pos; holding [v] (truthy v)) := by
  intro whole
  cases x <;> first | rfl | (cases h; done) | skip
  rename_i op a p
  cases op <;> first | rfl | cases h
theorem s_evT (J : ∀ m, m ≤ n → S_all c k m) : S_evT c k (n + 1) := by
  have I := J n (Nat.le_refl n)
  intro X b WW C W0 W σ e w x r Q h s F
  have gen : plainT x = true → (match ownOf b x e with
      | some (_, xs) => some (ER.ok (!xs.isEmpty) e w)
      | none => bnd (ev c b n x e w) fun d e w => (match truD d with
        | some k => some (.ok k e w) | none => none)) = some r → RT X x σ W.h Q := by
    intro hx h
    refine rt_of (pt_truth pe_self (truth_tree hx)) ?_
    split at h
    · rename_i i xs ho
      cases h
      refine re_own C s ho fun p vs _ _ _ h1 h2 => ⟨!xs.isEmpty, .inl ⟨vs, SqL.of h1, ?_⟩, F _ W s (Lx.refl W) rfl⟩
      cases h2 <;> rfl
    · refine bindE I.ev C s h F fun d1 e1 w1 v1 W1 h s l1 r1 F => ?_
      split at h
      · rename_i kk hk
        cases h
        exact ⟨kk, tru_ok' hk r1, F _ W1 s (Lx.refl _) rfl⟩
      · cases h
  cases x <;> first | exact gen rfl h | skip
  · rename_i op xs pos
    have h : evTs c b n op xs e w = some r := h
    exact rt_of (PW.pt pw_self) (I.evTs X b WW C W0 W σ e w op xs pos r Q h s F)
  · cases h
  · rename_i op p pos
    cases op <;> first | exact gen rfl h | skip
    have h : (bnd (evT c b n p e w) fun kk e w => some (.ok (!kk) e w)) = some r := h
    refine rt_of (pt_not pt_self) ?_
    refine bindT I.evT C s h F fun d1 e1 w1 W1 h s l1 F => ?_
    cases h
    exact F _ W1 s (Lx.refl _) rfl
  · cases h
  · rename_i a ops cs pos
    have h : (bnd (ev c b n (.Compare a ops cs pos) e w) fun d e w => (match d with
      | .bl k => some (.ok k e w) | _ => none)) = some r := h
    cases n with
    | zero => cases h
    | succ n' =>
      have I' := J n' (Nat.le_succ n')
      have key : ∀ {rr : ER D} {R : VK}, ev c b (n' + 1) (.Compare a ops cs pos) e w = some rr → FinD X WW W0 σ W rr (fun x H' => ∃ k, x = .bl k ∧ Q k H') → RT X (.Compare a ops cs pos) σ W.h Q := by
        intro rr R h1 F1
        rcases cmp_cases h1 with ⟨op, q, rfl, rfl⟩ | ⟨op, op2, q, u, rfl, rfl⟩
        · obtain ⟨g1, g2⟩ := d_cmp I' C s h1 F1
          exact rt_of (pt_cmpR op_self pe_self pe_self (noMark g1)) g2
        · obtain ⟨g1, g2⟩ := d_chain I' C s h1 F1
          exact rt_of (pt_chain op_self op_self pe_self pe_self pe_self (noMark2 g1)) g2
      rcases bnd_inv h with ⟨d, e1, w1, h1, h2⟩ | ⟨c', e1, w1, h1, h2⟩
      · split at h2
        · cases h2
          exact key (R := fun _ _ => True) h1 fun v W1 s1 l1 r1 => by
            cases r1
            exact ⟨_, rfl, F _ W1 s1 l1 rfl⟩
        · cases h2
      · subst h2
        exact key (R := fun _ _ => True) h1 F
theorem s_evTs (I : S_all c k n) : S_evTs c k (n + 1) := by
  intro X b WW C W0 W σ e w op xs pos r Q h s F
  cases xs with
  | nil => cases h
  | cons x xs =>
    cases xs with
    | nil =>
      have h : evT c b n x e w = some r := h
      cases op
      · exact rv_of (pw_and1 pt_self) (I.evT X b WW C W0 W σ e w x r Q h s F)
      · exact rv_of (pw_or1 pt_self) (I.evT X b WW C W0 W σ e w x r Q h s F)
    | cons y ys =>
      have h : (bnd (evT c b n x e w) fun k e w => (match op, k with
      | .And, true => evTs c b n op (y :: ys) e w
      | .And, false => some (.ok false e w)
      | .Or, true => some (.ok true e w)
      | .Or, false => evTs c b n op (y :: ys) e w)) = some r := h
      cases op
      · refine rv_of (pw_and pt_self pw_self) ?_
        refine bindT I.evT C s h F fun d1 e1 w1 W1 h s l1 F => ?_
        cases d1 with
        | true => exact iteT (I.evTs X b WW C W0 W1 σ e1 w1 .And (y :: ys) pos r Q h s F)
        | false => cases h; exact iteF (F _ W1 s (Lx.refl _) rfl)
      · refine rv_of (pw_or pt_self pw_self) ?_
        refine bindT I.evT C s h F fun d1 e1 w1 W1 h s l1 F => ?_
        cases d1 with
        | true => cases h; exact iteT (F _ W1 s (Lx.refl _) rfl)
        | false => exact iteF (I.evTs X b WW C W0 W1 σ e1 w1 .Or (y :: ys) pos r Q h s F)
theorem s_evB (I : S_all c k n) : S_evB c k (n + 1) := by
  intro X b WW C W0 W σ e w op xs pos r Q h s F
  cases xs with
  | nil => cases h
  | cons x xs =>
    cases xs with
    | nil =>
      have h : ev c b n x e w = some r := h
      exact re_of (pe_one pe_self) (I.ev X b WW C W0 W σ e w x r Q h s F)
    | cons y ys =>
      have h : (bnd (ev c b n x e w) fun d e w => (match op, d with
      | .And, .bl true => evB c b n op (y :: ys) e w
      | .And, .bl false => some (.ok (.bl false) e w)
      | .Or, .bl true => some (.ok (.bl true) e w)
      | .Or, .bl false => evB c b n op (y :: ys) e w
      | _, _ => none)) = some r := h
      cases op
      · refine re_of (pe_and pe_self pe_self) ?_
        refine bindE I.ev C s h F fun d1 e1 w1 v1 W1 h s l1 r1 F => ?_
        cases d1 <;> first | (cases h; done) | skip
        rename_i kk
        cases r1
        cases kk with
        | true => exact ⟨true, rfl, iteT (I.evB X b WW C W0 W1 σ e1 w1 .And (y :: ys) pos r Q h s F)⟩
        | false => cases h; exact ⟨false, rfl, iteF (F _ W1 s (Lx.refl _) (.bl _))⟩
      · refine re_of (pe_or pe_self pe_self) ?_
        refine bindE I.ev C s h F fun d1 e1 w1 v1 W1 h s l1 r1 F => ?_
        cases d1 <;> first | (cases h; done) | skip
        rename_i kk
        cases r1
        cases kk with
        | true => cases h; exact ⟨true, rfl, iteT (F _ W1 s (Lx.refl _) (.bl _))⟩
        | false => exact ⟨false, rfl, iteF (I.evB X b WW C W0 W1 σ e1 w1 .Or (y :: ys) pos r Q h s F)⟩
theorem s_evs (I : S_all c k n) : S_evs c k (n + 1) := by
  intro X b WW C W0 W σ e w xs r Q h s F
  cases xs with
  | nil => cases h; exact ra_of pa_nil (F _ W s (Lx.refl _) .nil)
  | cons x xs =>
    have h : (if isStar x then none else bnd (ev c b n x e w) fun d e w => bnd (evs c b n xs e w) fun ds e w => some (.ok (d :: ds) e w)) = some r := h
    split at h
    · cases h
    rename_i hst
    refine ra_of (pa_cons pe_self pa_self (star_no (by simpa using hst))) ?_
    refine bindE I.ev C s h F fun d1 e1 w1 v1 W1 h s l1 r1 F => ?_
    refine bindA I.evs C s h F fun d2 e2 w2 v2 W2 h s l2 r2 F => ?_
    cases h
    exact F _ W2 s (Lx.refl _) (.cons (l2.le.rp r1) r2)
theorem s_evO (I : S_all c k n) : S_evO c k (n + 1) := by
  intro X b WW C W0 W σ e w x r Q h s F
  cases x with
  | none => cases h; exact ro_of po_none (F _ W s (Lx.refl _) rfl)
  | some x =>
    have h : (bnd (ev c b n x e w) fun d e w => (match d with
      | .int i => some (.ok (some i) e w) | _ => none)) = some r := h
    refine ro_of (po_some pe_self) ?_
    refine bindE I.ev C s h F fun d1 e1 w1 v1 W1 h s l1 r1 F => ?_
    split at h
    · cases h; cases r1
      exact ⟨_, rfl, F _ W1 s (Lx.refl _) rfl⟩
    · cases h
end
end Pv
end
section
set_option Elab.async false
set_option linter.all false
set_option autoImplicit false
set_option maxRecDepth 100000
set_option maxHeartbeats 3200000
/-! set(xs), xs of numbers and texts: how many there are. -/
namespace PvS
open PySem PySem.Spec PyProof.Rows L2 Pv
theorem dl_snoc (ks : List Key) (k : Key) : dlK (ks ++ [k]) = put1 (dlK ks) k := by
  unfold dlK
  rw [List.foldl_append]
  rfl
theorem has_snoc (acc : List Key) (k j : Key) : has (acc ++ [k]) j = (has acc j || decide (j = k)) := by
  unfold has
  rw [List.any_append]
  by_cases h : j = k
  · subst h; simp
  · rw [decide_eq_false h]
    have : ([k] : List Key).any (fun i => decide (i = j)) = false := by
      show (decide (k = j) || false) = false
      rw [decide_eq_false (fun z => h z.symm)]; rfl
    rw [this]
theorem has_put1 (acc : List Key) (k j : Key) : has (put1 acc k) j = (has acc j || decide (j = k)) := by
  unfold put1
  split
  · rename_i h
    by_cases e : j = k
    · subst e; rw [h]; rfl
    · rw [decide_eq_false e, Bool.or_false]
  · exact has_snoc acc k j
theorem put1_len (acc : List Key) (k : Key) : (put1 acc k).length = if has acc k = true then acc.length else acc.length + 1 := by
  unfold put1
  by_cases h : has acc k = true
  · rw [if_pos h, if_pos h]
  · rw [if_neg h, if_neg h, List.length_append]; rfl
theorem dl_le : ∀ ks : List Key, (dlK ks).length ≤ ks.length := by
  intro ks
  have h : ∀ (l acc : List Key), (l.foldl put1 acc).length ≤ acc.length + l.length := by
    intro l
    induction l with
    | nil => intro acc; exact Nat.le_refl _
    | cons k r ih =>
      intro acc
      have := ih (put1 acc k)
      have h2 : (put1 acc k).length ≤ acc.length + 1 := by
        rw [put1_len]
        split <;> omega
      show (r.foldl put1 (put1 acc k)).length ≤ _
      rw [List.length_cons]
      omega
  have := h ks []
  simpa [dlK] using this
abbrev SetAtK (P : Program) (w : World) (h : Heap) (a : Addr) (ks : List Key) : Prop := h.SetOf (mixKind P w) a (fun j => has (dlK ks) j) (dlK ks).length
section
variable {P : Program} {w : World} {A : Around} {E : Value → Shared → Prop} {s : Shared}
theorem grow {I : Addr} {fp wr : List Addr} {G : Array GenState → Array GenState → Prop} {n : Nat} {Pv : Nat → Value → Prop} {St : Nat → Shared → Prop} {R : Result → Shared → Prop}
    (W : WalksS P w A.in1 I fp wr G n Pv St) (S : Addr) (hSf : S ∉ fp) (ks : List Key) (hn : n = ks.length) (hb : ks.length + 1 < scanBound) (hv : ∀ i v, Pv i v → ∃ k, ks[i]? = some k ∧ RelV (kV k) v) :
    ∀ (m i : Nat) (s : Shared), n - i = m → i ≤ n → St i s → SetAtK P w s.heap S (ks.take i) → (∀ s', Moved (S :: wr) G s s' → SetAtK P w s'.heap S ks → R (.ok (.ret .none)) s') →
      codeAny (model P w) A (.builtin "set.update.loop" ⟨[.ref S, .ref I], []⟩) R s := by
  have nW : S ∉ wr := fun z => hSf (W.sub _ z)
  have sb : ∀ b ∈ wr, b ∈ S :: wr := fun b z => List.mem_cons_of_mem _ z
  intro m
  induction m with
  | zero =>
    intro i s hm hi hst hS hR
    obtain rfl : i = n := by omega
    refine codeAny_builtin F.entry_set_update_loop ?_
    rw [Around.under_plainId F.plain_set_update_loop _]
    refine wpAny_bind (m := pyNext (.ref I)) (W.done s _ _ hst fun s' mv => ?_)
    have hall : ks.take i = ks := List.take_of_length_le (by omega)
    rw [hall] at hS
    exact wpAny_pure (hR s' (mv.mono sb) (setOf_at hS fun o e => mv.heap S o nW e))
  | succ m ih =>
    intro i s hm hi hst hS hR
    have hlt : i < n := by omega
    refine codeAny_builtin F.entry_set_update_loop ?_
    rw [Around.under_plainId F.plain_set_update_loop _]
    refine wpAny_bind (m := pyNext (.ref I)) (W.item i s _ _ hlt hst fun v s' hP hst' mv => ?_)
    obtain ⟨k, hk, rv⟩ := hv i v hP
    have hS1 : SetAtK P w s'.heap S (ks.take i) := setOf_at hS fun o e => mv.heap S o nW e
    refine wpAny_bind (m := holding [v] (setAdd S v)) (wpAny_holding ?_)
    unfold setAdd
    refine wpAny_holding (wpAny_bind ((mixKind P w).pyHash (k := k) (kV_is rv) ?_))
    have hlen : (dlK (ks.take i)).length + 1 < scanBound := by
      have h1 := dl_le (ks.take i)
      have h2 : (ks.take i).length ≤ ks.length := by rw [List.length_take]; omega
      omega
    refine wpAny_setAddHashed_of (knd := mixKind P w) (s := { s' with toks := s'.toks + 1 }) (kV_is rv) (key_scan rv) hS1 hlen fun h' hsb hS2 => ?_
    have hS3 : SetAtK P w h' S (ks.take (i + 1)) := by
      have e : ks.take (i + 1) = ks.take i ++ [k] := by
        rw [List.take_add_one, hk]; rfl
      rw [e]
      unfold SetAtK
      rw [dl_snoc, put1_len]
      have e2 : (fun j => has (put1 (dlK (ks.take i)) k) j) = fun j => has (dlK (ks.take i)) j || decide (j = k) := funext fun j => has_put1 _ k j
      rw [e2]
      exact hS2
    refine wpAny_pure ⟨plainId_quiet F.plain_set_update_loop _, ih (i + 1) _ (by omega) hlt (W.frame _ s' _ _ hst' (Nat.le_succ _) fun b hb o e => ?_) hS3 fun s2 mv2 hS4 => ?_⟩
    · have nb : b ≠ S := fun z => hSf (z ▸ hb)
      rw [hsb.2 b nb]; exact e
    · refine hR s2 (Moved.trans W.gtrans ((mv.mono sb).then_heap (Nat.le_succ _) fun b o hb e => ?_) mv2) hS4
      have nb : b ≠ S := fun z => hb (z ▸ List.mem_cons_self)
      rw [hsb.2 b nb]; exact e

theorem flow_ret (fl : Flow) : (∃ v, fl = .ret v) ∨ ∀ {Q : Value → Shared → Prop} {E : Value → Shared → Prop} {s : Shared}, ¬ wants Q E (.ok fl) s := by
  cases fl with
  | ret v => exact .inl ⟨v, rfl⟩
  | _ => exact .inr fun z => z
abbrev freshSet (led : Bool) : Obj := { cls := .type "set", dict := none, data := .set #[] 0 (.fresh 0 0 led) }

theorem call_set_listK {l : Addr} {items : Array Value} (ks : List Key) {Q : Value → Shared → Prop} (hh : A.handled = none) (hl : s.heap.IsList l items) (hsz : items.size = ks.length) (hv : ∀ (i : Nat) (v : Value), items[i]? = some v → ∃ k, ks[i]? = some k ∧ RelV (kV k) v) (hb : ks.length + 1 < scanBound)
    (h : ∀ (h' : Heap) (tk : Nat), SetAtK P w h' s.heap.objs.size ks → (∀ b o, s.heap.get? b = some o → h'.get? b = some o) → Q (.ref s.heap.objs.size) { s with heap := h', toks := tk }) :
    wpAny (model P w) A (call (.type "set") [.ref l]) Q E s := by
  obtain ⟨c0, tl0, hmro⟩ := PySem.F.called_set.mro
  have hmd := PySem.F.called_set.made
  have hsb := PySem.F.called_set.sub
  have ht1 := PySem.F.called_set.notType
  have ht2 := PySem.F.called_set.canCreate
  have hct := PySem.F.typeCall_set_1 (.ref l)
  have hinit := PySem.F.called_set.init
  refine wpAny_call (codeAny_of_tree (show wpAny _ _ (callAny (.type "set") _) _ _ _ from ?_))
  refine wpAny_pure ⟨Code.quiet_builtin _ (by decide +kernel), codeAny_builtin PySem.F.entry_type_call ?_⟩
  rw [Around.under_plain (weight_type_call_type "set" [.ref l] []) rfl]
  repeat (any_goals (first | assumption | wp_step))
  refine codeAny_mono (code_set_new_1 (.ref l) (E := E) (Q₁ := fun ob s1 => ∃ led : Bool, ob = .ref s.heap.objs.size ∧ s1 = { s with heap := s.heap.push (freshSet led) }) fun led => ⟨led, rfl, rfl⟩) fun r s1 hr => ?_
  cases r with
  | error e => exact hr
  | ok fl =>
    rcases flow_ret fl with ⟨ob, rfl⟩ | hno
    case inr => exact (hno hr).elim
    obtain ⟨led, rfl, rfl⟩ := hr
    have g0 : (s.heap.push (freshSet led)).get? s.heap.objs.size = some (freshSet led) := Heap.get?_push_size _ rfl
    have ty0 : Shared.TypeIs { s with heap := s.heap.push (freshSet led) } (.ref s.heap.objs.size) "set" := ⟨_, g0, rfl⟩
    have lk0 := hinit.lookup
    have bd0 := hinit.bind (.ref s.heap.objs.size)
    repeat (any_goals (first | assumption | wp_step))
    refine codeAny_mono (codeAny_call_builtin (R := wants (fun r s2 => r = .none ∧ ∃ h' tk, s2 = { s with heap := h', toks := tk } ∧ SetAtK P w h' s.heap.objs.size ks ∧ ∀ b o, s.heap.get? b = some o → h'.get? b = some o) E)
      hinit.plain PySem.F.entry_set_init (check_set_init_1 ty0 ?_)) fun r2 s2 hr2 => ?_
    · obtain ⟨⟨oc, od, odt, osl⟩, gl, hc, nl, hd⟩ := hl
      dsimp only at hc hd
      subst hc
      subst hd
      have gl1 : (s.heap.push (freshSet led)).get? l = some { cls := .type "list", dict := od, data := .seq items nl, slots := osl } := Heap.get?_push_of_some _ gl
      have il : (s.heap.push (freshSet led)).IsList l items := ⟨_, gl1, rfl, nl, rfl⟩
      have s1 := PySem.F.sub_list_set
      have s2 := PySem.F.sub_list_frozenset
      have nd : (Value.type "list" == Value.type "dict") = false := by decide
      unfold Builtin.«set.__init__» noKeywords Builtin.Frozenset.updateFrom
      generalize hPI : pyIter = PI
      wp_walk
      subst hPI
      have lS : l < s.heap.objs.size := Heap.lt_size gl
      have z1 : (s.heap.push (freshSet led)).objs.size = s.heap.objs.size + 1 := Heap.size_push ..
      have nI : l ≠ (s.heap.push (freshSet led)).objs.size := by rw [z1]; exact Nat.ne_of_lt (Nat.lt_succ_of_lt lS)
      have hd3 : A.in1.in1.in1.handled = none := by simp [hh]
      refine wpAny_pyIter_list il (wpAny_bind (wpAny_runValue ?_))
      refine grow ((Walks.list hd3 _ l nI items).toS) s.heap.objs.size (by
        rw [z1]
        simp only [List.mem_cons, List.mem_singleton, List.not_mem_nil, or_false, not_or]
        exact ⟨Nat.ne_of_lt (Nat.lt_succ_self _), Nat.ne_of_gt lS⟩) ks hsz hb hv (items.size - 0) 0 _ (by omega) (Nat.zero_le _) ⟨⟨_, Heap.get?_push_size _ rfl, rfl, rfl⟩, il.push _⟩ ?st ?fin
      case st =>
        refine ⟨_, #[], 0, _, Heap.get?_push_of_some _ g0, ⟨rfl, rfl, rfl⟩, rfl, (fun e he => by simp at he), (fun k => by simp [dlK, has]), (by decide), (by rfl), rfl⟩
      case fin =>
        intro s3 mv hS
        obtain ⟨h3, g3, d3, t3, o3⟩ := s3
        obtain rfl : g3 = s.gens := mv.gens
        obtain rfl : d3 = s.drawn := mv.drawn
        obtain rfl : o3 = s.os := mv.os
        refine wpAny_pure (show wpAny _ _ (ret Value.none) _ _ _ from wpAny_pure ⟨rfl, h3, t3, rfl, hS, fun b o e => ?_⟩)
        have b0 : b < s.heap.objs.size := Heap.lt_size e
        refine mv.heap b o ?_ (Heap.get?_push_of_some _ (Heap.get?_push_of_some _ e))
        rw [z1]
        simp only [List.mem_cons, List.mem_singleton, List.not_mem_nil, or_false, not_or]
        exact ⟨Nat.ne_of_lt b0, Nat.ne_of_lt (Nat.lt_succ_of_lt b0)⟩
    · cases r2 with
      | error e => exact hr2
      | ok fl2 =>
        rcases flow_ret fl2 with ⟨rv, rfl⟩ | hno
        case inr => exact (hno hr2).elim
        obtain ⟨rfl, h3, t3, rfl, hS, hk⟩ := hr2
        repeat (any_goals (first | assumption | wp_step))
        exact h _ _ hS hk

theorem call_set_tupleK {l : Addr} {items : Array Value} (ks : List Key) {Q : Value → Shared → Prop} (hh : A.handled = none) (hl : s.heap.IsTuple l items) (hsz : items.size = ks.length) (hv : ∀ (i : Nat) (v : Value), items[i]? = some v → ∃ k, ks[i]? = some k ∧ RelV (kV k) v) (hb : ks.length + 1 < scanBound)
    (h : ∀ (h' : Heap) (tk : Nat), SetAtK P w h' s.heap.objs.size ks → (∀ b o, s.heap.get? b = some o → h'.get? b = some o) → Q (.ref s.heap.objs.size) { s with heap := h', toks := tk }) :
    wpAny (model P w) A (call (.type "set") [.ref l]) Q E s := by
  obtain ⟨c0, tl0, hmro⟩ := PySem.F.called_set.mro
  have hmd := PySem.F.called_set.made
  have hsb := PySem.F.called_set.sub
  have ht1 := PySem.F.called_set.notType
  have ht2 := PySem.F.called_set.canCreate
  have hct := PySem.F.typeCall_set_1 (.ref l)
  have hinit := PySem.F.called_set.init
  refine wpAny_call (codeAny_of_tree (show wpAny _ _ (callAny (.type "set") _) _ _ _ from ?_))
  refine wpAny_pure ⟨Code.quiet_builtin _ (by decide +kernel), codeAny_builtin PySem.F.entry_type_call ?_⟩
  rw [Around.under_plain (weight_type_call_type "set" [.ref l] []) rfl]
  repeat (any_goals (first | assumption | wp_step))
  refine codeAny_mono (code_set_new_1 (.ref l) (E := E) (Q₁ := fun ob s1 => ∃ led : Bool, ob = .ref s.heap.objs.size ∧ s1 = { s with heap := s.heap.push (freshSet led) }) fun led => ⟨led, rfl, rfl⟩) fun r s1 hr => ?_
  cases r with
  | error e => exact hr
  | ok fl =>
    rcases flow_ret fl with ⟨ob, rfl⟩ | hno
    case inr => exact (hno hr).elim
    obtain ⟨led, rfl, rfl⟩ := hr
    have g0 : (s.heap.push (freshSet led)).get? s.heap.objs.size = some (freshSet led) := Heap.get?_push_size _ rfl
    have ty0 : Shared.TypeIs { s with heap := s.heap.push (freshSet led) } (.ref s.heap.objs.size) "set" := ⟨_, g0, rfl⟩
    have lk0 := hinit.lookup
    have bd0 := hinit.bind (.ref s.heap.objs.size)
    repeat (any_goals (first | assumption | wp_step))
    refine codeAny_mono (codeAny_call_builtin (R := wants (fun r s2 => r = .none ∧ ∃ h' tk, s2 = { s with heap := h', toks := tk } ∧ SetAtK P w h' s.heap.objs.size ks ∧ ∀ b o, s.heap.get? b = some o → h'.get? b = some o) E)
      hinit.plain PySem.F.entry_set_init (check_set_init_1 ty0 ?_)) fun r2 s2 hr2 => ?_
    · obtain ⟨⟨oc, od, odt, osl⟩, gl, hc, nl, hd⟩ := hl
      dsimp only at hc hd
      subst hc
      subst hd
      have gl1 : (s.heap.push (freshSet led)).get? l = some { cls := .type "tuple", dict := od, data := .seq items nl, slots := osl } := Heap.get?_push_of_some _ gl
      have il : (s.heap.push (freshSet led)).IsTuple l items := ⟨_, gl1, rfl, nl, rfl⟩
      have s1 := PySem.F.sub_tuple_set
      have s2 := PySem.F.sub_tuple_frozenset
      have nd : (Value.type "tuple" == Value.type "dict") = false := by decide
      unfold Builtin.«set.__init__» noKeywords Builtin.Frozenset.updateFrom
      generalize hPI : pyIter = PI
      wp_walk
      subst hPI
      have lS : l < s.heap.objs.size := Heap.lt_size gl
      have z1 : (s.heap.push (freshSet led)).objs.size = s.heap.objs.size + 1 := Heap.size_push ..
      have nI : l ≠ (s.heap.push (freshSet led)).objs.size := by rw [z1]; exact Nat.ne_of_lt (Nat.lt_succ_of_lt lS)
      have hd3 : A.in1.in1.in1.handled = none := by simp [hh]
      refine wpAny_pyIter_tuple il (wpAny_bind (wpAny_runValue ?_))
      refine grow ((Walks.tuple hd3 _ l nI items).toS) s.heap.objs.size (by
        rw [z1]
        simp only [List.mem_cons, List.mem_singleton, List.not_mem_nil, or_false, not_or]
        exact ⟨Nat.ne_of_lt (Nat.lt_succ_self _), Nat.ne_of_gt lS⟩) ks hsz hb hv (items.size - 0) 0 _ (by omega) (Nat.zero_le _) ⟨⟨_, Heap.get?_push_size _ rfl, rfl, rfl⟩, il.push _⟩ ?st ?fin
      case st =>
        refine ⟨_, #[], 0, _, Heap.get?_push_of_some _ g0, ⟨rfl, rfl, rfl⟩, rfl, (fun e he => by simp at he), (fun k => by simp [dlK, has]), (by decide), (by rfl), rfl⟩
      case fin =>
        intro s3 mv hS
        obtain ⟨h3, g3, d3, t3, o3⟩ := s3
        obtain rfl : g3 = s.gens := mv.gens
        obtain rfl : d3 = s.drawn := mv.drawn
        obtain rfl : o3 = s.os := mv.os
        refine wpAny_pure (show wpAny _ _ (ret Value.none) _ _ _ from wpAny_pure ⟨rfl, h3, t3, rfl, hS, fun b o e => ?_⟩)
        have b0 : b < s.heap.objs.size := Heap.lt_size e
        refine mv.heap b o ?_ (Heap.get?_push_of_some _ (Heap.get?_push_of_some _ e))
        rw [z1]
        simp only [List.mem_cons, List.mem_singleton, List.not_mem_nil, or_false, not_or]
        exact ⟨Nat.ne_of_lt b0, Nat.ne_of_lt (Nat.lt_succ_of_lt b0)⟩
    · cases r2 with
      | error e => exact hr2
      | ok fl2 =>
        rcases flow_ret fl2 with ⟨rv, rfl⟩ | hno
        case inr => exact (hno hr2).elim
        obtain ⟨rfl, h3, t3, rfl, hS, hk⟩ := hr2
        repeat (any_goals (first | assumption | wp_step))
        exact h _ _ hS hk
end
end PvS
end
section
set_option Elab.async false
set_option linter.all false
set_option autoImplicit false
set_option maxRecDepth 100000
set_option maxHeartbeats 1000000
/-! len(set(a)), sorted(set(a)). -/
namespace Pv
open PySem PySem.Spec PyProof.Rows L2 PvS
theorem keyD_V {m : Md} {sr : Option (Addr × Addr × Addr)} {H : Hp} {d : D} {v : V} {k : Key} (h : keyD d = some k) (r : Rp m sr H v d) : v = kV k := by
  cases r <;> first | (cases h; done) | (cases h; rfl)
theorem keysD_V {m : Md} {sr : Option (Addr × Addr × Addr)} {H : Hp} : ∀ {ds : List D} {vs : List V} {ks : List Key}, ds.mapM keyD = some ks → Rps m sr H vs ds → vs = ks.map kV
  | [], _, ks, h, .nil => by simp at h; subst h; rfl
  | d :: ds, _, ks, h, .cons r t => by
    rw [List.mapM_cons] at h
    cases h1 : keyD d with
    | none => rw [h1] at h; cases h
    | some k =>
      rw [h1] at h
      cases h2 : ds.mapM keyD with
      | none => rw [h2] at h; cases h
      | some ks' =>
        rw [h2] at h
        cases h
        rw [keyD_V h1 r, keysD_V h2 t]
        rfl
section
variable {X : Cx}
/-- set(xs) -/
theorem cr_setK (hc : X.calm = true) : CallR X (.type "set") (fun xs H Q => ∃ (l : Addr) (ks : List Key), xs = [.ref l] ∧ (SqL X.K H l (ks.map kV) ∨ SqT X.K H l (ks.map kV)) ∧ ks.length + 1 < scanBound ∧ ∀ p, H p = none → Q (.ref p) (upd H p (SetK X.prog X.w p (fun j => has (dlK ks) j) (dlK ks).length))) := by
  intro pins s σ H xs us Q I r h
  obtain ⟨l, ks, rfl, hq, hb, q⟩ := h
  rw [Vals.ref1 r]
  have fin : ∀ (h' : Heap) (tk : Nat), SetAtK X.prog X.w h' s.heap.objs.size ks → (∀ b o, s.heap.get? b = some o → h'.get? b = some o) → EP X pins σ Q (.ref s.heap.objs.size) { s with heap := h', toks := tk } := fun h' tk R k =>
    ⟨.ref s.heap.objs.size, _, I.laid (t' := tk) k (Nat.le_refl _) (setK_new R), rfl, q _ (I.hok.fresh (Nat.le_refl _))⟩
  have hv : ∀ {its : List Value}, Vals (ks.map kV) its → ∀ (i : Nat) (v : Value), its.toArray[i]? = some v → ∃ k, ks[i]? = some k ∧ RelV (kV k) v := fun {its} rv i v hi => by
    have hi' : its[i]? = some v := by simpa using hi
    have hlt : i < its.length := (List.getElem?_eq_some_iff.mp hi').1
    have hlk : i < ks.length := by
      have := rv.length
      rw [List.length_map] at this
      omega
    obtain ⟨u, hu, ru⟩ := rv.get (i := i) (x := kV ks[i]) (by rw [List.getElem?_map, List.getElem?_eq_getElem hlk]; rfl)
    rw [hi'] at hu
    cases hu
    exact ⟨ks[i], List.getElem?_eq_getElem hlk, ru⟩
  rcases hq with hq | hq
  · obtain ⟨its, rv, pl, hz⟩ := I.list hq
    exact call_set_listK ks (I.ok.hd hc) pl.isList (by have := rv.length; simp at this; simp [this]) (hv rv) hb fin
  · obtain ⟨its, rv, pl, hz⟩ := I.tuple hq
    exact call_set_tupleK ks (I.ok.hd hc) pl (by have := rv.length; simp at this; simp [this]) (hv rv) hb fin
/-- len of a set of keys -/
theorem cr_lenK : CallR X (.builtin "len") (fun xs H Q => ∃ (p : Addr) (S : Key → Bool) (n : Nat), xs = [.ref p] ∧ H p = some (SetK X.prog X.w p S n) ∧ n < scanBound ∧ Q (.int n) H) := by
  intro pins s σ H xs us Q I r h
  obtain ⟨p, S, n, rfl, hp, hn0, q⟩ := h
  rw [Vals.ref1 r]
  obtain ⟨o, es, ep, t, ho, hex, hd, _, _, _, hf, hn⟩ := setK_get I hp
  exact call_len_set ho hex hd hf (by rw [hn]; unfold scanBound at hn0; omega) ⟨.int n, H, I.tok _, ⟨_, by rw [hn]⟩, q⟩

/-- a set of a tuple of numbers -/
theorem cr_setI (hc : X.calm = true) : CallR X (.type "set") (fun xs H Q => ∃ (l : Addr) (ns : List Int), xs = [.ref l] ∧ SqT X.K H l (ns.map V.int) ∧ ns.length + 1 < scanBound ∧ ∀ p c, H p = none → c ≤ ns.length → Q (.ref p) (upd H p (SetO X.w p (fun j => decide (j ∈ ns)) c))) := by
  intro pins s σ H xs us Q I r h
  obtain ⟨l, ns, rfl, hq, hb, q⟩ := h
  rw [Vals.ref1 r]
  obtain ⟨its, rv, pl, hz⟩ := I.tuple hq
  refine call_set_tupI ns (I.ok.hd hc) pl (by simpa using ints_of_vals rv) hb fun h' tk c R hcl k => ?_
  exact ⟨.ref s.heap.objs.size, _, I.laid (t' := tk) k (Nat.le_refl _) (setO_new R), rfl, q _ _ (I.hok.fresh (Nat.le_refl _)) hcl⟩
theorem ins_mem (x k : Int) : ∀ l : List Int, k ∈ insSorted x l ↔ k = x ∨ k ∈ l
  | [] => by simp [insSorted]
  | y :: r => by
    unfold insSorted
    split
    · simp
    · split
      · rename_i h
        subst h
        simp
      · rw [List.mem_cons, ins_mem x k r, List.mem_cons]
        constructor
        · rintro (z | z | z)
          · exact .inr (.inl z)
          · exact .inl z
          · exact .inr (.inr z)
        · rintro (z | z | z)
          · exact .inr (.inl z)
          · exact .inl z
          · exact .inr (.inr z)
theorem ins_pw (x : Int) : ∀ l : List Int, l.Pairwise (· < ·) → (insSorted x l).Pairwise (· < ·)
  | [], _ => by simp [insSorted]
  | y :: r, h => by
    obtain ⟨h1, h2⟩ := List.pairwise_cons.mp h
    unfold insSorted
    split
    · rename_i hx
      refine List.pairwise_cons.mpr ⟨fun z hz => ?_, h⟩
      rcases List.mem_cons.mp hz with e | e
      · rw [e]; exact hx
      · have := h1 z e; omega
    · split
      · exact h
      · rename_i hx hy
        refine List.pairwise_cons.mpr ⟨fun z hz => ?_, ins_pw x r h2⟩
        rcases (ins_mem x z r).mp hz with e | e
        · rw [e]; omega
        · exact h1 z e
theorem sortSet_mem (k : Int) : ∀ l : List Int, k ∈ sortSet l ↔ k ∈ l
  | [] => by simp [sortSet]
  | x :: r => by
    show k ∈ insSorted x (sortSet r) ↔ _
    rw [ins_mem, sortSet_mem k r, List.mem_cons]
theorem sortSet_pw : ∀ l : List Int, (sortSet l).Pairwise (· < ·)
  | [] => .nil
  | x :: r => ins_pw x _ (sortSet_pw r)
theorem sorted_uniq : ∀ {a b : List Int}, a.Pairwise (· < ·) → b.Pairwise (· < ·) → (∀ k, k ∈ a ↔ k ∈ b) → a = b
  | [], [], _, _, _ => rfl
  | [], y :: r, _, _, h => absurd ((h y).mpr List.mem_cons_self) (by simp)
  | x :: l, [], _, _, h => absurd ((h x).mp List.mem_cons_self) (by simp)
  | x :: l, y :: r, h1, h2, h => by
    obtain ⟨a1, a2⟩ := List.pairwise_cons.mp h1
    obtain ⟨b1, b2⟩ := List.pairwise_cons.mp h2
    have e : x = y := by
      rcases List.mem_cons.mp ((h x).mp List.mem_cons_self) with z | z
      · exact z
      · rcases List.mem_cons.mp ((h y).mpr List.mem_cons_self) with w | w
        · exact w.symm
        · have := b1 x z
          have := a1 y w
          omega
    subst e
    have : l = r := sorted_uniq a2 b2 fun k => by
      constructor
      · intro hk
        rcases List.mem_cons.mp ((h k).mp (List.mem_cons_of_mem _ hk)) with z | z
        · have := a1 k hk; omega
        · exact z
      · intro hk
        rcases List.mem_cons.mp ((h k).mpr (List.mem_cons_of_mem _ hk)) with z | z
        · have := b1 k hk; omega
        · exact z
    rw [this]
end
end Pv
end
section
set_option Elab.async false
set_option linter.all false
set_option autoImplicit false
set_option maxRecDepth 100000
set_option maxHeartbeats 1000000
/-! Calls; a list of the def's own that changes. -/
namespace Pv
open PySem PySem.Spec PyProof.Rows L2
section
variable {c : Cf} {k n : Nat} {X : Cx} {b : Bk} {WW : WX} {W0 W : Wl} {σ : L2.St} {e : List Sl} {w : Wd} {r : ER D} {Q : VK}
/-- a list of the def's own is written -/
theorem SR.wrOwn {m : Md} (s : SR m W0 W σ e w) {i : Nat} {xs ys : List D} {p : Addr} {vs : List V} (h : e[i]? = some (Sl.own xs)) (hσ : σ[i]? = some (some (V.ref p))) (r : RWs m W vs ys) :
    SR m W0 (W.put (upd W.h p (.lst vs))) σ (e.set i (.own ys)) w ∧ Lx W (W.put (upd W.h p (.lst vs))) := by
  obtain ⟨p', vs', g1, g2, g3, g4, g5, g6⟩ := s.own i xs h
  rw [hσ] at g1
  cases g1
  have ve : Same W.vis (W.put (upd W.h p (.lst vs))).vis := fun a o ea => by
    obtain ⟨q1, q2, q3⟩ := vis_some ea
    refine vis_of ?_ q2 q3
    show upd W.h p (.lst vs) a = some o
    rw [upd_ne (show a ≠ p from fun z => by subst z; exact q2 g2)]
    exact q1
  have le : Le W (W.put (upd W.h p (.lst vs))) := ⟨ve, .inr rfl⟩
  refine ⟨?_, le, fun a h => h⟩
  exact {
    len := by rw [List.length_set]; exact s.len
    val := fun j d hj => by
      rcases get_set hj with ⟨_, z⟩ | ⟨_, hj⟩
      · cases z
      · obtain ⟨v, q1, q2⟩ := s.val j d hj
        exact ⟨v, q1, le.rp q2⟩
    own := fun j zs hj => by
      rcases get_set hj with ⟨q, z⟩ | ⟨q, hj⟩
      · cases z; subst q
        exact ⟨p, vs, hσ, g2, g3, upd_same, g5, le.rps r⟩
      · obtain ⟨p2, vs2, q1, q2, q3, q4, q5, q6⟩ := s.own j zs hj
        refine ⟨p2, vs2, q1, q2, q3, ?_, q5, le.rps q6⟩
        show upd W.h p (.lst vs) p2 = _
        rw [upd_ne (show p2 ≠ p from fun z => by subst z; exact q (s.ap i j p2 xs zs h hj hσ q1))]
        exact q4
    ap := fun j j' p xs' ys' h1 h2 k1 k2 => by
      have cv : ∀ (j : Nat) zs, (e.set i (Sl.own ys))[j]? = some (Sl.own zs) → ∃ zs', e[j]? = some (Sl.own zs') := fun j zs hj => by
        rcases get_set hj with ⟨q, z⟩ | ⟨q, hj⟩
        · subst q; exact ⟨_, h⟩
        · exact ⟨_, hj⟩
      obtain ⟨_, a1⟩ := cv j _ h1
      obtain ⟨_, a2⟩ := cv j' _ h2
      exact s.ap j j' p _ _ a1 a2 k1 k2
    wr := by
      have := s.wr
      cases w with
      | none => exact this
      | some q =>
        obtain ⟨ds, nn⟩ := q
        obtain ⟨a, b', c', e1, h1, h2, h3, h4⟩ := this
        refine ⟨a, b', c', e1, ve _ _ h1, ve _ _ h2, ?_, h4⟩
        show upd W.h p (.lst vs) c' = _
        rw [upd_ne (show c' ≠ p from fun z => by subst z; exact g5 a b' e1)]
        exact h3
    hdok := fun a ha z => by
      by_cases q : a = p
      · subst q
        have : upd W.h a (HO.lst vs) a = none := z
        rw [upd_same] at this; cases this
      · have : upd W.h p (HO.lst vs) a = none := z
        rw [upd_ne q] at this
        exact s.hdok a ha this
    fm := ⟨fun a o ha hn => by
      show upd W.h p (HO.lst vs) a = some o
      rw [upd_ne (show a ≠ p from fun z => by subst z; rw [g3] at ha; cases ha)]
      exact s.fm.1 a o ha hn, s.fm.2.1, s.fm.2.2⟩
    hd0 := s.hd0
    hd1 := s.hd1
    hdok0 := s.hdok0 }
theorem few_ok {args : List Expr} {env : Env} {pos : Pos} (h3 : args.length < 29) (h4 : args.any isStar = false) : ((backTo pos (starEach args env)).all (fun x => !x.1) && (backToKw pos (keywordEach [] env)).all (fun x => x.1.isSome)
      && decide (args.length + ([] : List Keyword).length + (if ([] : List Keyword).isEmpty then 0 else 1) < 30)) = true := by
  have ha : (backTo pos (starEach args env)).all (fun x => !x.1) = true := by
    have := star_any (env := env) (pos := pos) h4
    rw [List.all_eq_not_any_not]
    simpa using this
  rw [ha]
  simp [keywordEach, backToKw]
  omega
theorem s_evOwn (I : S_all c k n) : S_evOwn c k (n + 1) := by
  intro X b WW C W0 W σ e w o i xs m args apos pos r Q ho hl hlen hst h s F
  obtain ⟨y, p0, rfl, n1, n2, n3, n4⟩ := own_name ho
  unfold evOwn at h
  split at h
  · rename_i hm
    subst hm
    split at h
    · rename_i a
      split at h
      · cases h
      rename_i hsa
      have hsa : isStar a = false := by simpa using hsa
      refine re_of (pe_bm PySem.F.plainAttrs_list PySem.F.slot_list_append PySem.F.type_list_append mt_append pe_self (pa_cons pe_self pa_nil (star_no hsa)) (base_eq rfl) (few_ok hlen hst) hl (star_no hsa) rfl) ?_
      refine re_own C s ho fun p vs hσ _ _ h1 h2 => ⟨.inl ⟨rfl, vs, SqL.of h1⟩, ?_⟩
      refine bindE I.ev C s h F fun d1 e1 w1 v1 W1 h s l1 r1 F => ?_
      split at h
      · rename_i ys hy
        split at h
        · rename_i hz
          cases h
          obtain ⟨p', vs', g1, g2, g3, g4, g5, g6⟩ := s.own i ys hy
          rw [hσ] at g1
          cases g1
          obtain ⟨s2, l2⟩ := s.wrOwn hy hσ (Rps.append g6 (.cons r1 .nil))
          exact ⟨p, _, v1, rfl, rfl, g4, by rw [g6.length]; exact lt_sm hz, F _ _ s2 l2 .non⟩
        · cases h
      · cases h
    · cases h
  split at h
  · rename_i hm
    subst hm
    split at h
    · rename_i a
      split at h
      · cases h
      rename_i hsa
      have hsa : isStar a = false := by simpa using hsa
      refine re_of (pe_bm PySem.F.plainAttrs_list PySem.F.slot_list_extend PySem.F.type_list_extend mt_extend pe_self (pa_cons pe_self pa_nil (star_no hsa)) (base_eq rfl) (few_ok hlen hst) hl (star_no hsa) rfl) ?_
      refine re_own C s ho fun p vs hσ _ _ h1 h2 => ⟨.inl ⟨rfl, vs, SqL.of h1⟩, ?_⟩
      refine bindE I.ev C s h F fun d1 e1 w1 v1 W1 h s l1 r1 F => ?_
      split at h
      · rename_i ys zs hy
        split at h
        · rename_i hz
          cases h
          obtain ⟨p', vs', g1, g2, g3, g4, g5, g6⟩ := s.own i ys hy
          rw [hσ] at g1
          cases g1
          cases r1 with
          | lst hb r1 =>
            obtain ⟨s2, l2⟩ := s.wrOwn hy hσ (Rps.append g6 r1)
            exact ⟨p, _, _, _, rfl, rfl, g4, vis_sub W1 _ _ hb, by rw [g6.length, r1.length]; exact sm hz, F _ _ s2 l2 .non⟩
        · cases h
      · cases h
    · cases h
  split at h
  · rename_i hm
    subst hm
    split at h
    · rename_i a
      split at h
      · cases h
      rename_i hsa
      have hsa : isStar a = false := by simpa using hsa
      refine re_of (pe_bm PySem.F.plainAttrs_list PySem.F.slot_list_pop PySem.F.type_list_pop mt_popAt pe_self (pa_cons pe_self pa_nil (star_no hsa)) (base_eq rfl) (few_ok hlen hst) hl (star_no hsa) rfl) ?_
      refine re_own C s ho fun p vs hσ _ _ h1 h2 => ⟨.inl ⟨rfl, vs, SqL.of h1⟩, ?_⟩
      refine bindE I.ev C s h F fun d1 e1 w1 v1 W1 h s l1 r1 F => ?_
      split at h
      · rename_i ys j hy
        split at h
        · rename_i hz
          split at h
          · rename_i d hd
            cases h
            cases r1
            obtain ⟨p', vs', g1, g2, g3, g4, g5, g6⟩ := s.own i ys hy
            rw [hσ] at g1
            cases g1
            obtain ⟨v, hv, rv⟩ := g6.get hd
            obtain ⟨s2, l2⟩ := s.wrOwn hy hσ (Rps.eraseIdx j.toNat g6)
            have hix : ixN vs'.length j = some j.toNat := by
              unfold ixN
              rw [if_pos hz.1, if_pos (by rw [g6.length]; exact hz.2.1)]
            exact ⟨p, _, _, j.toNat, v, rfl, rfl, g4, by omega, by omega, (ixN_seq hix).1, hv, F _ _ s2 l2 (l2.le.rp rv)⟩
          · cases h
        · cases h
      · cases h
    · cases h
  · cases h
end
end Pv
end
section
set_option Elab.async false
set_option linter.all false
set_option autoImplicit false
set_option maxRecDepth 100000
set_option maxHeartbeats 1000000
/-! Built-in names called; defs, classes, methods called. -/
namespace Pv
open PySem PySem.Spec PyProof.Rows L2
section
variable {c : Cf} {k n : Nat} {X : Cx} {b : Bk} {WW : WX} {W0 W : Wl} {σ : L2.St} {e : List Sl} {w : Wd} {r : ER D} {Q : VK}
/-- len(set(a)) -/
theorem re_lenSet {a : Expr} {p p2 q pos : Pos} (C : CO X c b WW k) (g1 : isGl b.sc "len" = true) (g2 : isGl b.sc "set" = true) (b1 : c.bi "len" = true) (b2 : c.bi "set" = true) (hsa : isStar a = false)
    (h : RE X a σ W.h (fun v H => ∃ (W1 : Wl) (ds : List D) (j : Nat), W1.h = H ∧ Gd W1 ∧ (RW (mdOf X) W1 v (.lst ds) ∨ RW (mdOf X) W1 v (.tup ds)) ∧ lenSet ds = some j ∧ ∀ W2, Kp W1 W2 → Q (.int (j : Nat)) W2.h)) : RE X (.Call (.Name "len" p) [.Call (.Name "set" p2) [a] [] q] [] pos) σ W.h Q := by
  have hm1 : X.mg "len" = none := C.mf.bi _ b1
  have hm2 : X.mg "set" = none := C.mf.bi _ b2
  refine re_of (pe_callB (t := RA X [.Call (.Name "set" p2) [a] [] q]) cr_lenK (C.gl g1) hm1 (by decide +kernel) pa_self (by decide) (by decide) rfl rfl) ?_
  refine ra_of (pa_cons (te := RE X (.Call (.Name "set" p2) [a] [] q)) pe_self pa_nil rfl) ?_
  refine re_of (pe_callTy (t := RA X [a]) (cr_setK C.calm) (C.gl g2) hm2 (by decide +kernel) pa_self (by decide) (by decide) (star_no hsa) rfl) ?_
  refine ra_of (pa_cons (te := RE X a) pe_self pa_nil (star_no hsa)) ?_
  intro pins sh I
  refine wpAny_mono (h pins sh I) (fun u s1 hh => ?_) fun _ _ z => z
  obtain ⟨v, H1, I1, r1, W1, xs, j, rfl, g, hr, hl, hq⟩ := hh
  refine ⟨v, _, I1, r1, ?_⟩
  unfold lenSet at hl
  cases hk : xs.mapM keyD with
  | none => rw [hk] at hl; cases hl
  | some ks =>
    rw [hk] at hl
    dsimp only at hl
    split at hl
    · rename_i hlt
      cases hl
      have hb : ks.length + 1 < scanBound := by unfold scanBound; omega
      have hd := PvS.dl_le ks
      have fin : ∀ p, W1.h p = none → _ := fun p hp => hq (W1.put (upd W1.h p (SetK X.prog X.w p (fun j => has (dlK ks) j) (dlK ks).length))) (Kp.new hp)
      rcases hr with hr | hr
      · cases hr with
        | lst ha rs =>
          have e := keysD_V hk rs
          subst e
          exact ⟨_, ks, rfl, .inl (SqL.of (vis_sub W1 _ _ ha)), hb, fun p hp => ⟨p, _, _, rfl, upd_same, by unfold scanBound; omega, fin p hp⟩⟩
      · cases hr with
        | tup ha rs =>
          have e := keysD_V hk rs
          subst e
          exact ⟨_, ks, rfl, .inr (sqT_ex (vis_sub W1) ha), hb, fun p hp => ⟨p, _, _, rfl, upd_same, by unfold scanBound; omega, fin p hp⟩⟩
    · cases hl
/-- sorted(set(a)) -/
theorem re_sortSet {a : Expr} {p p2 q pos : Pos} (C : CO X c b WW k) (g1 : isGl b.sc "sorted" = true) (g2 : isGl b.sc "set" = true) (b1 : c.bi "sorted" = true) (b2 : c.bi "set" = true) (hsa : isStar a = false)
    (h : RE X a σ W.h (fun v H => ∃ (W1 : Wl) (ns : List Int), W1.h = H ∧ Gd W1 ∧ RW (mdOf X) W1 v (.tup (ns.map D.int)) ∧ ns.length < 64 ∧ ∀ v W2, Kp W1 W2 → RW (mdOf X) W2 v (.lst ((sortSet ns).map D.int)) → Q v W2.h)) : RE X (.Call (.Name "sorted" p) [.Call (.Name "set" p2) [a] [] q] [] pos) σ W.h Q := by
  have hm1 : X.mg "sorted" = none := C.mf.bi _ b1
  have hm2 : X.mg "set" = none := C.mf.bi _ b2
  refine re_of (pe_callB (t := RA X [.Call (.Name "set" p2) [a] [] q]) (cr_sortedSet C.calm) (C.gl g1) hm1 (by decide +kernel) pa_self (by decide) (by decide) rfl rfl) ?_
  refine ra_of (pa_cons (te := RE X (.Call (.Name "set" p2) [a] [] q)) pe_self pa_nil rfl) ?_
  refine re_of (pe_callTy (t := RA X [a]) (cr_setI C.calm) (C.gl g2) hm2 (by decide +kernel) pa_self (by decide) (by decide) (star_no hsa) rfl) ?_
  refine ra_of (pa_cons (te := RE X a) pe_self pa_nil (star_no hsa)) ?_
  intro pins sh I
  refine wpAny_mono (h pins sh I) (fun u s1 hh => ?_) fun _ _ z => z
  obtain ⟨v, H1, I1, r1, W1, ns, rfl, g, hr, hl, hq⟩ := hh
  refine ⟨v, _, I1, r1, ?_⟩
  cases hr with
  | tup ha rs =>
    have e := Rps.ints rs
    subst e
    refine ⟨_, ns, rfl, sqT_ex (vis_sub W1) ha, by unfold scanBound; omega, fun p c' hp hc => ⟨p, _, _, rfl, upd_same, by omega, fun out p' hpw hmem hlen hp' => ?_⟩⟩
    have e2 : out = sortSet ns := sorted_uniq hpw (sortSet_pw ns) fun k => by rw [hmem, sortSet_mem, decide_eq_true_iff]
    subst e2
    have k1 : Kp W1 (W1.put (upd W1.h p (SetO X.w p (fun j => decide (j ∈ ns)) c'))) := Kp.new hp
    have k2 : Kp (W1.put (upd W1.h p (SetO X.w p (fun j => decide (j ∈ ns)) c'))) ((W1.put (upd W1.h p (SetO X.w p (fun j => decide (j ∈ ns)) c'))).put (upd (upd W1.h p (SetO X.w p (fun j => decide (j ∈ ns)) c')) p' (.lst ((sortSet ns).map V.int)))) := Kp.new hp'
    have g2' : Gd (W1.put (upd W1.h p (SetO X.w p (fun j => decide (j ∈ ns)) c'))) := ⟨g.hk.kp k1, fun x y c z e => by
      have := g.hs x y c z
      cases q : W1.h c with
      | none => exact this q
      | some o =>
        have := k1.ex c o q
        rw [e] at this; cases this⟩
    exact hq (.ref p') _ (k1.trans k2) (.lst (vis_new hp' g2'.hk g2'.hs) (Rps.of_ints _))
/-- a call of a built-in name with one rule behind it -/
theorem re_bi {g : Str} {args : List Expr} {p pos : Pos} {kk : Bool} {id : String} (C : CO X c b WW k) (hn : okN g = true) (hg : isGl b.sc g = true) (hb : c.bi g = true) (hst : args.any isStar = false) (hne : args.isEmpty = false) (hk : biK g = some (kk, id))
    (h : RA X args σ W.h (fun vs H => BC X (if kk = true then .builtin id else .type id) vs H Q)) : RE X (.Call (.Name g p) args [] pos) σ W.h Q := by
  cases args with
  | nil => cases hne
  | cons a as =>
    rw [List.any_cons, Bool.or_eq_false_iff] at hst
    cases kk with
    | true => exact re_of (pe_callB (t := RA X (a :: as)) cr_self (C.gl hg) (C.mf.bi g hb) (bi_fn hk) pa_self (okN_3 hn) (okN_1 hn) (star_no hst.1) (star_any hst.2)) h
    | false => exact re_of (pe_callTy (t := RA X (a :: as)) cr_self (C.gl hg) (C.mf.bi g hb) (bi_ty hk) pa_self (okN_3 hn) (okN_1 hn) (star_no hst.1) (star_any hst.2)) h
theorem biD_K {cl : Str → Bool} {g : Str} {ds : List D} {d : D} (h : biD cl g ds = some d) : ∃ kk id, biK g = some (kk, id) := by
  unfold biD at h
  unfold biK
  repeat' (split at h)
  all_goals first | (cases h; done) | skip
  all_goals (repeat' split)
  all_goals first | exact ⟨_, _, rfl⟩ | (exfalso; contradiction) | skip
theorem kK_of {g : Str} (h : g = "len" ∨ g = "tuple" ∨ g = "list") : ∃ kk id, biK g = some (kk, id) := by
  rcases h with rfl | rfl | rfl
  · exact ⟨true, "len", rfl⟩
  · exact ⟨false, "tuple", rfl⟩
  · exact ⟨false, "list", rfl⟩
theorem set_arg {args : List Expr} {a : Expr} (h : setArg args = some a) : ∃ p q, args = [.Call (.Name "set" p) [a] [] q] ∧ isStar a = false := by
  unfold setArg at h
  split at h
  · rename_i s p a' q
    split at h
    · rename_i hc
      cases h
      rw [Bool.and_eq_true] at hc
      have e := of_decide_eq_true hc.1
      subst e
      exact ⟨p, q, rfl, by simpa using hc.2⟩
    · cases h
  · cases h
theorem s_evBi (I : S_all c k n) : S_evBi c k (n + 1) := by
  intro X b WW C W0 W σ e w g args p pos r Q hn hg hb hst h s F
  unfold evBi at h
  split at h
  · rename_i hc
    simp only [Bool.and_eq_true, decide_eq_true_eq] at hc
    obtain ⟨⟨⟨hg1, hs1⟩, hs2⟩, _⟩ := hc
    subst hg1
    split at h
    · rename_i a ha
      obtain ⟨p2, q2, rfl, hsa⟩ := set_arg ha
      refine re_lenSet C hg hs2 hb hs1 hsa ?_
      refine bindE I.ev C s h F fun d1 e1 w1 v1 W1 h s l1 r1 F => ?_
      split at h
      · split at h
        · rename_i j hj
          cases h
          exact ⟨W1, _, j, rfl, s.gd, .inl r1, hj, fun W2 kp => F _ W2 (s.kp kp) kp.lx (.int _)⟩
        · cases h
      · split at h
        · rename_i j hj
          cases h
          exact ⟨W1, _, j, rfl, s.gd, .inr r1, hj, fun W2 kp => F _ W2 (s.kp kp) kp.lx (.int _)⟩
        · cases h
      · cases h
    · cases h
  rename_i hno1
  split at h
  · rename_i hc
    simp only [Bool.and_eq_true, decide_eq_true_eq] at hc
    obtain ⟨⟨⟨hg1, hs1⟩, hs2⟩, _⟩ := hc
    subst hg1
    split at h
    · rename_i a ha
      obtain ⟨p2, q2, rfl, hsa⟩ := set_arg ha
      refine re_sortSet C hg hs2 hb hs1 hsa ?_
      refine bindE I.ev C s h F fun d1 e1 w1 v1 W1 h s l1 r1 F => ?_
      split at h
      · split at h
        · rename_i ns hns
          split at h
          · rename_i h64
            cases h
            have e := ints_of hns
            subst e
            exact ⟨W1, ns, rfl, s.gd, r1, h64, fun v W2 kp rv => F v W2 (s.kp kp) kp.lx rv⟩
          · cases h
        · cases h
      · cases h
    · cases h
  rename_i hno2
  split at h
  · cases h
  rename_i hno3
  have hK : ∃ kk id, biK g = some (kk, id) := by
    cases hq : biK g with
    | none => rw [hq] at hno3; exact (hno3 rfl).elim
    | some p => exact ⟨p.1, p.2, rfl⟩
  have gen : ∀ {args : List Expr}, args.any isStar = false → args.isEmpty = false → (bnd (evs c b n args e w) fun ds e w => (match biD c.cls g ds with | some d => some (.ok d e w) | none => none)) = some r → RE X (.Call (.Name g p) args [] pos) σ W.h Q := by
    intro args hst hne h
    obtain ⟨kk, id, hK⟩ := hK
    refine re_bi C hn hg hb hst hne hK ?_
    refine bindA I.evs C s h F fun ds e1 w1 vs W1 h s l1 r1 F => ?_
    split at h
    · rename_i d hd
      cases h
      exact bi_ok C.calm s.gd hK hd r1 (fun c' C' h1 h2 => C.mf.cls c' C' h1 h2) fun v W2 kp rv => F v W2 (s.kp kp) kp.lx rv
    · cases h
  split at h
  · rename_i a
    split at h
    · rename_i i xs ho
      have hsa : isStar a = false := by simpa using hst
      have key : ∀ {kk : Bool} {id : String}, biK g = some (kk, id) → (∀ p vs, W.hd p → W.h p = some (HO.lst vs) → RWs (mdOf X) W vs xs → BC X (if kk = true then .builtin id else .type id) [.ref p] W.h Q) → RE X (.Call (.Name g p) [a] [] pos) σ W.h Q := by
        intro kk id hK hbc
        refine re_bi C hn hg hb hst rfl hK (ra_of (pa_cons (te := RE X a) pe_self pa_nil (star_no hsa)) ?_)
        exact re_own C s ho fun p vs _ h1 _ h2 h3 => hbc p vs h1 h2 h3
      split at h
      · rename_i hgl
        subst hgl
        cases h
        refine key (kk := true) (id := "len") rfl fun p vs h1 h2 h3 => ?_
        have q := F (.int xs.length) W s (Lx.refl W) (.int _)
        rw [← h3.length] at q
        exact bc_of call_len ⟨_, _, rfl, .inl ⟨vs, SqL.of h2, rfl⟩, q⟩
      split at h
      · rename_i hgl
        subst hgl
        cases h
        refine key (kk := false) (id := "tuple") rfl fun p vs h1 h2 h3 => ?_
        exact bc_of call_tuple_of ⟨p, vs, rfl, .inl ⟨SqL.of h2, new_tup s.gd h3 fun v W2 kp rv => F v W2 (s.kp kp) kp.lx rv⟩⟩
      split at h
      · rename_i hgl
        subst hgl
        cases h
        refine key (kk := false) (id := "list") rfl fun p vs h1 h2 h3 => ?_
        exact bc_of call_list_of ⟨p, vs, rfl, .inl (SqL.of h2), new_lst s.gd h3 fun v W2 kp rv => F v W2 (s.kp kp) kp.lx rv⟩
      · cases h
    · by_cases hlen : ∃ cn ns xs e1 w1, evs c b n [a] e w = some (.ok [.ins cn ns xs] e1 w1)
      · obtain ⟨cn, ns, xs, e1, w1, he⟩ := hlen
        have h0 := h
        rw [he] at h0
        have h0 : (if g = "len" then (match c.me cn "__len__" with
            | some F => (match F [.ins cn ns xs] w1 with
              | some (.ok (.int k) w) => if 0 ≤ k ∧ k < 100000 then some (ER.ok (D.int k) e1 w) else none | _ => none)
            | none => none) else none) = some r := h0
        split at h0
        · rename_i hgl
          subst hgl
          refine re_bi (kk := true) (id := "len") C hn hg hb hst rfl rfl ?_
          refine bindA I.evs C s h F fun ds e2 w2 vs W1 h s l1 r1 F => ?_
          split at h
          · rename_i cn' ns' xs'
            rw [if_pos rfl] at h
            split at h
            · rename_i F' hF'
              split at h
              · rename_i j w' hj
                split at h
                · rename_i hz
                  cases h
                  cases r1 with
                  | cons rv t =>
                    cases t
                    exact len_ins C s hF' hj hz rv fun W' s' l' => F _ W' s' l' (.int _)
                · cases h
              · cases h
            · cases h
          · split at h
            · rename_i d hd
              cases h
              exact bi_ok (k := true) (id := "len") C.calm s.gd rfl hd r1 (fun c' C' h1 h2 => C.mf.cls c' C' h1 h2) fun v W2 kp rv => F v W2 (s.kp kp) kp.lx rv
            · cases h
        · cases h0
      · refine gen hst rfl ?_
        rcases bnd_inv h with ⟨ds, e1, w1, h1, h2⟩ | ⟨c', e1, w1, h1, h2⟩
        · rw [h1]
          show (match biD c.cls g ds with | some d => some (ER.ok d e1 w1) | none => none) = some r
          split at h2
          · exact (hlen ⟨_, _, _, _, _, h1⟩).elim
          · exact h2
        · rw [h1, h2]; rfl
  · split at h
    · cases h
    · rename_i hne
      exact gen hst (by simpa using hne) h
end
end Pv
end
section
set_option Elab.async false
set_option linter.all false
set_option autoImplicit false
set_option maxRecDepth 100000
set_option maxHeartbeats 1000000
/-! Calls of defs, classes, methods. -/
namespace Pv
open PySem PySem.Spec PyProof.Rows L2
section
variable {c : Cf} {k n : Nat} {X : Cx} {b : Bk} {WW : WX} {W0 W : Wl} {σ : L2.St} {e : List Sl} {w : Wd} {r : ER D} {Q : VK}
theorem ofF_some {fr : Option FR} {e : List Sl} {r : ER D} (h : ofF fr e = some r) : ∃ f, fr = some f := by
  cases fr with
  | none => cases h
  | some f => exact ⟨f, rfl⟩
/-- a def without parameters is called -/
theorem pe_call0S {CX : CXT} {j : Nat} {f : Addr} {fd : FuncData} {ps : List Str} {sp : Sp} {E : L2.St → XK} {x : Str} {p pos : Pos} (F : FnOk X.prog X.w X.K X.mg X.base CX j f fd ps sp) (hr : Room j X.A) (hg : Gl X x) (hm : X.mg x = some (.ref f))
    (hk : PySem.W.keepIn X.K (.ref f) = true) (hb : Binds X.K fd ps []) (hx : ∀ σ, PassesAt CX X σ (E σ)) (hdb : (x == ("__debug__" : Str)) = false) : PE X (.Call (.Name x p) [] [] pos) (fun σ H Q => sp [] H Q (E σ)) :=
  ⟨fun pins s σ H Q I h => wpAny_Call_Name_kw (ld_glob I hg hm (PySem.W.callWith_K0 I.kIn hk (run_fnS F hr hb (hx σ) I .nil h)) hdb)⟩
/-- a local name's def is called, what is raised at the caller's slots -/
theorem pe_callLS {CX : CXT} {j i : Nat} {f : Addr} {fd : FuncData} {ps : List Str} {sp : Sp} {E : L2.St → XK} {x : Str} {p pos : Pos} {e : Expr} {es : List Expr} {t : TA} (F : FnOk X.prog X.w X.K X.mg X.base CX j f fd ps sp) (hr : Room j X.A) (hN : X.N[i]? = some x) (hv : Vis X.env.scope x)
    (hk : PySem.W.keepIn X.K (.ref f) = true) (hb : Binds X.K fd ps []) (hx : ∀ σ, PassesAt CX X σ (E σ)) (ha : PA X (e :: es) t) (hdb : (x == ("__debug__" : Str)) = false) (hcd : (x == ("__classdict__" : Str)) = false)
    (he : starEach (e :: es) X.env = (false, eval e X.env) :: starEach es X.env) (hpl : (backTo pos (starEach es X.env)).any (·.1) = false) :
    PE X (.Call (.Name x p) (e :: es) [] pos) (fun σ H Q => σ[i]? = some (some (.ref f)) ∧ t σ H fun vs H1 => sp vs H1 Q (E σ)) := by
  refine ⟨fun pins s σ H Q I h => ?_⟩
  obtain ⟨hs, ht⟩ := h
  refine wpAny_Call_Name_kw (thn ((pe_var (pos := p) hN hv hdb hcd).run pins s σ H (fun v H1 => v = .ref f ∧ H1 = H) I ⟨.ref f, hs, rfl, rfl⟩) fun u s1 ⟨v, H1, I1, r1, q1⟩ => ?_)
  obtain ⟨rfl, rfl⟩ := q1
  cases r1
  refine PySem.W.callWith_K (h₀ := X.base) I.ok.mod.kin hk (thn (ha.run pos pins s1 σ _ _ I1 ht) fun us s2 ⟨vs, H2, I2, r, q⟩ => ⟨I2.kIn, ?_⟩) he hpl
  exact run_fnS F hr hb (hx σ) I2 r q
theorem c_callN {g : Str} {args : List Expr} {p pos : Pos} (I : S_all c k n) (C : CO X c b WW k) (s : SR (mdOf X) W0 W σ e w) (h : ev c b (n + 1) (.Call (.Name g p) args [] pos) e w = some r) (F : FinD X WW W0 σ W r Q) : RE X (.Call (.Name g p) args [] pos) σ W.h Q := by
  have h : (if !okN g || args.any isStar then none
        else if isGl b.sc g then (match c.fn g with
          | some F => bnd (evs c b n args e w) fun ds e w => ofF (F ds w) e
          | none => (match c.mak g with
            | some F => if args.isEmpty then none else bnd (evs c b n args e w) fun ds e w => ofF (F ds w) e
            | none => if !c.bi g then none else evBi c b n g args e w))
        else if isLoc b.sc g then (match slotOf b.N g 0 with
          | some i => (match e[i]? with
            | some (.val (.glo f)) => (match c.fn f with
              | some F => if args.isEmpty then none else bnd (evs c b n args e w) fun ds e w => ofF (F ds w) e
              | none => none)
            | _ => none)
          | none => none)
        else none) = some r := h
  split at h
  · cases h
  rename_i hc
  simp only [Bool.or_eq_true, Bool.not_eq_true', not_or] at hc
  have hn : okN g = true := by simpa using hc.1
  have hst : args.any isStar = false := by simpa using hc.2
  split at h
  · rename_i hg
    split at h
    · rename_i Fn' hF
      cases args with
      | nil =>
        obtain ⟨f, fd, ps, h1, h2, h3, h4, h5⟩ := C.mf.fn g Fn' hF
        have h : ofF (Fn' [] w) e = some r := by
          cases n with
          | zero => unfold evs at h; cases h
          | succ n => unfold evs at h; exact h
        refine re_of (pe_call0S (E := WE WW) h1 C.r1 (C.gl hg) h2 h3 h4 (fun σ => passAt C.tk σ) (okN_1 hn)) ?_
        obtain ⟨fr, hfr⟩ := ofF_some h
        rw [hfr] at h
        have q := spR_of s hfr h .nil F
        rw [h5 _ _ _ hfr] at q
        exact q
      | cons a as =>
        have hst' := hst
        rw [List.any_cons, Bool.or_eq_false_iff] at hst'
        obtain ⟨f, fd, ps, h1, h2, h3, h4, h5⟩ := C.mf.fn g Fn' hF
        refine re_of (pe_callS (E := WE WW) h1 C.r1 (C.gl hg) h2 h3 h4 (fun σ => passAt C.tk σ) (t := RA X (a :: as)) pa_self (okN_1 hn) (star_no hst'.1) (star_any hst'.2)) ?_
        refine bindA I.evs C s h F fun ds e1 w1 vs W1 h s l1 r1 F => ?_
        obtain ⟨fr, hfr⟩ := ofF_some h
        rw [hfr] at h
        have q := spR_of s hfr h r1 F
        rw [h5 _ _ _ hfr] at q
        exact q
    · split at h
      · rename_i Fn' hF
        split at h
        · cases h
        rename_i hne
        cases args with
        | nil => exact (hne rfl).elim
        | cons a as =>
          have hst' := hst
          rw [List.any_cons, Bool.or_eq_false_iff] at hst'
          obtain ⟨C', f, fd, ps, h0, h2, h1, h4, h5⟩ := C.mf.mak g Fn' hF
          refine re_of (pe_makeS (E := WE WW) h0 h1 C.room (C.gl hg) h2 h4 (fun σ => passAt C.tk σ) (t := RA X (a :: as)) pa_self (okN_1 hn) (star_no hst'.1) (star_any hst'.2)) ?_
          refine bindA I.evs C s h F fun ds e1 w1 vs W1 h s l1 r1 F => ?_
          obtain ⟨fr, hfr⟩ := ofF_some h
          rw [hfr] at h
          intro x dx hx hdx hne
          refine ⟨W1, w1, x, dx, vs, ds, fr, rfl, hx, hdx, hne, rfl, s.hdok, s.wr, r1, h5 _ _ _ hfr, hfr, ?_⟩
          cases fr with
          | ok d w' =>
            cases h
            exact fun W' hd fm wr rv => ⟨rfl, F _ W' (s.call hd fm wr) (hd_le hd fm) rv⟩
          | ex cc w' =>
            cases h
            exact fun W' C'' hd fm wr hm => F W' C'' (s.call hd fm wr) (hd_le hd fm) hm
      · split at h
        · cases h
        rename_i hb
        exact I.evBi X b WW C W0 W σ e w g args p pos r Q hn hg (by simpa using hb) hst h s F
  · split at h
    · rename_i hg
      split at h
      · rename_i i hi
        split at h
        · rename_i f' hv
          split at h
          · rename_i Fn' hF
            split at h
            · cases h
            rename_i hne
            cases args with
            | nil => exact (hne rfl).elim
            | cons a as =>
              have hst' := hst
              rw [List.any_cons, Bool.or_eq_false_iff] at hst'
              obtain ⟨f, fd, ps, h1, h2, h3, h4, h5⟩ := C.mf.fn f' Fn' hF
              obtain ⟨v, hσ, rv⟩ := s.val i _ hv
              cases rv with
              | glo hgl =>
                have := hgl.symm.trans h2
                cases this
                refine re_of (pe_callLS (E := WE WW) h1 C.r1 (C.slot hi) (C.vis hg) h3 h4 (fun σ => passAt C.tk σ) (t := RA X (a :: as)) pa_self (okN_1 hn) (okN_2 hn) (star_no hst'.1) (star_any hst'.2)) ⟨hσ, ?_⟩
                refine bindA I.evs C s h F fun ds e1 w1 vs W1 h s l1 r1 F => ?_
                obtain ⟨fr, hfr⟩ := ofF_some h
                rw [hfr] at h
                have q := spR_of s hfr h r1 F
                rw [h5 _ _ _ hfr] at q
                exact q
          · cases h
        · cases h
      · cases h
    · cases h
/-- what the receiver raises, the call raises -/
theorem re_meth_ex {o : Expr} {m : Str} {args : List Expr} {apos pos : Pos} (h1 : isCallN o = false) (h2 : lines apos pos = true) (h3 : args.length < 29) (h4 : args.any isStar = false) (h : RE X o σ W.h (fun _ _ => False)) : RE X (.Call (.Attribute o m apos) args [] pos) σ W.h Q := fun pins s I =>
  PySem.W.methodCall_KW (pl := do return (← importBound o X.env).getD true) (thn (h pins s I) fun u s1 ⟨_, _, _, _, z⟩ => z.elim) (meth_tree h1 h2 h3 h4)
theorem strs_ix {ys : List Str} {x : Str} {i : Nat} (h : ys.findIdx? (· = x) = some i) : ys[i]? = some x ∧ ∀ m, m < i → ys[m]? ≠ some x := by
  rw [List.findIdx?_eq_some_iff_getElem] at h
  obtain ⟨h1, h2, h3⟩ := h
  refine ⟨?_, fun m hm z => ?_⟩
  · rw [List.getElem?_eq_getElem h1]
    simpa using h2
  · obtain ⟨hlt, z2⟩ := List.getElem?_eq_some_iff.mp z
    have := h3 m hm
    simp [z2] at this
/-- names.index(x), names the tuple of names of an instance -/
theorem re_nix {o : Expr} {a : Expr} {apos pos : Pos} (C : CO X c b WW k) (h1 : isCallN o = false) (h2 : lines apos pos = true) (hsa : isStar a = false)
    (h : RE X o σ W.h (fun v H => ∃ (q : Addr) (ys : List Str), v = .ref q ∧ SqT X.K H q (ys.map V.str) ∧ ND H q ∧ RE X a σ H (fun u H2 => ∃ (z : Str) (j : Nat), u = .str z ∧ SqT X.K H2 q (ys.map V.str) ∧ ys.findIdx? (· = z) = some j ∧ Q (.int (j : Nat)) H2))) : RE X (.Call (.Attribute o "index" apos) [a] [] pos) σ W.h Q := by
  intro pins s I
  refine wpAny_Call_method_late (base_eq h1) (few_ok (by show 1 < 29; omega) (by show (isStar a || false) = false; rw [hsa]; rfl)) h2 rfl (thn (h pins s I) fun v s1 ⟨x, H1, I1, r1, q, ys, hx, hs, hnd, ha⟩ => ?_)
  subst hx
  cases r1
  obtain ⟨its, rv, it, hz⟩ := I1.tuple hs
  obtain ⟨ob, u, hob, hdn⟩ := hnd
  have hobj : s1.heap.get? q = some ob := (I1.hok q _ hob).1
  refine ⟨"tuple", "tuple.index", PySem.F.plainAttrs_tuple, PySem.F.slot_tuple_index, PySem.F.type_tuple_index, ?_, fun p' e' => ?_, ?_⟩
  · obtain ⟨o', ho', hc', _⟩ := it
    exact ⟨o', ho', hc'⟩
  · cases e'
    exact ⟨ob, hobj, hdn⟩
  · have hA := (pa_cons (te := RE X a) pe_self pa_nil (star_no hsa)).run pos pins s1 σ H1 (fun vs H2 => ∃ u, vs = [u] ∧ ∃ (z : Str) (j : Nat), u = .str z ∧ SqT X.K H2 q (ys.map V.str) ∧ ys.findIdx? (· = z) = some j ∧ Q (.int (j : Nat)) H2) I1 (by
      have hw : tCons (RE X a) tNil σ H1 (fun vs H2 => ∃ u, vs = [u] ∧ ∃ (z : Str) (j : Nat), u = .str z ∧ SqT X.K H2 q (ys.map V.str) ∧ ys.findIdx? (· = z) = some j ∧ Q (.int (j : Nat)) H2) := by
        intro pins' s' I'
        exact thn (ha pins' s' I') fun u s2 ⟨x, H2, I2, r2, hq⟩ => ⟨x, H2, I2, r2, ⟨x, rfl, hq⟩⟩
      exact hw)
    rw [star_no hsa] at hA ⊢
    refine Calls.callWith_builtin (by rfl) (Calls.evalArgs_plain ?_)
    refine thn hA fun us s2 ⟨vs, H2, I2, r2, u', hu, z, j, hz', hs2, hj, hq⟩ => ?_
    subst hu
    subst hz'
    obtain ⟨k1, k2⟩ := strs_ix hj
    exact mt_tup_index pins s2 σ H2 (.ref q) [.str z] (.ref q) us Q I2 rfl r2 ⟨q, ys, z, j, rfl, rfl, hs2, k1, k2, hq⟩
/-- the field of an instance that holds its names -/
theorem re_names {y : Str} {pp pos : Pos} {xs : List D} {e1 : List Sl} {w1 : Wd} (I : S_all c k n) (C : CO X c b WW k) (s : SR (mdOf X) W0 W σ e w) (hg : isGl b.sc y = false) (h : ev c b (n + 1) (.Attribute (.Name y pp) "names" pos) e w = some (.ok (.tup xs) e1 w1)) {R : VK}
    (q : ∀ (a : Addr) W1, SR (mdOf X) W0 W1 σ e1 w1 → Lx W W1 → RW (mdOf X) W1 (.ref a) (.tup xs) → ND W1.h a → R (.ref a) W1.h) : RE X (.Attribute (.Name y pp) "names" pos) σ W.h R := by
  have h : (if isGl b.sc y && okN y then (match c.cc y "names" with
          | some d => some (.ok d e w) | none => none)
        else bnd (ev c b n (.Name y pp) e w) fun d e w => (match d with
          | .ins cn ns ds => if c.fl cn "names" then (match (ns.zip ds).lookup ("names" : Str) with | some d => some (.ok d e w) | none => none) else none
          | _ => none)) = some (.ok (.tup xs) e1 w1) := h
  rw [hg] at h
  rw [if_neg (by simp)] at h
  refine re_of (pe_fld pe_self rfl) ?_
  rcases bnd_inv h with ⟨d, e2, w2, h1, h2⟩ | ⟨c', e2, w2, h1, h2⟩
  · refine I.ev X b WW C W0 W σ e w _ _ _ h1 s fun v1 W1 s1 l1 r1 => ?_
    split at h2
    · split at h2
      · rename_i cn ns ds hfl
        split at h2
        · rename_i d hd
          cases h2
          obtain ⟨C', g1, g2, g3⟩ := C.mf.fl cn "names" hfl
          cases r1 with
          | ins k1 k2 k3 k4 k5 =>
            have e1 : X.mg cn = some (.ref C') := g1
            have e2 := k1
            rw [show (mdOf X).mg cn = X.mg cn from rfl, e1] at e2
            cases e2
            subst k3
            obtain ⟨v, hv, rv⟩ := look_fs k4 hd
            cases rv with
            | tup t1 t2 =>
              rename_i a vs
              refine ⟨_, _, _, _, _, rfl, vis_sub W1 _ _ k2, g2, g3, hv, q a W1 s1 l1 (.tup t1 t2) ?_⟩
              obtain ⟨o, u, n1, n2⟩ := k5 a hv
              exact ⟨o, u, vis_sub W1 _ _ n1, n2⟩
        · cases h2
      · cases h2
    · cases h2
  · cases h2
theorem c_callA {o : Expr} {m : Str} {args : List Expr} {apos pos : Pos} (J : ∀ m, m ≤ n → S_all c k m) (C : CO X c b WW k) (s : SR (mdOf X) W0 W σ e w) (h : ev c b (n + 1) (.Call (.Attribute o m apos) args [] pos) e w = some r) (F : FinD X WW W0 σ W r Q) : RE X (.Call (.Attribute o m apos) args [] pos) σ W.h Q := by
  have I := J n (Nat.le_refl n)
  have h : (if isCallN o || !lines apos pos || decide (29 ≤ args.length) || args.any isStar then none else (match ownOf b o e with
      | some (i, _) => evOwn c b n i m args e w
      | none => bnd (ev c b n o e w) fun d e w => (match d with
        | .ins cn ns ds => if m ∈ ns || args.isEmpty then none else (match c.me cn m with
          | some F => bnd (evs c b n args e w) fun as e w => ofF (F (.ins cn ns ds :: as) w) e
          | none => none)
        | d => evIx c b n o d m args e w))) = some r := h
  split at h
  · cases h
  rename_i hc
  simp only [Bool.or_eq_true, Bool.not_eq_true', decide_eq_true_eq, not_or] at hc
  obtain ⟨⟨⟨hc1, hc2⟩, hc3⟩, hc4⟩ := hc
  have q1 : isCallN o = false := by simpa using hc1
  have q2 : lines apos pos = true := by simpa using hc2
  have q3 : args.length < 29 := by omega
  have q4 : args.any isStar = false := by simpa using hc4
  split at h
  · rename_i i xs ho
    exact I.evOwn X b WW C W0 W σ e w o i xs m args apos pos r Q ho q2 q3 q4 h s F
  · rcases bnd_inv h with ⟨d, e1, w1, h1, h2⟩ | ⟨c', e1, w1, h1, h2⟩
    · have mt : ∀ d, ev c b n o e w = some (.ok d e1 w1) → evIx c b n o d m args e1 w1 = some r → RE X (.Call (.Attribute o m apos) args [] pos) σ W.h Q := by
        clear h h2
        intro d h1 h2
        cases n with
        | zero => cases h1
        | succ n' =>
        have I' := J n' (Nat.le_succ n')
        unfold evIx at h2
        split at h2
        · rename_i a
          split at h2
          · rename_i hh
            rw [Bool.and_eq_true] at hh
            have hm := of_decide_eq_true hh.1
            subst hm
            have hsa : isStar a = false := by simpa using q4
            have hmt := hh.2
            unfold mtOk at hmt
            split at hmt
            · -- a list
              rename_i xs
              refine re_of (pe_bm PySem.F.plainAttrs_list PySem.F.slot_list_index PySem.F.type_list_index mt_index pe_self (pa_cons (te := RE X a) pe_self pa_nil (star_no hsa)) (base_eq q1) (few_ok q3 q4) q2 (star_no hsa) rfl) ?_
              refine I.ev X b WW C W0 W σ e w o _ _ h1 s fun v1 W1 s1 l1 r1 => ?_
              have r0 := r1
              cases r1 with
              | lst ha _ =>
                refine ⟨.inl ⟨rfl, _, SqL.of (vis_sub W1 _ _ ha)⟩, ?_⟩
                refine bindE I'.ev C s1 h2 (F.le l1) fun d2 e2 w2 v2 W2 h s2 l2 r2 F => ?_
                split at h
                · rename_i i hi
                  cases h
                  have r0' := l2.le.rp r0
                  cases r0' with
                  | lst hb rr =>
                    have hi : (if flatD d2 && xs.all flatD then xs.findIdx? fun z => eqF z d2 else none) = some i := hi
                    split at hi
                    · rename_i hfl
                      rw [Bool.and_eq_true] at hfl
                      rw [List.findIdx?_eq_some_iff_getElem] at hi
                      obtain ⟨k1, k2, k3⟩ := hi
                      obtain ⟨v, hv, rv⟩ := rr.get (List.getElem?_eq_getElem k1)
                      have fl : ∀ (j : Nat) (h : j < xs.length), flatD xs[j] = true := fun j h => List.all_eq_true.mp hfl.2 _ (List.getElem_mem h)
                      refine ⟨_, _, v2, i, v, rfl, rfl, SqL.of (vis_sub W2 _ _ hb), r2.flat hfl.1, rr.flat hfl.2, hv, ?_, fun j z' hj hz => ?_, F _ W2 s2 (Lx.refl _) (.int _)⟩
                      · rw [rv.eqF r2 (fl i k1) hfl.1]; exact k2
                      · obtain ⟨d', hd', rd'⟩ := rr.getv hz
                        obtain ⟨hlt, he⟩ := List.getElem?_eq_some_iff.mp hd'
                        subst he
                        rw [rd'.eqF r2 (fl j hlt) hfl.1]
                        have := k3 j hj
                        simpa using this
                    · cases hi
                · cases h
            · -- the tuple of names
              rename_i xs
              split at hmt
              · rename_i y pp f po _ _
                simp only [Bool.and_eq_true] at hmt
                have hf := of_decide_eq_true hmt.1.1
                subst hf
                have hg : isGl b.sc y = false := by simpa using hmt.1.2
                obtain ⟨ys, hys⟩ := Option.isSome_iff_exists.mp hmt.2
                refine re_nix C q1 q2 hsa ?_
                · refine re_names I' C s hg h1 fun a' W1 s1 l1 r1 nd => ?_
                  have hxs := strs_of hys
                  subst hxs
                  · skip
                    have r0 := r1
                    cases r1 with
                    | tup ha rr =>
                      have ev := rr.strs
                      subst ev
                      refine ⟨a', ys, rfl, sqT_ex (vis_sub W1) ha, nd, ?_⟩
                      refine bindE I'.ev C s1 h2 (F.le l1) fun d2 e2 w2 v2 W2 h s2 l2 r2 F => ?_
                      split at h
                      · rename_i i hi
                        cases h
                        unfold ixoD at hi
                        split at hi
                        · rename_i xs' he
                          cases he
                          split at hi
                          · rename_i z
                            cases r2
                            obtain ⟨ss, hs1, hs2⟩ := Option.bind_eq_some_iff.mp hi
                            have e3 := strs_of hs1
                            have e4 : ys = ss := by
                              have inj : Function.Injective D.str := fun a b h => D.str.inj h
                              exact (List.map_inj_right (fun a b h => D.str.inj h)).mp e3
                            subst e4
                            exact ⟨z, i, rfl, sqT_ex (l2.le.ex) ha |> sqT_ex (vis_sub W2), hs2, F _ W2 s2 (Lx.refl _) (.int _)⟩
                          · cases hi
                        · rename_i he; cases he
                        · rename_i he _; exact (he _ rfl).elim
                      · cases h
              · cases hmt
            · cases hmt
          · cases h2
        · cases h2
      split at h2
      · rename_i cn ns ds
        split at h2
        · cases h2
        rename_i hh
        simp only [Bool.or_eq_true, not_or, decide_eq_true_eq] at hh
        split at h2
        · rename_i Fn' hF
          cases args with
          | nil => exact (hh.2 rfl).elim
          | cons a as =>
            obtain ⟨C', f, fd, ps, g1, g2, g3, g4, g5, g6⟩ := C.mf.me cn m Fn' hF
            refine re_of (pe_methP (E := WE WW) pe_self g2 g3 g4 C.r1 g5 (fun σ => passAt C.tk σ) (t := RA X (a :: as)) pa_self q1 q2 q3 q4) ?_
            refine I.ev X b WW C W0 W σ e w o _ _ h1 s fun v1 W1 s1 l1 r1 => ?_
            have r0 := r1
            cases r1 with
            | ins k1 k2 k3 k4 k5 =>
              have e1 : X.mg cn = some (.ref C') := g1
              have e2 := k1
              rw [show (mdOf X).mg cn = X.mg cn from rfl, e1] at e2
              cases e2
              refine ⟨_, _, _, rfl, vis_sub W1 _ _ k2, look_none (by rw [k3]; exact hh.1), ?_⟩
              refine bindA I.evs C s1 h2 (F.le l1) fun ds e1 w1 vs W2 h s l2 r2 F => ?_
              obtain ⟨fr, hfr⟩ := ofF_some h
              rw [hfr] at h
              have q := spR_of s hfr h (.cons (l2.le.rp r0) r2) F
              rw [g6 _ _ _ hfr] at q
              exact q
        · cases h2
      · exact mt _ h1 h2
    · subst h2
      exact re_meth_ex q1 q2 q3 q4 (I.ev X b WW C W0 W σ e w o _ _ h1 s F)
end
end Pv
end
section
set_option Elab.async false
set_option linter.all false
set_option autoImplicit false
set_option maxRecDepth 100000
set_option maxHeartbeats 1000000
/-! Targets; what is walked. -/
namespace Pv
open PySem PySem.Spec PyProof.Rows L2
section
variable {c : Cf} {k n : Nat} {X : Cx} {b : Bk} {WW : WX} {W0 W : Wl} {σ : L2.St} {e : List Sl} {w : Wd}
def RG (X : Cx) (tg : Expr) : TG := fun v σ H Q => ∀ (pins : List (Addr × Obj)) (s : Shared) (u : Value), Inv X pins σ H s → RelV v u → wpAny (model X.prog X.w) X.A (assign tg X.env u) (fun _ s' => ∃ σ' H', Inv X pins σ' H' s' ∧ Q σ' H') X.xe s
theorem pg_self {tg : Expr} : PG X tg (RG X tg) := ⟨fun pins s σ H v u Q I r h => h pins s u I r⟩
theorem rg_of {tg : Expr} {g : TG} {v : V} {H : Hp} {Q : L2.St → Hp → Prop} (h : PG X tg g) (q : g v σ H Q) : RG X tg v σ H Q := fun pins s u I r => h.run pins s σ H v u Q I r q
def RGs (X : Cx) (ts : List Expr) : TGs := fun vs σ H Q => ∀ (pins : List (Addr × Obj)) (s : Shared) (us : List Value), Inv X pins σ H s → Vals vs us → wpAny (model X.prog X.w) X.A (assignInOrder ((assignEach ts X.env).map (·.2)) us) (fun _ s' => ∃ σ' H', Inv X pins σ' H' s' ∧ Q σ' H') X.xe s
theorem pgs_self {ts : List Expr} : PGs X ts (RGs X ts) := ⟨fun pins s σ H vs us Q I r h => h pins s us I r⟩
theorem rgs_of {ts : List Expr} {g : TGs} {vs : List V} {H : Hp} {Q : L2.St → Hp → Prop} (h : PGs X ts g) (q : g vs σ H Q) : RGs X ts vs σ H Q := fun pins s us I r => h.run pins s σ H vs us Q I r q
theorem asEach_no {t : Expr} {ts : List Expr} {env : Env} (h : isStar t = false) : assignEach (t :: ts) env = (false, assign t env) :: assignEach ts env := by
  cases t <;> first | rfl | (cases h)
theorem asEach_len : ∀ {ts : List Expr} {env : Env}, (assignEach ts env).length = ts.length
  | [], _ => rfl
  | t :: ts, env => by
    cases t <;> exact congrArg (· + 1) asEach_len
theorem asEach_star : ∀ {ts : List Expr} {env : Env}, ts.any isStar = false → (assignEach ts env).findIdx? (·.1) = none
  | [], _, _ => rfl
  | t :: ts, env, h => by
    rw [List.any_cons, Bool.or_eq_false_iff] at h
    rw [asEach_no h.1, List.findIdx?_cons]
    simp [asEach_star h.2]
/-- the slots of the block's own names alone have changed -/
def Chg (b : Bk) (σ σ' : L2.St) : Prop := σ'.length = σ.length ∧ ∀ j : Nat, (∀ x i, isSto b.st x = true → slotOf b.N x 0 = some i → j ≠ i) → σ'[j]? = σ[j]?
theorem Chg.refl : Chg b σ σ := ⟨rfl, fun _ _ => rfl⟩
theorem Chg.trans {σ1 σ2 : L2.St} (a : Chg b σ σ1) (d : Chg b σ1 σ2) : Chg b σ σ2 := ⟨d.1.trans a.1, fun j h => (d.2 j h).trans (a.2 j h)⟩
theorem slot_lt (C : CO X c b WW k) (s : SR (mdOf X) W0 W σ e w) (hl : σ.length = X.N.length) {x : Str} {i : Nat} (h : slotOf b.N x 0 = some i) : i < σ.length := by
  have := C.slot h
  rw [hl]
  exact (List.getElem?_eq_some_iff.mp this).1
theorem asg_ok : ∀ {n : Nat} {σ : L2.St} {e e' : List Sl} {tg : Expr} {d : D} {v : V} {Q : L2.St → Hp → Prop}, CO X c b WW k → asg b n tg d e = some e' → SR (mdOf X) W0 W σ e w → RW (mdOf X) W v d →
    (∀ σ', SR (mdOf X) W0 W σ' e' w → Chg b σ σ' → Q σ' W.h) → RG X tg v σ W.h Q
  | 0, _, _, _, _, _, _, _, _, h, _, _, _ => by cases h
  | n + 1, σ, e, e', tg, d, v, Q, C, h, s, rv, q => by
    cases tg <;> first | (cases h; done) | skip
    · rename_i x pos
      have h : (if okN x && isSto b.st x then (match slotOf b.N x 0 with
        | some i => if i ∈ b.mu then none else some (setSl b i d e)
        | none => none) else none) = some e' := h
      split at h
      · rename_i hc
        rw [Bool.and_eq_true] at hc
        split at h
        · rename_i i hi
          split at h
          · cases h
          · cases h
            obtain ⟨h1, h2⟩ := C.sto x hc.2
            intro pins sh u I r
            have hl : i < σ.length := slot_lt C s I.len hi
            refine (pg_name (pos := pos) (by rw [C.N]; exact C.nd) (C.slot hi) (by rw [C.sc]; exact h1) (by rw [C.sc]; exact h2)).run pins sh σ W.h v u Q I r ?_
            exact q _ (s.store hl rv) ⟨by rw [List.length_set], fun j hj => List.getElem?_set_ne (fun z => hj x i hc.2 hi z.symm)⟩
        · cases h
      · cases h
    · rename_i es kk pos
      cases d <;> first | (cases h; done) | skip
      rename_i xs
      have h : (if xs.length = es.length then asgs b n es xs e else none) = some e' := h
      split at h
      · rename_i hl
        cases rv with
        | tup ha rs =>
          have hst := asgs_star h
          refine rg_of (pg_tup (n := es.length) C.calm pgs_self asEach_len (asEach_star hst)) ?_
          exact ⟨_, _, rfl, sqT_ex (vis_sub W) ha, by rw [rs.length]; exact hl, asgs_ok C h s rs q⟩
      · cases h
where
  asgs_star : ∀ {n : Nat} {e e' : List Sl} {ts : List Expr} {ds : List D}, asgs b n ts ds e = some e' → ts.any isStar = false
    | 0, _, _, _, _, h => by cases h
    | n + 1, e, e', ts, ds, h => by
      cases ts with
      | nil => rfl
      | cons t ts =>
        cases ds with
        | nil => cases t <;> cases h
        | cons d ds =>
          have hs : isStar t = false := by cases t <;> first | rfl | (cases h)
          have h : (asg b n t d e).bind (fun e1 => asgs b n ts ds e1) = some e' := by
            cases t <;> first | exact h | (cases hs)
          obtain ⟨e1, h1, h2⟩ := Option.bind_eq_some_iff.mp h
          rw [List.any_cons, hs, asgs_star h2]
          rfl
  asgs_ok : ∀ {n : Nat} {σ : L2.St} {e e' : List Sl} {ts : List Expr} {ds : List D} {vs : List V} {Q : L2.St → Hp → Prop}, CO X c b WW k → asgs b n ts ds e = some e' → SR (mdOf X) W0 W σ e w → RWs (mdOf X) W vs ds →
    (∀ σ', SR (mdOf X) W0 W σ' e' w → Chg b σ σ' → Q σ' W.h) → RGs X ts vs σ W.h Q
    | 0, _, _, _, _, _, _, _, _, h, _, _, _ => by cases h
    | n + 1, σ, e, e', ts, ds, vs, Q, C, h, s, rs, q => by
      cases ts with
      | nil =>
        cases ds with
        | nil =>
          cases h
          cases rs
          exact rgs_of pgs_nil ⟨rfl, q σ s Chg.refl⟩
        | cons d ds => cases h
      | cons t ts =>
        cases ds with
        | nil => cases t <;> cases h
        | cons d ds =>
          have hs : isStar t = false := by cases t <;> first | rfl | (cases h)
          have h : (asg b n t d e).bind (fun e1 => asgs b n ts ds e1) = some e' := by
            cases t <;> first | exact h | (cases hs)
          obtain ⟨e1, h1, h2⟩ := Option.bind_eq_some_iff.mp h
          cases rs with
          | cons r1 r2 =>
            refine rgs_of (pgs_cons pg_self pgs_self (by rw [asEach_no hs]; rfl)) ?_
            refine ⟨_, _, rfl, asg_ok C h1 s r1 fun σ1 s1 c1 => ?_⟩
            exact asgs_ok C h2 s1 r2 fun σ2 s2 c2 => q σ2 s2 (c1.trans c2)
end
end Pv
end
section
set_option Elab.async false
set_option linter.all false
set_option autoImplicit false
set_option maxRecDepth 100000
set_option maxHeartbeats 1000000
/-! What is walked. -/
namespace Pv
open PySem PySem.Spec PyProof.Rows L2
section
variable {c : Cf} {k n : Nat} {X : Cx} {b : Bk} {WW : WX} {W0 W : Wl} {σ : L2.St} {e : List Sl} {w : Wd}
theorem feeds_lst {a : Addr} {ds : List D} (r : RW (mdOf X) W (.ref a) (.lst ds)) : Feeds X (Itl X.K a) W ds := by
  intro Wi li g i
  cases li.rp r with
  | lst ha rs =>
    rename_i vs
    have hq : SqL X.K Wi.h a vs := SqL.of (vis_sub Wi _ _ ha)
    refine ⟨fun d hd => ?_, fun hl => ⟨vs, hq, by rw [rs.length]; exact hl⟩⟩
    obtain ⟨v, h1, h2⟩ := rs.get hd
    refine ⟨⟨vs, v, hq, h1⟩, fun x H' y => ?_⟩
    obtain ⟨e1, y⟩ := y
    have := y vs hq
    rw [h1] at this
    cases this
    exact ⟨Wi, e1.symm, Kp.refl _, h2⟩
theorem feeds_tup {a : Addr} {ds : List D} (r : RW (mdOf X) W (.ref a) (.tup ds)) : Feeds X (Itt X.K a) W ds := by
  intro Wi li g i
  cases li.rp r with
  | tup ha rs =>
    rename_i vs
    have hq : SqT X.K Wi.h a vs := sqT_ex (vis_sub Wi) ha
    refine ⟨fun d hd => ?_, fun hl => ⟨vs, hq, by rw [rs.length]; exact hl⟩⟩
    obtain ⟨v, h1, h2⟩ := rs.get hd
    refine ⟨⟨vs, v, hq, h1⟩, fun x H' y => ?_⟩
    obtain ⟨e1, y⟩ := y
    have := y vs hq
    rw [h1] at this
    cases this
    exact ⟨Wi, e1.symm, Kp.refl _, h2⟩
theorem feeds_str (z : Str) : Feeds X (Its z) W (z.cps.toList.map fun k => .str ⟨#[k]⟩) := by
  intro Wi li g i
  refine ⟨fun d hd => ?_, fun hl => ?_⟩
  · rw [List.getElem?_map] at hd
    cases hz : z.cps.toList[i]? with
    | none => rw [hz] at hd; cases hd
    | some k =>
      rw [hz] at hd
      cases hd
      have hz' : z.cps[i]? = some k := by simpa using hz
      refine ⟨?_, fun x H' y => ?_⟩
      · exact (Array.getElem?_eq_some_iff.mp hz').1
      · obtain ⟨e1, c, h1, h2⟩ := y
        rw [hz'] at h1
        cases h1
        subst h2
        exact ⟨Wi, e1.symm, Kp.refl _, .str _⟩
  · show z.cps.size ≤ i
    simpa using hl
theorem feeds_rng (lo hi : Int) : Feeds X (Itr lo (hi - lo).toNat) W (rngD lo hi) := by
  intro Wi li g i
  refine ⟨fun d hd => ?_, fun hl => ?_⟩
  · unfold rngD at hd
    rw [List.getElem?_map] at hd
    by_cases h : i < (hi - lo).toNat
    · rw [List.getElem?_range h] at hd
      cases hd
      refine ⟨h, fun x H' y => ?_⟩
      obtain ⟨e1, e2⟩ := y
      subst e2
      exact ⟨Wi, e1.symm, Kp.refl _, .int _⟩
    · rw [List.getElem?_eq_none (by simp; omega)] at hd
      cases hd
  · show (hi - lo).toNat ≤ i
    simpa [rngD] using hl
theorem feeds_zip {a a' : Addr} {ds es : List D} (r : RW (mdOf X) W (.ref a) (.tup ds)) (r' : RW (mdOf X) W (.ref a') (.tup es)) : Feeds X (RZ.ItzT X.K a a') W ((ds.zip es).map fun p => .tup [p.1, p.2]) := by
  intro Wi li g i
  cases li.rp r with
  | tup ha rs =>
    cases li.rp r' with
    | tup ha' rs' =>
      rename_i vs vs'
      have hq : SqT X.K Wi.h a vs := sqT_ex (vis_sub Wi) ha
      have hq' : SqT X.K Wi.h a' vs' := sqT_ex (vis_sub Wi) ha'
      refine ⟨fun d hd => ?_, fun hl => ⟨vs, vs', hq, hq', ?_⟩⟩
      · rw [List.getElem?_map] at hd
        cases hz : (ds.zip es)[i]? with
        | none => rw [hz] at hd; cases hd
        | some p =>
          rw [hz] at hd
          cases hd
          obtain ⟨hz1, hz2⟩ := List.getElem?_zip_eq_some.mp hz
          obtain ⟨v, h1, h2⟩ := rs.get hz1
          obtain ⟨v', h1', h2'⟩ := rs'.get hz2
          refine ⟨⟨vs, vs', v, v', hq, hq', h1, h1'⟩, fun x H' y => ?_⟩
          obtain ⟨T, x1, y1, e1, e2, e3, e4, e5⟩ := y
          have := e4 vs hq
          rw [h1] at this
          cases this
          have := e5 vs' hq'
          rw [h1'] at this
          cases this
          subst e1 e3
          have := new_tup (X := X) (W := Wi) (Q := fun v H => ∃ W', W'.h = H ∧ Kp Wi W' ∧ RW (mdOf X) W' v (.tup [p.1, p.2])) g (.cons h2 (.cons h2' .nil)) (fun v W' k r => ⟨W', rfl, k, r⟩) T e2
          exact this
      · rw [rs.length, rs'.length]
        have hl : (((ds.zip es).map fun p : D × D => D.tup [p.1, p.2]).length ≤ i) := hl
        rw [List.length_map, List.length_zip] at hl
        omega
theorem evs_len : ∀ {n : Nat} {xs : List Expr} {e e1 : List Sl} {w w1 : Wd} {ds : List D}, evs c b n xs e w = some (.ok ds e1 w1) → ds.length = xs.length
  | 0, _, _, _, _, _, _, h => by unfold evs at h; cases h
  | n + 1, [], _, _, _, _, _, h => by unfold evs at h; cases h; rfl
  | n + 1, x :: r, _, _, _, _, _, h => by
    unfold evs at h
    dsimp only at h
    split at h
    · cases h
    · rcases bnd_inv h with ⟨d, e2, w2, h1, h2⟩ | ⟨c', e2, w2, h1, h2⟩
      · rcases bnd_inv h2 with ⟨d2, e3, w3, h3, h4⟩ | ⟨c', e3, w3, h3, h4⟩
        · cases h4
          rw [List.length_cons, List.length_cons, evs_len h3]
        · cases h4
      · cases h2
theorem bindA2 {α β : Type} {xs : List Expr} (S : S_evs c k n) (C : CO X c b WW k) (s : SR (mdOf X) W0 W σ e w) {f : List D → List Sl → Wd → Option (ER α)} {r : ER α} {rep : Wl → β → α → Prop} {Q : β → Hp → Prop} (h : bnd (evs c b n xs e w) f = some r) (F : Fin X WW W0 σ W rep r Q) {R : List V → Hp → Prop}
    (nx : ∀ d e1 w1 v W1, d.length = xs.length → f d e1 w1 = some r → SR (mdOf X) W0 W1 σ e1 w1 → Lx W W1 → RWs (mdOf X) W1 v d → Fin X WW W0 σ W1 rep r Q → R v W1.h) : RA X xs σ W.h R := by
  rcases bnd_inv h with ⟨d, e1, w1, h1, h2⟩ | ⟨c', e1, w1, h1, h2⟩
  · exact S X b WW C W0 W σ e w xs _ R h1 s fun v W1 s1 l1 r1 => nx d e1 w1 v W1 (evs_len h1) h2 s1 l1 r1 (F.le l1)
  · subst h2
    exact S X b WW C W0 W σ e w xs _ R h1 s F
theorem two_of {α : Type} {xs : List α} (h : xs.length = 2) : ∃ a b, xs = [a, b] := by
  match xs, h with
  | [a, b], _ => exact ⟨a, b, rfl⟩
/-- what may be walked -/
def walkD (d : D) : Option (List D) := match d with
  | .lst xs => some xs | .tup xs => some xs | .str z => some (z.cps.toList.map fun k => .str ⟨#[k]⟩) | _ => none
theorem walk_ev (S : S_ev c k n) (C : CO X c b WW k) (s : SR (mdOf X) W0 W σ e w) {tg x : Expr} {r : ER (List D)} {R : It → Hp → Prop}
    (h : (bnd (ev c b n x e w) fun d e w => (match d with
        | .lst xs => some (.ok xs e w) | .tup xs => some (.ok xs e w) | .str z => some (.ok (z.cps.toList.map fun k => .str ⟨#[k]⟩) e w) | _ => none)) = some r) (F : FinI X WW W0 σ W r R) : RI X tg x σ W.h R := by
  rcases bnd_inv h with ⟨d, e1, w1, h1, h2⟩ | ⟨c', e1, w1, h1, h2⟩
  · cases d <;> first | (cases h2; done) | skip
    · rename_i z
      cases h2
      refine ri_of (pi_str pe_self) (S X b WW C W0 W σ e w x _ _ h1 s fun v W1 s1 l1 r1 => ?_)
      cases r1
      exact ⟨_, rfl, F _ W1 s1 l1 (feeds_str _)⟩
    · rename_i xs
      cases h2
      refine ri_of (pi_list pe_self) (S X b WW C W0 W σ e w x _ _ h1 s fun v W1 s1 l1 r1 => ?_)
      cases r1 with
      | lst ha rs => exact ⟨_, rfl, ⟨_, SqL.of (vis_sub W1 _ _ ha)⟩, F _ W1 s1 l1 (feeds_lst (.lst ha rs))⟩
    · rename_i xs
      cases h2
      refine ri_of (pi_tup pe_self) (S X b WW C W0 W σ e w x _ _ h1 s fun v W1 s1 l1 r1 => ?_)
      cases r1 with
      | tup ha rs => exact ⟨_, rfl, ⟨_, sqT_ex (vis_sub W1) ha⟩, F _ W1 s1 l1 (feeds_tup (.tup ha rs))⟩
  · subst h2
    exact ri_of (pi_list pe_self) (S X b WW C W0 W σ e w x _ _ h1 s F)
theorem okR_ok {i : Int} (h : okR i = true) : -(2 ^ 62) ≤ i ∧ i < 2 ^ 62 := of_decide_eq_true h
theorem s_evI (Se : S_ev c k n) (Sa : S_evs c k n) : S_evI c k (n + 1) := by
  intro X b WW C W0 W σ e w tg x r R h s F
  by_cases hc : ∃ g p args pos, x = .Call (.Name g p) args [] pos
  · obtain ⟨g, p, args, pos, rfl⟩ := hc
    unfold evI at h
    dsimp only at h
    split at h
    · cases h
    rename_i hst
    have hst : args.any isStar = false := by simpa using hst
    split at h
    · rename_i hg
      simp only [Bool.and_eq_true, Bool.or_eq_true, beq_iff_eq, decide_eq_true_eq] at hg
      obtain ⟨⟨⟨rfl, hg⟩, hb⟩, hl⟩ := hg
      have hm : X.mg "range" = none := C.mf.bi _ hb
      rcases hl with hl | hl
      · obtain ⟨a, rfl⟩ := List.length_eq_one_iff.mp hl
        have hsa : isStar a = false := by simpa using hst
        refine ri_of (pi_range1 (C.gl hg) hm pa_self (star_no hsa)) ?_
        refine bindA2 (β := It) Sa C s h F fun ds e1 w1 vs W1 hlen h2 s1 l1 r1 F1 => ?_
        split at h2
        · split at h2
          · rename_i hk
            cases h2
            cases r1 with
            | cons r1 rr =>
              cases rr
              cases r1
              refine ⟨_, rfl, (okR_ok hk).1, (okR_ok hk).2, ?_⟩
              have := F1 _ W1 s1 (Lx.refl _) (feeds_rng 0 _)
              simpa using this
          · cases h2
        · cases hlen
        · cases h2
      · obtain ⟨a, a2, rfl⟩ := two_of hl
        have hsa : isStar a = false ∧ isStar a2 = false := by simpa using hst
        refine ri_of (pi_range2 (C.gl hg) hm pa_self (by rw [star_no hsa.1, star_no hsa.2]; rfl) (by rw [star_no hsa.2]; rfl)) ?_
        refine bindA2 (β := It) Sa C s h F fun ds e1 w1 vs W1 hlen h2 s1 l1 r1 F1 => ?_
        split at h2
        · cases hlen
        · split at h2
          · rename_i hk
            rw [Bool.and_eq_true] at hk
            cases h2
            cases r1 with
            | cons r1 rr =>
              cases rr with
              | cons r2 rr =>
                cases rr
                cases r1
                cases r2
                exact ⟨_, _, rfl, ⟨(okR_ok hk.1).1, (okR_ok hk.1).2, (okR_ok hk.2).1, (okR_ok hk.2).2⟩, F1 _ W1 s1 (Lx.refl _) (feeds_rng _ _)⟩
          · cases h2
        · cases h2
    · split at h
      · rename_i hg
        simp only [Bool.and_eq_true, Bool.or_eq_true, beq_iff_eq, decide_eq_true_eq] at hg
        obtain ⟨⟨⟨⟨rfl, hg⟩, hb⟩, htg⟩, hl⟩ := hg
        have hm : X.mg "zip" = none := C.mf.bi _ hb
        obtain ⟨a, a2, rfl⟩ := two_of hl
        have hsa : isStar a = false ∧ isStar a2 = false := by simpa using hst
        cases tg <;> first | (cases htg; done) | skip
        refine ri_of (RZ.pi_zipA (C.gl hg) hm pa_self (star_no hsa.1) (by rw [star_no hsa.2]; rfl)) ?_
        refine bindA2 (β := It) Sa C s h F fun ds e1 w1 vs W1 hlen h2 s1 l1 r1 F1 => ?_
        split at h2
        · cases h2
          cases r1 with
          | cons r1 rr =>
            cases rr with
            | cons r2 rr =>
              cases rr
              cases r1 with
              | tup h1 q1 =>
                cases r2 with
                | tup h2 q2 =>
                  exact ⟨_, _, _, _, rfl, .inr ⟨sqT_ex (vis_sub W1) h1, sqT_ex (vis_sub W1) h2, F1 _ W1 s1 (Lx.refl _) (feeds_zip (.tup h1 q1) (.tup h2 q2))⟩⟩
        · cases h2
      · exact walk_ev Se C s h F
  · have h : (bnd (ev c b n x e w) fun d e w => (match d with
        | .lst xs => some (.ok xs e w) | .tup xs => some (.ok xs e w) | .str z => some (.ok (z.cps.toList.map fun k => .str ⟨#[k]⟩) e w) | _ => none)) = some r := by
      unfold evI at h
      split at h
      · rename_i g p args pos
        exact absurd ⟨g, p, args, pos, rfl⟩ hc
      · exact h
    exact walk_ev Se C s h F
end
end Pv
end
section
set_option Elab.async false
set_option linter.all false
set_option autoImplicit false
set_option maxRecDepth 100000
set_option maxHeartbeats 1000000
/-! List comprehensions. -/
namespace Pv
open PySem PySem.Spec PyProof.Rows L2
section
variable {m : Md} {c : Cf} {k n : Nat} {X : Cx} {b : Bk} {WW : WX} {W0 W W' : Wl} {σ : L2.St} {e : List Sl} {w : Wd} {D : Addr} {l l' : HO}
/-- a new hidden list at D -/
def Wl.reb (W : Wl) (D : Addr) (l : HO) : Wl := { W with h := upd W.h D l, hd := fun a => W.hd a ∨ a = D }
theorem vis_out {a : Addr} (h : W.hd a ∨ ∃ x y, W.sr = some (x, y, a)) : W.vis a = none := by
  unfold Wl.vis
  exact if_pos h
theorem vis_in {a : Addr} (h : ¬ (W.hd a ∨ ∃ x y, W.sr = some (x, y, a))) : W.vis a = W.h a := by
  unfold Wl.vis
  exact if_neg h
theorem vis_hid {o : HO} (h : W.hd D) : (W.put (upd W.h D o)).vis = W.vis := by
  funext a
  by_cases hc : W.hd a ∨ ∃ x y, W.sr = some (x, y, a)
  · rw [vis_out (W := W) hc, vis_out (W := W.put (upd W.h D o)) hc]
  · rw [vis_in (W := W) hc, vis_in (W := W.put (upd W.h D o)) hc]
    show upd W.h D o a = _
    rw [upd_ne (fun z => hc (.inl (by rw [z]; exact h)))]
theorem reb_vis (h : W.h D = none) : (W.reb D l).vis = W.vis := by
  funext a
  by_cases q : a = D
  · subst q
    rw [vis_out (W := W.reb a l) (.inl (.inr rfl))]
    by_cases hc : W.hd a ∨ ∃ x y, W.sr = some (x, y, a)
    · rw [vis_out (W := W) hc]
    · rw [vis_in (W := W) hc, h]
  · by_cases hc : W.hd a ∨ ∃ x y, W.sr = some (x, y, a)
    · rw [vis_out (W := W) hc, vis_out (W := W.reb D l)]
      rcases hc with z | z
      · exact .inl (.inl z)
      · exact .inr z
    · rw [vis_in (W := W) hc, vis_in (W := W.reb D l)]
      · show upd W.h D l a = _
        rw [upd_ne q]
      · rintro ((z | z) | z)
        · exact hc (.inl z)
        · exact q z
        · exact hc (.inr z)
theorem WR.of_vis (h : WR m W w) (hs : W'.sr = W.sr) (hv : W'.vis = W.vis) (hc : ∀ x y c, W.sr = some (x, y, c) → W'.h c = W.h c ∧ (W'.hd c → W.hd c)) : WR m W' w := by
  cases w with
  | none => exact hs.trans h
  | some q =>
    obtain ⟨ds, nn⟩ := q
    obtain ⟨a, b', c', e1, h1, h2, h3, h4⟩ := h
    exact ⟨a, b', c', hs.trans e1, by rw [hv]; exact h1, by rw [hv]; exact h2, by rw [(hc _ _ _ e1).1]; exact h3, fun z => h4 ((hc _ _ _ e1).2 z)⟩
theorem SR.free (s : SR m W0 W σ e w) (h : W.h D = none) : W0.h D = none ∧ ∀ x y, W0.sr ≠ some (x, y, D) := by
  have h2 : ∀ x y, W0.sr ≠ some (x, y, D) := fun x y z => by
    rcases s.fm.2.1 with q | q
    · rw [q] at z; cases z
    · exact s.wr.place x y D (q.trans z) h
  refine ⟨?_, h2⟩
  cases q : W0.h D with
  | none => rfl
  | some o =>
    have := s.fm.1 D o q h2
    rw [h] at this; cases this
theorem SR.hide (s : SR m W0 W σ e w) (h : W.h D = none) : SR m (W0.reb D l) (W.reb D l) σ e w := by
  obtain ⟨f1, f2⟩ := s.free h
  have pD : ∀ x y, W.sr ≠ some (x, y, D) := fun x y z => s.wr.place x y D z h
  have vv : (W.reb D l).vis = W.vis := reb_vis h
  exact {
    len := s.len
    val := fun i d q => by
      obtain ⟨v, h1, h2⟩ := s.val i d q
      exact ⟨v, h1, by show Rp m W.sr (W.reb D l).vis v d; rw [vv]; exact h2⟩
    own := fun i xs q => by
      obtain ⟨p, vs, h1, h2, h3, h4, h5, h6⟩ := s.own i xs q
      have hne : p ≠ D := fun z => by subst z; rw [h] at h4; cases h4
      refine ⟨p, vs, h1, .inl h2, ?_, ?_, h5, by show Rps m W.sr (W.reb D l).vis vs xs; rw [vv]; exact h6⟩
      · show upd W0.h D l p = none
        rw [upd_ne hne]; exact h3
      · show upd W.h D l p = _
        rw [upd_ne hne]; exact h4
    ap := s.ap
    wr := s.wr.of_vis rfl vv fun x y c' z => by
      have hne : c' ≠ D := fun q => by subst q; exact pD x y z
      refine ⟨?_, fun q => ?_⟩
      · show upd W.h D l c' = _
        rw [upd_ne hne]
      · rcases q with q | q
        · exact q
        · exact (hne q).elim
    hdok := fun a q z => by
      by_cases hq : a = D
      · subst hq
        have : upd W.h a l a = none := z
        rw [upd_same] at this; cases this
      · have z : upd W.h D l a = none := z
        rw [upd_ne hq] at z
        rcases q with q | q
        · exact s.hdok a q z
        · exact hq q
    fm := by
      refine ⟨fun a o q hn => ?_, s.fm.2.1, fun x y c' z zn => ?_⟩
      · show upd W.h D l a = some o
        have q : upd W0.h D l a = some o := q
        by_cases hq : a = D
        · subst hq
          rw [upd_same] at q ⊢; exact q
        · rw [upd_ne hq] at q ⊢
          exact s.fm.1 a o q hn
      · show upd W0.h D l c' = none
        have hne : c' ≠ D := fun q => by subst q; exact pD x y z
        rw [upd_ne hne]
        exact s.fm.2.2 x y c' z zn
    hd0 := fun a q => by
      rcases q with q | q
      · exact .inl (s.hd0 a q)
      · exact .inr q
    hd1 := fun a q => by
      by_cases hq : a = D
      · exact .inl (.inr hq)
      · rcases q with q | q
        · rcases s.hd1 a q with z | z
          · exact .inl (.inl z)
          · refine .inr ?_
            show upd W0.h D l a = none
            rw [upd_ne hq]; exact z
        · exact .inl (.inr q)
    hdok0 := fun a q z => by
      by_cases hq : a = D
      · subst hq
        have : upd W0.h a l a = none := z
        rw [upd_same] at this; cases this
      · have z : upd W0.h D l a = none := z
        rw [upd_ne hq] at z
        rcases q with q | q
        · exact s.hdok0 a q z
        · exact hq q }
/-- where the hidden list stands -/
theorem SR.at (s : SR m (W0.reb D l) W σ e w) (hp : ∀ x y, W0.sr ≠ some (x, y, D)) : W.h D = some l ∧ W.hd D ∧ ∀ x y, W.sr ≠ some (x, y, D) := by
  refine ⟨s.fm.1 D _ upd_same hp, s.hd0 D (.inr rfl), fun x y z => ?_⟩
  rcases s.fm.2.1 with q | q
  · have := s.fm.2.2 x y D z q
    have : upd W0.h D l D = none := this
    rw [upd_same] at this; cases this
  · exact hp x y (q.symm.trans z)
theorem SR.app (s : SR m (W0.reb D l) W σ e w) (h0 : W0.h D = none) (hp : ∀ x y, W0.sr ≠ some (x, y, D)) : SR m (W0.reb D l') (W.put (upd W.h D l')) σ e w := by
  obtain ⟨g1, g2, g3⟩ := s.at hp
  have vv : (W.put (upd W.h D l')).vis = W.vis := vis_hid g2
  exact {
    len := s.len
    val := fun i d q => by
      obtain ⟨v, h1, h2⟩ := s.val i d q
      exact ⟨v, h1, by show Rp m W.sr (W.put (upd W.h D l')).vis v d; rw [vv]; exact h2⟩
    own := fun i xs q => by
      obtain ⟨p, vs, h1, h2, h3, h4, h5, h6⟩ := s.own i xs q
      have hne : p ≠ D := fun z => by
        subst z
        have : upd W0.h p l p = none := h3
        rw [upd_same] at this; cases this
      refine ⟨p, vs, h1, h2, ?_, ?_, h5, by show Rps m W.sr (W.put (upd W.h D l')).vis vs xs; rw [vv]; exact h6⟩
      · have h3 : upd W0.h D l p = none := h3
        show upd W0.h D l' p = none
        rw [upd_ne hne] at h3 ⊢; exact h3
      · show upd W.h D l' p = _
        rw [upd_ne hne]; exact h4
    ap := s.ap
    wr := s.wr.of_vis rfl vv fun x y c' z => by
      have hne : c' ≠ D := fun q => by subst q; exact g3 x y z
      refine ⟨?_, fun q => q⟩
      show upd W.h D l' c' = _
      rw [upd_ne hne]
    hdok := fun a q z => by
      by_cases hq : a = D
      · subst hq
        have : upd W.h a l' a = none := z
        rw [upd_same] at this; cases this
      · have z : upd W.h D l' a = none := z
        rw [upd_ne hq] at z
        exact s.hdok a q z
    fm := by
      refine ⟨fun a o q hn => ?_, s.fm.2.1, fun x y c' z zn => ?_⟩
      · show upd W.h D l' a = some o
        have q : upd W0.h D l' a = some o := q
        by_cases hq : a = D
        · subst hq
          rw [upd_same] at q ⊢; exact q
        · rw [upd_ne hq] at q ⊢
          exact s.fm.1 a o (by show upd W0.h D l a = some o; rw [upd_ne hq]; exact q) hn
      · show upd W0.h D l' c' = none
        have hne : c' ≠ D := fun q => by subst q; exact g3 x y z
        rw [upd_ne hne]
        have : upd W0.h D l c' = none := s.fm.2.2 x y c' z zn
        rw [upd_ne hne] at this
        exact this
    hd0 := fun a q => s.hd0 a q
    hd1 := fun a q => by
      rcases s.hd1 a q with z | z
      · exact .inl z
      · have z : upd W0.h D l a = none := z
        have hq : a ≠ D := fun hq => by subst hq; rw [upd_same] at z; cases z
        refine .inr ?_
        show upd W0.h D l' a = none
        rw [upd_ne hq] at z ⊢; exact z
    hdok0 := fun a q z => by
      by_cases hq : a = D
      · subst hq
        have : upd W0.h a l' a = none := z
        rw [upd_same] at this; cases this
      · have z : upd W0.h D l' a = none := z
        rw [upd_ne hq] at z
        exact s.hdok0 a q (by show upd W0.h D l a = none; rw [upd_ne hq]; exact z) }
/-- the def's own base again -/
theorem SR.unreb (s : SR m (W0.reb D l) W σ e w) (h0 : W0.h D = none) (hp : ∀ x y, W0.sr ≠ some (x, y, D)) (hk : HdOk W0) : SR m W0 W σ e w := by
  obtain ⟨g1, g2, g3⟩ := s.at hp
  exact {
    len := s.len
    val := s.val
    own := fun i xs q => by
      obtain ⟨p, vs, h1, h2, h3, h4, h5, h6⟩ := s.own i xs q
      have hne : p ≠ D := fun z => by
        subst z
        have : upd W0.h p l p = none := h3
        rw [upd_same] at this; cases this
      refine ⟨p, vs, h1, h2, ?_, h4, h5, h6⟩
      have h3 : upd W0.h D l p = none := h3
      rw [upd_ne hne] at h3; exact h3
    ap := s.ap
    wr := s.wr
    hdok := s.hdok
    fm := by
      refine ⟨fun a o q hn => ?_, s.fm.2.1, fun x y c' z zn => ?_⟩
      · have hq : a ≠ D := fun hq => by subst hq; rw [h0] at q; cases q
        exact s.fm.1 a o (by show upd W0.h D l a = some o; rw [upd_ne hq]; exact q) hn
      · have hne : c' ≠ D := fun q => by subst q; exact g3 x y z
        have : upd W0.h D l c' = none := s.fm.2.2 x y c' z zn
        rw [upd_ne hne] at this
        exact this
    hd0 := fun a q => s.hd0 a (.inl q)
    hd1 := fun a q => by
      by_cases hq : a = D
      · subst hq; exact .inr h0
      · rcases s.hd1 a q with z | z
        · rcases z with z | z
          · exact .inl z
          · exact (hq z).elim
        · have z : upd W0.h D l a = none := z
          rw [upd_ne hq] at z
          exact .inr z
    hdok0 := hk }
/-! ### a block's own slots -/
theorem SR.forget (s : SR m W0 W σ e w) (i : Nat) : SR m W0 W (σ.set i none) (e.set i .un) w where
  len := by rw [List.length_set, List.length_set]; exact s.len
  val := fun j d' h' => by
    rcases get_set h' with ⟨q, z⟩ | ⟨q, h'⟩
    · cases z
    · obtain ⟨u, h1, h2⟩ := s.val j d' h'
      exact ⟨u, by rw [List.getElem?_set_ne q]; exact h1, h2⟩
  own := fun j xs h' => by
    rcases get_set h' with ⟨_, z⟩ | ⟨q, h'⟩
    · cases z
    · obtain ⟨p, vs, h1, h2⟩ := s.own j xs h'
      exact ⟨p, vs, by rw [List.getElem?_set_ne q]; exact h1, h2⟩
  ap := fun j j' p xs ys h1 h2 g1 g2 => by
    rcases get_set h1 with ⟨_, z⟩ | ⟨q1, h1⟩
    · cases z
    rcases get_set h2 with ⟨_, z⟩ | ⟨q2, h2⟩
    · cases z
    rw [List.getElem?_set_ne q1] at g1
    rw [List.getElem?_set_ne q2] at g2
    exact s.ap j j' p xs ys h1 h2 g1 g2
  wr := s.wr
  hdok := s.hdok
  fm := s.fm
  hd0 := s.hd0
  hd1 := s.hd1
  hdok0 := s.hdok0
theorem SR.wipe (s : SR m W0 W σ e w) : ∀ vs : List Nat, SR m W0 W (L2.wipe σ vs) (wipeS e vs) w
  | [] => s
  | v :: vs => (SR.wipe s vs).forget v
theorem wipeS_ne : ∀ {vs : List Nat} {e : List Sl} {j : Nat}, j ∉ vs → (wipeS e vs)[j]? = e[j]?
  | [], _, _, _ => rfl
  | v :: vs, e, j, h => by
    unfold wipeS
    rw [List.mem_cons, not_or] at h
    rw [List.getElem?_set_ne (fun z => h.1 z.symm), wipeS_ne h.2]
theorem wipeS_len : ∀ {vs : List Nat} {e : List Sl}, (wipeS e vs).length = e.length
  | [], _ => rfl
  | v :: vs, e => by unfold wipeS; rw [List.length_set, wipeS_len]
theorem wipe_ne : ∀ {vs : List Nat} {σ : L2.St} {j : Nat}, j ∉ vs → (L2.wipe σ vs)[j]? = σ[j]?
  | [], _, _, _ => rfl
  | v :: vs, e, j, h => by
    unfold L2.wipe
    rw [List.mem_cons, not_or] at h
    rw [List.getElem?_set_ne (fun z => h.1 z.symm), wipe_ne h.2]
theorem wipe_in : ∀ {vs : List Nat} {σ : L2.St} {j : Nat}, j ∈ vs → j < σ.length → (L2.wipe σ vs)[j]? = some none
  | v :: vs, σ, j, h, hl => by
    unfold L2.wipe
    by_cases q : v = j
    · subst q
      rw [List.getElem?_set_self (by rw [wipe_length]; exact hl)]
    · rw [List.getElem?_set_ne q]
      rcases List.mem_cons.mp h with z | z
      · exact (q z.symm).elim
      · exact wipe_in z hl
theorem wipe_eq {vs : List Nat} {σ σ' : L2.St} (hl : σ'.length = σ.length) (h : ∀ j, j ∉ vs → σ'[j]? = σ[j]?) : L2.wipe σ' vs = L2.wipe σ vs := by
  apply List.ext_getElem?
  intro j
  by_cases q : j ∈ vs
  · by_cases hj : j < σ.length
    · rw [wipe_in q hj, wipe_in q (by omega)]
    · rw [List.getElem?_eq_none (by rw [wipe_length]; omega), List.getElem?_eq_none (by rw [wipe_length]; omega)]
  · rw [wipe_ne q, wipe_ne q, h j q]
theorem wipe_wipe {vs : List Nat} {σ : L2.St} : L2.wipe (L2.wipe σ vs) vs = L2.wipe σ vs := wipe_eq (wipe_length _ _) fun j h => wipe_ne h
theorem back_ne : ∀ {vs : List Nat} {e0 e : List Sl} {j : Nat}, j ∉ vs → (back e0 e vs)[j]? = e[j]?
  | [], _, _, _, _ => rfl
  | v :: vs, e0, e, j, h => by
    rw [List.mem_cons, not_or] at h
    show (back e0 (e.set v _) vs)[j]? = _
    rw [back_ne h.2, List.getElem?_set_ne (fun z => h.1 z.symm)]
theorem back_in : ∀ {vs : List Nat} {e0 e : List Sl} {j : Nat} {x : Sl}, j ∈ vs → (back e0 e vs)[j]? = some x → x = (match e0[j]? with | some (.val d) => .val d | _ => .un)
  | v :: vs, e0, e, j, x, h, hx => by
    have hx : (back e0 (e.set v (match e0[v]? with | some (.val d) => .val d | _ => .un)) vs)[j]? = some x := hx
    by_cases q : j ∈ vs
    · exact back_in q hx
    · rw [back_ne q] at hx
      rcases List.mem_cons.mp h with z | z
      · subst z
        rcases get_set hx with ⟨_, z⟩ | ⟨z, _⟩
        · exact z
        · exact (z rfl).elim
      · exact (q z).elim
theorem back_len : ∀ {vs : List Nat} {e0 e : List Sl}, (back e0 e vs).length = e.length
  | [], _, _ => rfl
  | v :: vs, e0, e => by
    show (back e0 (e.set v _) vs).length = _
    rw [back_len, List.length_set]
theorem SR.back {W1 : Wl} {e1 e2 : List Sl} {w1 w2 : Wd} {vs : List Nat} (s1 : SR m W0 W1 σ e1 w1) (l : Le W1 W') (s : SR m W0 W' (L2.wipe σ vs) (wipeS e2 vs) w2) : SR m W0 W' σ (back e1 e2 vs) w2 where
  len := by
    rw [back_len, ← wipeS_len (vs := vs), s.len, wipe_length]
  val := fun j d h => by
    by_cases q : j ∈ vs
    · have := back_in q h
      split at this
      · rename_i d' hd
        cases this
        obtain ⟨v, h1, h2⟩ := s1.val j d hd
        exact ⟨v, h1, l.rp h2⟩
      · cases this
    · rw [back_ne q, ← wipeS_ne q] at h
      obtain ⟨v, h1, h2⟩ := s.val j d h
      rw [wipe_ne q] at h1
      exact ⟨v, h1, h2⟩
  own := fun j xs h => by
    by_cases q : j ∈ vs
    · have := back_in q h
      split at this <;> cases this
    · rw [back_ne q, ← wipeS_ne q] at h
      obtain ⟨p, us, h1, h2⟩ := s.own j xs h
      rw [wipe_ne q] at h1
      exact ⟨p, us, h1, h2⟩
  ap := fun j j' p xs ys h1 h2 g1 g2 => by
    have cv : ∀ (j : Nat) zs, (Pv.back e1 e2 vs)[j]? = some (Sl.own zs) → j ∉ vs ∧ (wipeS e2 vs)[j]? = some (Sl.own zs) := fun j zs h => by
      by_cases q : j ∈ vs
      · have := back_in q h
        split at this <;> cases this
      · rw [back_ne q, ← wipeS_ne q] at h
        exact ⟨q, h⟩
    obtain ⟨q1, h1⟩ := cv j _ h1
    obtain ⟨q2, h2⟩ := cv j' _ h2
    exact s.ap j j' p xs ys h1 h2 (by rw [wipe_ne q1]; exact g1) (by rw [wipe_ne q2]; exact g2)
  wr := s.wr
  hdok := s.hdok
  fm := s.fm
  hd0 := s.hd0
  hd1 := s.hd1
  hdok0 := s.hdok0
end
end Pv
end
section
set_option Elab.async false
set_option linter.all false
set_option autoImplicit false
set_option maxRecDepth 100000
set_option maxHeartbeats 1000000
/-! List comprehensions, whole. -/
namespace Pv
open PySem PySem.Spec PyProof.Rows L2
section
variable {m : Md} {c : Cf} {k n : Nat} {X : Cx} {b : Bk} {WW : WX} {W0 W W' W1 : Wl} {σ : L2.St} {e : List Sl} {w : Wd}
theorem le_of_vis (hv : W'.vis = W.vis) (hs : W'.sr = W.sr) : Le W W' := ⟨fun a o h => by rw [hv]; exact h, .inr hs⟩
/-- the comprehension's loop -/
theorem lc_turns {J : It} {g : TG} {tt : TT} {te : TE} {vs : List Nat} {ds out : List D} {e1 e2 : List Sl} {w1 w2 : Wd} {Q : VK}
    {as : D → List Sl → Option (List Sl)} {test : List Sl → Wd → Option (ER Bool)} {elt : List Sl → Wd → Option (ER D)}
    (s1 : SR (mdOf X) W0 W1 σ e1 w1) (fd : Feeds X J W1 ds)
    (hl : loopC (fun d acc e w => match as d (wipeS e vs) with | none => none | some e => turnC test elt acc e w) ds [] e1 w1 = some (out, e2, w2))
    (hg : ∀ (Wa Wb : Wl) (ea eb : List Sl) (wa : Wd) (d : D) (x : V) (Q : L2.St → Hp → Prop), as d ea = some eb → SR (mdOf X) Wa Wb (L2.wipe σ vs) ea wa → RW (mdOf X) Wb x d → (∀ σ', SR (mdOf X) Wa Wb σ' eb wa → L2.wipe σ' vs = L2.wipe σ vs → Q σ' Wb.h) → g x (L2.wipe σ vs) Wb.h Q)
    (ht : ∀ (Wa Wb : Wl) (σ' : L2.St) (ea eb : List Sl) (wa wb : Wd) (q : Bool) (Q : Bool → Hp → Prop), test ea wa = some (.ok q eb wb) → SR (mdOf X) Wa Wb σ' ea wa → (∀ Wc, SR (mdOf X) Wa Wc σ' eb wb → Lx Wb Wc → Q q Wc.h) → tt σ' Wb.h Q)
    (he : ∀ (Wa Wb : Wl) (σ' : L2.St) (ea eb : List Sl) (wa wb : Wd) (d : D) (Q : VK), elt ea wa = some (.ok d eb wb) → SR (mdOf X) Wa Wb σ' ea wa → (∀ v Wc, SR (mdOf X) Wa Wc σ' eb wb → Lx Wb Wc → RW (mdOf X) Wc v d → Q v Wc.h) → te σ' Wb.h Q)
    (F : ∀ p W', SR (mdOf X) W0 W' σ (back e1 e2 vs) w2 → FL X W0 W1 W' p out → (∀ (i : Nat) xs, (back e1 e2 vs)[i]? = some (Sl.own xs) → σ[i]? ≠ some (some (V.ref p))) → Q (.ref p) W'.h) :
    ∀ Da, W1.h Da = none → ∃ Wf : Nat → Nat → Hp → Prop, (∃ m, Wf 0 m (upd W1.h Da (.lst []))) ∧ ∀ i m H, Wf i m H →
      (J.stop i H ∧ Q (.ref Da) H) ∨ (J.go i H ∧ ∃ Nx : Hp → Prop, (∀ H', Nx H' → ∃ m', m' < m ∧ Wf (i + 1) m' H') ∧ ∀ x H', J.yld i H x H' → g x (L2.wipe σ vs) H' fun σ2 H2 => L2.wipe σ2 vs = L2.wipe σ vs ∧ tt σ2 H2 fun b H3 =>
        if b = true then te σ2 H3 fun y H4 => ∃ acc, H4 Da = some (.lst acc) ∧ acc.length < sizeLine ∧ Nx (upd H4 Da (.lst (acc ++ [y]))) else Nx H3) := by
  intro Da hD
  obtain ⟨f1, f2⟩ := s1.free hD
  let St : Nat → Hp → Prop := fun i H => ∃ (Wc : Wl) (ec : List Sl) (wc : Wd) (accd : List D) (accv : List V), Wc.h = H ∧ SR (mdOf X) (W0.reb Da (.lst accv)) Wc (L2.wipe σ vs) (wipeS ec vs) wc ∧ RWs (mdOf X) Wc accv accd ∧
    loopC (fun d acc e w => match as d (wipeS e vs) with | none => none | some e => turnC test elt acc e w) (ds.drop i) accd ec wc = some (out, e2, w2) ∧ Le W1 Wc ∧ ∀ a, Wc.hd a → a = Da ∨ W1.hd a
  refine ⟨fun i m H => m = ds.length - i ∧ i ≤ ds.length ∧ St i H, ⟨ds.length, by simp, Nat.zero_le _, ?_⟩, ?_⟩
  · refine ⟨W1.reb Da (.lst []), e1, w1, [], [], rfl, (s1.hide hD).wipe vs, .nil, hl, le_of_vis (reb_vis hD) rfl, fun a h => ?_⟩
    rcases h with z | z
    · exact .inr z
    · exact .inl z
  · rintro i mm H ⟨rfl, hi, Wc, ec, wc, accd, accv, rfl, s, ra, hlp, le, hh⟩
    have fi := fd Wc le s.gd i
    by_cases hlt : i < ds.length
    · obtain ⟨hgo, hy⟩ := fi.1 ds[i] (List.getElem?_eq_getElem hlt)
      refine .inr ⟨hgo, St (i + 1), fun H' p => ⟨ds.length - (i + 1), by omega, rfl, hlt, p⟩, fun x H' y => ?_⟩
      obtain ⟨Wd, rfl, kp, rx⟩ := hy x H' y
      rw [List.drop_eq_getElem_cons hlt] at hlp
      unfold loopC at hlp
      cases ha : as ds[i] (wipeS ec vs) with
      | none => rw [ha] at hlp; cases hlp
      | some ea =>
        rw [ha] at hlp
        dsimp only at hlp
        refine hg _ Wd _ ea wc ds[i] x _ ha (s.kp kp) rx fun σ2 s2 hw => ⟨hw, ?_⟩
        unfold turnC at hlp
        cases htt : test ea wc with
        | none => rw [htt] at hlp; cases hlp
        | some rt =>
          rw [htt] at hlp
          cases rt with
          | ex _ _ _ => cases hlp
          | ok q eb wb =>
            refine ht _ Wd σ2 ea eb wc wb q _ htt s2 fun We s3 l3 => ?_
            cases q with
            | false =>
              dsimp only at hlp
              rw [if_neg (by decide)]
              refine ⟨We, eb, wb, accd, accv, rfl, ?_, ?_, hlp, le.trans (kp.le.trans l3.le), fun a h => ?_⟩
              · rw [← hw]; exact s3.wipe vs
              · exact (kp.le.trans l3.le).rps ra
              · exact hh a (kp.lx.hd a (l3.hd a h))
            | true =>
              dsimp only at hlp
              rw [if_pos rfl]
              cases hel : elt eb wb with
              | none => rw [hel] at hlp; cases hlp
              | some re =>
                rw [hel] at hlp
                cases re with
                | ex _ _ _ => cases hlp
                | ok d ec' wc' =>
                  dsimp only at hlp
                  refine he _ We σ2 eb ec' wb wc' d _ hel s3 fun v Wf s4 l4 rv => ?_
                  obtain ⟨g1, g2, g3⟩ := s4.at f2
                  have hle : Le Wc Wf := kp.le.trans (l3.le.trans l4.le)
                  by_cases hsm : small accd.length = true
                  · rw [if_pos hsm] at hlp
                    refine ⟨accv, g1, by rw [ra.length]; exact sm_lt hsm, ?_⟩
                    have vv : (Wf.put (upd Wf.h Da (.lst (accv ++ [v])))).vis = Wf.vis := vis_hid g2
                    have lf : Le Wf (Wf.put (upd Wf.h Da (.lst (accv ++ [v])))) := le_of_vis vv rfl
                    refine ⟨Wf.put (upd Wf.h Da (.lst (accv ++ [v]))), ec', wc', accd ++ [d], accv ++ [v], rfl, ?_, ?_, hlp, le.trans (hle.trans lf), fun a h => ?_⟩
                    · rw [← hw]; exact (s4.app f1 f2).wipe vs
                    · exact lf.rps (Rps.append (hle.rps ra) (.cons rv .nil))
                    · exact hh a (kp.lx.hd a (l3.hd a (l4.hd a h)))
                  · rw [if_neg hsm] at hlp; cases hlp
    · have e0 : i = ds.length := by omega
      subst e0
      refine .inl ⟨fi.2 (Nat.le_refl _), ?_⟩
      rw [List.drop_length] at hlp
      cases hlp
      obtain ⟨g1, g2, g3⟩ := s.at f2
      refine F Da Wc (s1.back le (s.unreb f1 f2 s1.hdok0)) ⟨f1, g2, hh, le, g3, _, g1, ra⟩ fun i xs hx hp => ?_
      have sb := s1.back le (s.unreb f1 f2 s1.hdok0)
      have so : ∀ q, (back e1 e2 vs)[i]? = some (Sl.own xs) → σ[i]? = some (some (V.ref q)) → q ≠ Da := fun q hx hq z => by
        subst z
        by_cases qv : i ∈ vs
        · have := back_in qv hx
          split at this <;> cases this
        · rw [back_ne qv, ← wipeS_ne qv] at hx
          obtain ⟨p', us, h1, h2, h3, h4⟩ := s.own i xs hx
          rw [wipe_ne qv, hq] at h1
          cases h1
          have h3 : upd W0.h q (HO.lst accv) q = none := h3
          rw [upd_same] at h3; cases h3
      exact so _ hx hp rfl

abbrev inB (b : Bk) (scope : Scope) : Bk := ⟨b.N, rl scope b.sc, scope, []⟩
theorem chg_wipe {scope : Scope} {σ' : L2.St} (h : Chg (inB b scope) (L2.wipe σ ((ownNames b scope).map (·.2))) σ') : L2.wipe σ' ((ownNames b scope).map (·.2)) = L2.wipe σ ((ownNames b scope).map (·.2)) := by
  refine wipe_eq (h.1.trans (wipe_length _ _)) fun j hj => ?_
  rw [h.2 j fun x i hx hi z => ?_, wipe_ne hj]
  subst z
  apply hj
  rw [List.mem_map]
  refine ⟨(x, j), ?_, rfl⟩
  unfold ownNames
  rw [List.mem_filterMap]
  have hi : slotOf b.N x 0 = some j := hi
  have hx : (match scope.names.lookup x with
    | some .local => true | some .cell => true | _ => false) = true := hx
  split at hx
  · rename_i q
    exact ⟨(x, .local), PySem.mem_of_lookup q, by rw [hi]; rfl⟩
  · rename_i q
    exact ⟨(x, .cell), PySem.mem_of_lookup q, by rw [hi]; rfl⟩
  · cases hx
theorem CO.blk (C : CO X c b WW k) (s : Shared) (H : Hp) (scope : Scope) (Ca : Addr) (cl : List (Str × Addr)) (fp : List Addr) : CO (X.blk s H scope (compEnvC scope cl Ca X.env) fp) c (inB b scope) (fun _ _ _ _ => False) k where
  mf := C.mf
  room := C.room
  N := C.N
  nd := C.nd
  sc := by
    show relS scope X.env.scope = rl scope b.sc
    rw [C.sc]
    rfl
  calm := C.calm
  sto := fun x h => by
    have h : (match scope.names.lookup x with
      | some .local => true | some .cell => true | _ => false) = true := h
    split at h
    · rename_i q
      have := lookup_relS_keep (sc := b.sc) (k := NameKind.local) (by intro z; cases z) q
      exact ⟨.inl this, .inr this⟩
    · rename_i q
      have := lookup_relS_keep (sc := b.sc) (k := NameKind.cell) (by intro z; cases z) q
      refine ⟨.inr this, .inl ?_⟩
      show (scope.names.lookup x == some NameKind.cell) = true
      rw [q]
      rfl
    · cases h
  tk := fun u s' ⟨a, B, sI, pins, σ, H, cls, d, e, I, nb, up, sky, na, os, ag, w⟩ => w
theorem folded_of {tg x : Expr} {r : ER (List D)} (h : evI c b n tg x e w = some r) (env : Env) (v : Value) : foldedSetIterable x env v = pure v := by
  cases x <;> try rfl
  exfalso
  cases n with
  | zero => unfold evI at h; cases h
  | succ n =>
    unfold evI at h
    cases n with
    | zero => unfold ev at h; cases h
    | succ n => unfold ev at h; cases h
/-- readings that hold in each block -/
def gU (X : Cx) (b : Bk) (scope : Scope) (tg : Expr) : TG := fun v σ H Q => ∀ (s : Shared) (H0 : Hp) (C : Addr) (cl : List (Str × Addr)) (fp : List Addr), RG (X.blk s H0 scope (compEnvC scope cl C X.env) fp) tg v σ H Q
def tU (X : Cx) (b : Bk) (scope : Scope) (f : Expr) : TT := fun σ H Q => ∀ (s : Shared) (H0 : Hp) (C : Addr) (cl : List (Str × Addr)) (fp : List Addr), RT (X.blk s H0 scope (compEnvC scope cl C X.env) fp) f σ H Q
def eU (X : Cx) (b : Bk) (scope : Scope) (f : Expr) : TE := fun σ H Q => ∀ (s : Shared) (H0 : Hp) (C : Addr) (cl : List (Str × Addr)) (fp : List Addr), RE (X.blk s H0 scope (compEnvC scope cl C X.env) fp) f σ H Q
def tstC (c : Cf) (b : Bk) (n : Nat) (ifs : List Expr) (e : List Sl) (w : Wd) : Option (ER Bool) := match ifs with
  | [] => some (.ok true e w)
  | f :: _ => evT c b n f e w
/-- a comprehension's parts -/
theorem evC_inv {x : Expr} {r : ER (List D)} (h : evC c b (n + 1) x e w = some r) : ∃ elt tg iter ifs scope pos, x = .ListComp elt [⟨tg, iter, ifs, 0⟩] scope pos ∧ ifs.length ≤ 1 ∧ blkC b.N b.sc scope (ownNames b scope) = true ∧
    (bnd (evI c b n tg iter e w) fun ds e1 w =>
          match loopC (fun d acc e w => match asg (inB b scope) n tg d (wipeS e ((ownNames b scope).map (·.2))) with
              | none => none
              | some e => turnC (tstC c (inB b scope) n ifs) (fun e w => ev c (inB b scope) n elt e w) acc e w) ds [] e1 w with
          | some (out, e2, w) => some (.ok out (back e1 e2 ((ownNames b scope).map (·.2))) w)
          | none => none) = some r := by
  unfold evC at h
  split at h
  · split at h
    · rename_i hc
      rw [Bool.and_eq_true] at hc
      exact ⟨_, _, _, _, _, _, rfl, of_decide_eq_true hc.1, hc.2, h⟩
    · cases h
  · cases h
/-- what the comprehension's form wants -/
theorem tLc_ok {elt tg iter : Expr} {ifs : List Expr} {scope : Scope} {r : ER (List D)} {Q : VK} {tt : TT} (SI : S_evI c k n) (ST : S_evT c k n) (SE : S_ev c k n) (C : CO X c b WW k) (s : SR (mdOf X) W0 W σ e w)
    (h : (bnd (evI c b n tg iter e w) fun ds e1 w =>
          match loopC (fun d acc e w => match asg (inB b scope) n tg d (wipeS e ((ownNames b scope).map (·.2))) with
              | none => none
              | some e => turnC (tstC c (inB b scope) n ifs) (fun e w => ev c (inB b scope) n elt e w) acc e w) ds [] e1 w with
          | some (out, e2, w) => some (.ok out (back e1 e2 ((ownNames b scope).map (·.2))) w)
          | none => none) = some r) (F : FinL X WW W0 σ W r Q)
    (ht : ∀ (Wa Wb : Wl) (σ' : L2.St) (ea eb : List Sl) (wa wb : Wd) (q : Bool) (Q : Bool → Hp → Prop), tstC c (inB b scope) n ifs ea wa = some (ER.ok q eb wb) → SR (mdOf X) Wa Wb σ' ea wa → (∀ Wc, SR (mdOf X) Wa Wc σ' eb wb → Lx Wb Wc → Q q Wc.h) → tt σ' Wb.h Q) :
    tLc (RI X tg iter) (gU X b scope tg) tt (eU X b scope elt) ((ownNames b scope).map (·.2)) σ W.h Q := by
  rcases bnd_inv h with ⟨ds, e1, w1, h1, h2⟩ | ⟨c', e1, w1, h1, h2⟩
  · refine SI X b WW C W0 W σ e w tg iter _ _ h1 s fun J W1 s1 l1 fd => ?_
    split at h2
    · rename_i out e2 w2 hl
      cases h2
      refine lc_turns s1 fd hl (fun Wa Wb ea eb wa d x Q ha sa rx q s' H0 Ca cl fp => ?_) ht (fun Wa Wb σ' ea eb wa wb d Q hd sa q s' H0 Ca cl fp => ?_) fun p W' s2 f no => ?_
      · exact asg_ok (C.blk s' H0 scope Ca cl fp) ha sa rx fun σ' s3 ch => q σ' s3 (chg_wipe ch)
      · exact SE _ _ _ (C.blk s' H0 scope Ca cl fp) Wa Wb σ' ea wa elt _ Q hd sa q
      · exact F p W' s2 ⟨f.fresh, f.hid, fun a ha => by
          rcases f.hd a ha with z | z
          · exact .inl z
          · exact .inr (l1.hd a z), l1.le.trans f.le, f.np, f.at_⟩ no
    · cases h2
  · subst h2
    exact SI X b WW C W0 W σ e w tg iter _ _ h1 s F
theorem tests_ok {ifs : List Expr} {scope : Scope} (hl : ifs.length ≤ 1) (ST : S_evT c k n) (C : CO X c b WW k) : ∃ tt : TT, (∀ (s : Shared) (H : Hp) (Ca : Addr) (cl : List (Str × Addr)) (fp : List Addr), PTs (X.blk s H scope (compEnvC scope cl Ca X.env) fp) ifs tt) ∧
    ∀ (Wa Wb : Wl) (σ' : L2.St) (ea eb : List Sl) (wa wb : Wd) (q : Bool) (Q : Bool → Hp → Prop), tstC c (inB b scope) n ifs ea wa = some (ER.ok q eb wb) → SR (mdOf X) Wa Wb σ' ea wa → (∀ Wc, SR (mdOf X) Wa Wc σ' eb wb → Lx Wb Wc → Q q Wc.h) → tt σ' Wb.h Q := by
  match ifs, hl with
  | [], _ =>
    refine ⟨tYes, fun _ _ _ _ _ => pts_nil, fun Wa Wb σ' ea eb wa wb q Q h s h2 => ?_⟩
    cases h
    exact h2 Wb s (Lx.refl _)
  | [f], _ =>
    refine ⟨tU X b scope f, fun s H Ca cl fp => pts_one ⟨fun pins s' σ H' Q I h => h s H Ca cl fp pins s' I⟩, fun Wa Wb σ' ea eb wa wb q Q h s h2 s' H0 Ca cl fp => ?_⟩
    exact ST _ _ _ (C.blk s' H0 scope Ca cl fp) Wa Wb σ' ea wa f _ Q h s fun v W' s3 l3 e3 => by subst e3; exact h2 W' s3 l3
theorem s_evC (SI : S_evI c k n) (ST : S_evT c k n) (SE : S_ev c k n) : S_evC c k (n + 1) := by
  intro X b WW C W0 W σ e w x r Q h s F
  obtain ⟨elt, tg, iter, ifs, scope, pos, rfl, hl, hb, h⟩ := evC_inv h
  have ok : BlkOk X.N X.env.scope scope (ownNames b scope) := by rw [C.N, C.sc]; exact blkOk_by hb
  have hf : ∀ x, foldedSetIterable iter X.env x = pure x := by
    rcases bnd_inv h with ⟨ds, e1, w1, h1, h2⟩ | ⟨c', e1, w1, h1, h2⟩
    · exact folded_of h1 X.env
    · exact folded_of h1 X.env
  obtain ⟨tt, ht1, ht2⟩ := tests_ok (scope := scope) hl ST C
  refine re_of (pe_lc C.calm (by rw [C.N]; exact C.nd) pi_self ok (g := gU X b scope tg) (te := eU X b scope elt) (fun s H Ca cl fp => ⟨fun pins s' σ H' v u Q I r h => h s H Ca cl fp pins s' u I r⟩) ht1 (fun s H Ca cl fp => ⟨fun pins s' σ H' Q I h => h s H Ca cl fp pins s' I⟩) hf) ?_
  exact tLc_ok SI ST SE C s h F ht2
end
end Pv
end
section
set_option Elab.async false
set_option linter.all false
set_option autoImplicit false
set_option maxRecDepth 100000
set_option maxHeartbeats 1000000
/-! Expressions, whole. -/
namespace Pv
open PySem PySem.Spec PyProof.Rows L2
section
variable {c : Cf} {k n : Nat}
theorem s_ev (J : ∀ m, m ≤ n → S_all c k m) : S_ev c k (n + 1) := by
  have I := J n (Nat.le_refl n)
  intro X b WW C W0 W σ e w x r Q h s F
  cases x with
  | BoolOp op xs pos =>
    have h : evB c b n op xs e w = some r := h
    exact I.evB X b WW C W0 W σ e w op xs pos r Q h s F
  | BinOp l op q pos => exact c_binop I C s h F
  | UnaryOp op p pos =>
    cases op with
    | USub => exact c_neg I C s h F
    | Not => exact c_not I C s h F
    | UAdd => cases h
    | Invert => cases h
  | IfExp t p q pos => exact c_if I C s h F
  | ListComp elt gs sc pos => exact c_comp I C s h F
  | Compare l ops cs pos =>
    rcases ops with _ | ⟨op, _ | ⟨op2, _ | ⟨op3, ops⟩⟩⟩ <;> rcases cs with _ | ⟨q, _ | ⟨u, _ | ⟨u3, cs⟩⟩⟩ <;> first
      | (cases h; done)
      | exact c_cmp I C s h F
      | exact c_chain I C s h F
  | Call f args kws pos =>
    cases kws with
    | cons _ _ => cases f <;> cases h
    | nil =>
      cases f <;> first | (cases h; done) | skip
      · exact c_callA J C s h F
      · exact c_callN I C s h F
  | Constant j u pos => exact c_const C s h F
  | Attribute o f pos => exact c_attr I C s h F
  | Subscript p u pos => exact c_sub I C s h F
  | Name y pos => exact c_name C s h F
  | Dict ks vs pos =>
    cases ks with
    | cons _ _ => cases h
    | nil =>
      cases vs with
      | cons _ _ => cases h
      | nil =>
        cases h
        refine re_of pe_dnewK fun p hp => ?_
        exact F (.ref p) (W.put (upd W.h p (.dK []))) (s.kp (Kp.new hp)) (Kp.new hp).lx (.dct (vis_new hp s.hdok s.wr.place))
  | List xs pos => exact c_list I C s h F
  | Tuple xs j pos => exact c_tuple I C s h F
  | _ => cases h
theorem s_zero : S_all c k 0 where
  ev := fun X b WW C W0 W σ e w x r Q h => by unfold ev at h; cases h
  evT := fun X b WW C W0 W σ e w x r Q h => by unfold evT at h; cases h
  evTs := fun X b WW C W0 W σ e w op xs pos r Q h => by unfold evTs at h; cases h
  evB := fun X b WW C W0 W σ e w op xs pos r Q h => by unfold evB at h; cases h
  evs := fun X b WW C W0 W σ e w xs r Q h => by unfold evs at h; cases h
  evO := fun X b WW C W0 W σ e w x r Q h => by unfold evO at h; cases h
  evBi := fun X b WW C W0 W σ e w g args p pos r Q _ _ _ _ h => by unfold evBi at h; cases h
  evOwn := fun X b WW C W0 W σ e w o i xs m args apos pos r Q _ _ _ _ h => by unfold evOwn at h; cases h
  evI := fun X b WW C W0 W σ e w tg x r R h => by unfold evI at h; cases h
  evC := fun X b WW C W0 W σ e w x r Q h => by unfold evC at h; cases h
theorem s_all_le : ∀ n m : Nat, m ≤ n → S_all c k m
  | 0, m, h => by
    have : m = 0 := by omega
    subst this
    exact s_zero
  | n + 1, m, h => by
    have J := s_all_le n
    by_cases hm : m ≤ n
    · exact J m hm
    · have : m = n + 1 := by omega
      subst this
      have I := J n (Nat.le_refl n)
      exact ⟨s_ev J, s_evT J, s_evTs I, s_evB I, s_evs I, s_evO I, s_evBi I, s_evOwn I, s_evI I.ev I.evs, s_evC I.evI I.evT I.ev⟩
theorem s_all (n : Nat) : S_all c k n := s_all_le n n (Nat.le_refl n)
end
end Pv
end
section
set_option Elab.async false
set_option linter.all false
set_option autoImplicit false
set_option maxRecDepth 100000
set_option maxHeartbeats 1000000
/-! Statements. -/
namespace Pv
open PySem PySem.Spec PyProof.Rows L2
def FinS (X : Cx) (WW : WX) (W0 W : Wl) (r : SO) (Dn : Ends) : Prop := match r with
  | .nx e w => ∀ σ' W', SR (mdOf X) W0 W' σ' e w → Le W W' → Dn.nx σ' W'.h
  | .bk e w => ∀ σ' W', SR (mdOf X) W0 W' σ' e w → Le W W' → Dn.bk σ' W'.h
  | .ct e w => ∀ σ' W', SR (mdOf X) W0 W' σ' e w → Le W W' → Dn.ct σ' W'.h
  | .rt d w => ∀ v W', W'.hd = W0.hd → Fm W0 W' → WR (mdOf X) W' w → RW (mdOf X) W' v d → Dn.rt v W'.h
  | .ex c e w => ∀ σ' W' C, SR (mdOf X) W0 W' σ' e w → X.mg c = some (.ref C) → WW (.ref C) none σ' W'.h
section
variable (c : Cf) (k : Nat)
def S_st (n : Nat) : Prop := ∀ (X : Cx) (b : Bk) (WW : WX), CO X c b WW k → PassesOwn (model X.prog X.w) X.A X.env X.xe → ∀ (W0 W : Wl) (σ : L2.St) (e : List Sl) (w : Wd) (x : Stmt) (r : SO) (Dn : Ends), evSt c b n x e w = some r → SR (mdOf X) W0 W σ e w → FinS X WW W0 W r Dn → RS X x Dn σ W.h
def S_ss (n : Nat) : Prop := ∀ (X : Cx) (b : Bk) (WW : WX), CO X c b WW k → PassesOwn (model X.prog X.w) X.A X.env X.xe → ∀ (W0 W : Wl) (σ : L2.St) (e : List Sl) (w : Wd) (x : List Stmt) (r : SO) (Dn : Ends), evSs c b n x e w = some r → SR (mdOf X) W0 W σ e w → FinS X WW W0 W r Dn → RSs X x Dn σ W.h
end
section
variable {c : Cf} {k n : Nat} {X : Cx} {b : Bk} {WW : WX} {W0 W : Wl} {σ : L2.St} {e : List Sl} {w : Wd} {r : SO} {Dn : Ends}
theorem FinS.le {W1 : Wl} (F : FinS X WW W0 W r Dn) (l : Le W W1) : FinS X WW W0 W1 r Dn := by
  unfold FinS at F ⊢
  split
  · exact fun σ' W' s l' => F σ' W' s (l.trans l')
  · exact fun σ' W' s l' => F σ' W' s (l.trans l')
  · exact fun σ' W' s l' => F σ' W' s (l.trans l')
  · exact F
  · exact F
/-- at the def's end nothing of its own is hidden -/
theorem SR.ret {d : D} {v : V} {Q : VK} (s : SR (mdOf X) W0 W σ e w) (rv : RW (mdOf X) W v d) (q : ∀ v W', W'.hd = W0.hd → Fm W0 W' → WR (mdOf X) W' w → RW (mdOf X) W' v d → Q v W'.h) : Q v W.h := by
  have ex : Same W.vis ({ W with hd := W0.hd } : Wl).vis := fun a o ea => by
    obtain ⟨h1, h2, h3⟩ := vis_some ea
    exact vis_of h1 (fun z => h2 (s.hd0 a z)) h3
  have le : Le W { W with hd := W0.hd } := ⟨ex, .inr rfl⟩
  refine q v { W with hd := W0.hd } rfl s.fm ?_ (le.rp rv)
  have := s.wr
  cases w with
  | none => exact this
  | some q' =>
    obtain ⟨ds, nn⟩ := q'
    obtain ⟨a, b', c', e1, h1, h2, h3, h4⟩ := this
    exact ⟨a, b', c', e1, ex _ _ h1, ex _ _ h2, h3, fun z => h4 (s.hd0 _ z)⟩
/-- swaps, for what is no comprehension -/
theorem sw_no {v : Expr} {t : Option Expr} {l : Nat} {env : Env} (h : isComp v = false) : swapsWith v t l env = pure false := by
  cases v <;> first | (cases h; done) | rfl
theorem sw_lc {elt : Expr} {gs : List Comprehension} {scope : Scope} {pos py : Pos} {y : Str} {l : Nat} {env : Env} : swapsWith (.ListComp elt gs scope pos) (some (.Name y py)) l env = pure (env.blockKind == .function && env.kindOf y == some .local && py.line == (Expr.ListComp elt gs scope pos).pos.line && !(scope.names.any fun (n, k) => n == y && (k == .local || k == .cell))) := rfl
/-- a comprehension stored by its name, whichever way it goes -/
theorem ps_lc {i : Nat} {y : Str} {py pos spos : Pos} {elt : Expr} {gs : List Comprehension} {scope : Scope} {re : ER (List D)} (C : CO X c b WW k) (hi : slotOf b.N y 0 = some i) (hs : isSto b.st y = true) (s : SR (mdOf X) W0 W σ e w)
    (h : evC c b n (.ListComp elt gs scope pos) e w = some re) (F : FinL X WW W0 σ W re (fun v H => Dn.nx (σ.set i (some v)) H)) : RS X (.Assign [.Name y py] (.ListComp elt gs scope pos) spos) Dn σ W.h := by
  have A := s_all (c := c) (k := k) n
  obtain ⟨h1, h2⟩ := C.sto y hs
  have hnd : X.N.Nodup := by rw [C.N]; exact C.nd
  cases hb : (X.env.blockKind == .function && X.env.kindOf y == some .local && py.line == (Expr.ListComp elt gs scope pos).pos.line && !(scope.names.any fun (n, k) => n == y && (k == .local || k == .cell))) with
  | false =>
    refine rs_of (ps_set (te := RE X (.ListComp elt gs scope pos)) hnd (C.slot hi) (by rw [C.sc]; exact h1) pe_self (by rw [sw_lc, hb]) (by rw [C.sc]; exact h2)) ?_
    exact A.evC X b WW C W0 W σ e w _ re _ h s F
  | true =>
    have hyl : X.env.scope.names.lookup y = some .local := by
      simp only [Bool.and_eq_true, beq_iff_eq] at hb
      exact hb.1.1.2
    cases n with
    | zero => unfold evC at h; cases h
    | succ n =>
      obtain ⟨elt', tg, iter, ifs, scope', pos', hx, hl, hbk, h⟩ := evC_inv h
      cases hx
      have ok : BlkOk X.N X.env.scope scope (ownNames b scope) := by rw [C.N, C.sc]; exact blkOk_by hbk
      have hf : ∀ x, foldedSetIterable iter X.env x = pure x := by
        rcases bnd_inv h with ⟨ds, e1, w1, h1, h2⟩ | ⟨c', e1, w1, h1, h2⟩
        · exact folded_of h1 X.env
        · exact folded_of h1 X.env
      have B := s_all (c := c) (k := k) n
      obtain ⟨tt, ht1, ht2⟩ := tests_ok (scope := scope) hl B.evT C
      refine rs_of (ps_setLc C.calm hnd (C.slot hi) hyl (by rw [sw_lc, hb]) pi_self ok (g := gU X b scope tg) (te := eU X b scope elt) (fun s H Ca cl fp => ⟨fun pins s' σ H' v u Q I r h => h s H Ca cl fp pins s' u I r⟩) ht1 (fun s H Ca cl fp => ⟨fun pins s' σ H' Q I h => h s H Ca cl fp pins s' I⟩) hf) ?_
      exact tLc_ok (Q := fun v H => Dn.nx (σ.set i (some v)) H) B.evI B.evT B.ev C s h F ht2
/-- a new list that is the def's alone, stored -/
theorem SR.stOwn {W1 : Wl} {e1 : List Sl} {w1 : Wd} {p : Addr} {ds : List D} {i : Nat} (s : SR (mdOf X) W0 W1 σ e1 w1) (f : FL X W0 W W1 p ds) (no : ∀ (i : Nat) xs, e1[i]? = some (Sl.own xs) → σ[i]? ≠ some (some (V.ref p))) (hi : i < σ.length) :
    SR (mdOf X) W0 W1 (σ.set i (some (.ref p))) (e1.set i (.own ds)) w1 where
  len := by rw [List.length_set, List.length_set]; exact s.len
  val := fun j d' h' => by
    rcases get_set h' with ⟨q, z⟩ | ⟨q, h'⟩
    · cases z
    · obtain ⟨u, h1, h2⟩ := s.val j d' h'
      exact ⟨u, by rw [List.getElem?_set_ne q]; exact h1, h2⟩
  own := fun j xs h' => by
    rcases get_set h' with ⟨q, z⟩ | ⟨q, h'⟩
    · cases z
      subst q
      obtain ⟨vs, h1, h2⟩ := f.at_
      exact ⟨p, vs, by rw [List.getElem?_set_self hi], f.hid, f.fresh, h1, f.np, h2⟩
    · obtain ⟨p, vs, h1, h2⟩ := s.own j xs h'
      exact ⟨p, vs, by rw [List.getElem?_set_ne q]; exact h1, h2⟩
  ap := fun j j' q xs ys h1 h2 g1 g2 => by
    rcases get_set h1 with ⟨q1, z⟩ | ⟨q1, h1⟩
    · rcases get_set h2 with ⟨q2, _⟩ | ⟨q2, h2⟩
      · exact q1.symm.trans q2
      · subst q1
        rw [List.getElem?_set_self hi] at g1
        cases g1
        rw [List.getElem?_set_ne q2] at g2
        exact (no j' _ h2 g2).elim
    · rw [List.getElem?_set_ne q1] at g1
      rcases get_set h2 with ⟨q2, _⟩ | ⟨q2, h2⟩
      · subst q2
        rw [List.getElem?_set_self hi] at g2
        cases g2
        exact (no j _ h1 g1).elim
      · rw [List.getElem?_set_ne q2] at g2
        exact s.ap j j' q xs ys h1 h2 g1 g2
  wr := s.wr
  hdok := s.hdok
  fm := s.fm
  hd0 := s.hd0
  hd1 := s.hd1
  hdok0 := s.hdok0
/-- a list just laid is hidden -/
theorem fl_new {p : Addr} {vs : List V} {ds : List D} (s : SR (mdOf X) W0 W σ e w) (hp : W.h p = none) (rs : RWs (mdOf X) W vs ds) :
    SR (mdOf X) W0 (W.reb p (.lst vs)) σ e w ∧ FL X W0 W (W.reb p (.lst vs)) p ds ∧ (∀ (i : Nat) xs, e[i]? = some (Sl.own xs) → σ[i]? ≠ some (some (V.ref p))) := by
  obtain ⟨f1, f2⟩ := s.free hp
  have le : Le W (W.reb p (.lst vs)) := le_of_vis (reb_vis hp) rfl
  refine ⟨(s.hide hp).unreb f1 f2 s.hdok0, ⟨f1, .inr rfl, fun a h => ?_, le, fun x y z => s.wr.place x y p z hp, vs, upd_same, le.rps rs⟩, fun i xs h hσ => ?_⟩
  · rcases h with z | z
    · exact .inr z
    · exact .inl z
  · obtain ⟨p', us, h1, _, _, h4, _⟩ := s.own i xs h
    rw [hσ] at h1
    cases h1
    rw [hp] at h4
    cases h4

theorem addL {a b' : D} {ds : List D} (h : binD .Add a b' = some (.lst ds)) : ∃ xs ys, a = .lst xs ∧ b' = .lst ys ∧ small (xs.length + ys.length) = true ∧ ds = xs ++ ys := by
  cases a <;> cases b' <;> first | (cases h; done) | skip
  · rename_i x y
    have h : (if small (x.length + y.length) then some (D.str (x ++ y)) else none) = some (.lst ds) := h
    split at h <;> cases h
  · rename_i xs ys
    have h : (if small (xs.length + ys.length) then some (D.lst (xs ++ ys)) else none) = some (.lst ds) := h
    split at h
    · rename_i hs
      cases h
      exact ⟨xs, ys, rfl, rfl, hs, rfl⟩
    · cases h
  · rename_i xs ys
    have h : (if small (xs.length + ys.length) then some (D.tup (xs ++ ys)) else none) = some (.lst ds) := h
    split at h <;> cases h
/-- what an expression's raise leaves -/
theorem FinS.exE {α β : Type} {rep : Wl → β → α → Prop} {Q : β → Hp → Prop} {cc : Str} {e1 : List Sl} {w1 : Wd} (F : FinS X WW W0 W (.ex cc e1 w1) Dn) : Fin X WW W0 σ W rep (ER.ex cc e1 w1 : ER α) Q := fun W' C s l h => F σ W' C s h
theorem mu_ok {i : Nat} {y : Str} {py spos : Pos} {v : Expr} (C : CO X c b WW k) (hi : slotOf b.N y 0 = some i) (hs : isSto b.st y = true) (s : SR (mdOf X) W0 W σ e w) (hlt : i < σ.length)
    (h : (match v with
            | .List xs _ => (match bnd (evs c b n xs e w) fun ds e w => if small ds.length then some (.ok (D.lst ds) e w) else none with
              | some (.ok (.lst ds) e w) => some (.nx (e.set i (.own ds)) w) | some (.ex k e w) => some (.ex k e w) | _ => none)
            | .BinOp p .Add q _ => (match bnd (ev c b n p e w) fun d1 e w => bnd (ev c b n q e w) fun d2 e w => (match binD .Add d1 d2 with | some d => some (.ok d e w) | none => none) with
              | some (.ok (.lst ds) e w) => some (.nx (e.set i (.own ds)) w) | some (.ex k e w) => some (.ex k e w) | _ => none)
            | .ListComp _ _ _ _ => (match evC c b n v e w with
              | some (.ok ds e w) => some (.nx (e.set i (.own ds)) w) | some (.ex k e w) => some (.ex k e w) | none => none)
            | .Call (.Name g _) [a] [] _ => if g = "list" && isGl b.sc g && c.bi g && !isStar a then (match ev c b n a e w with
              | some (.ok (.lst ds) e w) => some (.nx (e.set i (.own ds)) w) | some (.ok (.tup ds) e w) => some (.nx (e.set i (.own ds)) w) | some (.ex k e w) => some (.ex k e w) | _ => none) else none
            | _ => none) = some r) (F : FinS X WW W0 W r Dn) : RS X (.Assign [.Name y py] v spos) Dn σ W.h := by
  have A := s_all (c := c) (k := k) n
  obtain ⟨g1, g2⟩ := C.sto y hs
  have hnd : X.N.Nodup := by rw [C.N]; exact C.nd
  have fin : ∀ {ds : List D} {e1 : List Sl} {w1 : Wd} {W1 : Wl} {vs : List V}, r = .nx (e1.set i (.own ds)) w1 → SR (mdOf X) W0 W1 σ e1 w1 → Le W W1 → RWs (mdOf X) W1 vs ds → ∀ p, W1.h p = none → Dn.nx (σ.set i (some (.ref p))) (upd W1.h p (.lst vs)) := by
    intro ds e1 w1 W1 vs hr s1 l1 rs p hp
    subst hr
    obtain ⟨s2, f2, no⟩ := fl_new s1 hp rs
    exact F _ (W1.reb p (.lst vs)) (s2.stOwn f2 no hlt) (l1.trans f2.le)
  split at h
  · rename_i xs lp
    refine rs_of (ps_set hnd (C.slot hi) (by rw [C.sc]; exact g1) (pe_lst pa_self) (sw_no rfl) (by rw [C.sc]; exact g2)) ?_
    cases hh : bnd (evs c b n xs e w) fun ds e w => if small ds.length then some (.ok (D.lst ds) e w) else none with
    | none => rw [hh] at h; cases h
    | some re =>
      rw [hh] at h
      rcases bnd_inv hh with ⟨d, e1, w1, h1, h2⟩ | ⟨c', e1, w1, h1, h2⟩
      · split at h2
        · rename_i hsm
          cases h2
          cases h
          refine A.evs X b WW C W0 W σ e w xs _ _ h1 s fun vs W1 s1 l1 r1 => ?_
          exact ⟨by rw [r1.length]; exact sm hsm, fin rfl s1 l1.le r1⟩
        · cases h2
      · subst h2
        cases h
        exact A.evs X b WW C W0 W σ e w xs _ _ h1 s F.exE
  · rename_i p q bp
    cases hh : (bnd (ev c b n p e w) fun d1 e w => bnd (ev c b n q e w) fun d2 e w => (match binD .Add d1 d2 with | some d => some (ER.ok d e w) | none => none)) with
    | none => rw [hh] at h; cases h
    | some re =>
      rw [hh] at h
      refine rs_of (ps_set hnd (C.slot hi) (by rw [C.sc]; exact g1) (pe_op op_self pe_self pe_self) (sw_no rfl) (by rw [C.sc]; exact g2)) ?_
      rcases bnd_inv hh with ⟨d1, e1, w1, h1, h2⟩ | ⟨c', e1, w1, h1, h2⟩
      · refine A.ev X b WW C W0 W σ e w p _ _ h1 s fun v1 W1 s1 l1 r1 => ?_
        rcases bnd_inv h2 with ⟨d2, e2, w2, h3, h4⟩ | ⟨c', e2, w2, h3, h4⟩
        · refine A.ev X b WW C W0 W1 σ e1 w1 q _ _ h3 s1 fun v2 W2 s2 l2 r2 => ?_
          split at h4
          · rename_i d hd
            cases h4
            split at h
            · rename_i ds e4 w4 hq
              cases hq
              cases h
              obtain ⟨xs, ys, rfl, rfl, hsm, rfl⟩ := addL hd
              cases r2 with
              | lst hb rb =>
                cases l2.le.rp r1 with
                | lst ha ra =>
                  refine b2_of op_cat ⟨_, _, _, _, rfl, rfl, vis_sub W2 _ _ ha, vis_sub W2 _ _ hb, ?_, fin rfl s2 (l1.le.trans l2.le) (Rps.append ra rb)⟩
                  rw [ra.length, rb.length]; exact sm hsm
            · rename_i hq
              cases hq
            · cases h
          · cases h4
        · subst h4
          cases h
          exact A.ev X b WW C W0 W1 σ e1 w1 q _ _ h3 s1 (F.le l1.le).exE
      · subst h2
        cases h
        exact A.ev X b WW C W0 W σ e w p _ _ h1 s F.exE
  · rename_i elt gs scope lp
    cases hh : evC c b n (.ListComp elt gs scope lp) e w with
    | none => rw [hh] at h; cases h
    | some re =>
      rw [hh] at h
      refine ps_lc C hi hs s hh ?_
      cases re with
      | ok ds e1 w1 =>
        cases h
        exact fun p W' s1 f no => F _ W' (s1.stOwn f no hlt) f.le
      | ex cc e1 w1 =>
        cases h
        exact fun W' C s l h => F σ W' C s h
  · rename_i g gp a cp
    split at h
    · rename_i hc
      simp only [Bool.and_eq_true, decide_eq_true_eq, Bool.not_eq_true'] at hc
      obtain ⟨⟨⟨rfl, hg⟩, hbi⟩, hst⟩ := hc
      refine rs_of (ps_set hnd (C.slot hi) (by rw [C.sc]; exact g1) (pe_callTy (t := RA X [a]) call_list_of (C.gl hg) (C.mf.bi "list" hbi) (by decide +kernel) pa_self (by decide) (by decide) (star_no hst) (star_any rfl)) (sw_no rfl) (by rw [C.sc]; exact g2)) ?_
      refine ra_of (pa_cons (te := RE X a) pe_self pa_nil (star_no hst)) ?_
      cases hh : ev c b n a e w with
      | none => rw [hh] at h; cases h
      | some re =>
        rw [hh] at h
        split at h
        · rename_i ds e1 w1 hq
          cases hq
          cases h
          refine A.ev X b WW C W0 W σ e w a _ _ hh s fun v1 W1 s1 l1 r1 => ?_
          cases r1 with
          | lst ha rs => exact ⟨_, _, rfl, .inl (SqL.of (vis_sub W1 _ _ ha)), fin rfl s1 l1.le rs⟩
        · rename_i ds e1 w1 hq
          cases hq
          cases h
          refine A.ev X b WW C W0 W σ e w a _ _ hh s fun v1 W1 s1 l1 r1 => ?_
          cases r1 with
          | tup ha rs => exact ⟨_, _, rfl, .inr (sqT_ex (vis_sub W1) ha), fin rfl s1 l1.le rs⟩
        · rename_i hq
          cases hq
          cases h
          exact A.ev X b WW C W0 W σ e w a _ _ hh s F.exE
        · cases h
    · cases h
  · cases h
end
end Pv
end
section
set_option Elab.async false
set_option linter.all false
set_option autoImplicit false
set_option maxRecDepth 100000
set_option maxHeartbeats 1000000
/-! Statements, whole. -/
namespace Pv
open PySem PySem.Spec PyProof.Rows L2
section
variable {c : Cf} {k n : Nat} {X : Cx} {b : Bk} {WW : WX} {W0 W : Wl} {σ : L2.St} {e : List Sl} {w : Wd} {r : SO} {Dn : Ends}
theorem no_swap {tg v : Expr} {env : Env} (h : isDisp v = false) : swappedStores [tg] v env = pure none := by
  cases v <;> first | (cases h; done) | (cases tg <;> rfl)
theorem raises_of {C : Addr} (x : ExC X.K C) : Raises X (.ref C) := raises_own x.sub x.ty
/-- the turns of a for -/
theorem for_turns {J : It} {tg : Expr} {body : List Stmt} {ds : List D} {e1 : List Sl} {w1 : Wd} {W1 : Wl} {σ1 : L2.St} (B : S_ss c k n) (C : CO X c b WW k) (hp : PassesOwn (model X.prog X.w) X.A X.env X.xe) (s1 : SR (mdOf X) W0 W1 σ1 e1 w1) (fd : Feeds X J W1 ds)
    (hl : loopF (fun d e w => match asg b n tg d e with | none => none | some e => evSs c b n body e w) ds e1 w1 = some r) (F : FinS X WW W0 W1 r Dn) :
    ∃ Wf : Nat → Nat → L2.St → Hp → Prop, (∃ m, Wf 0 m σ1 W1.h) ∧ ∀ i m σ H, Wf i m σ H →
      (J.stop i H ∧ Dn.nx σ H) ∨ (J.go i H ∧ ∃ N : L2.St → Hp → Prop, (∀ σ' H', N σ' H' → ∃ m', m' < m ∧ Wf (i + 1) m' σ' H') ∧ ∀ x H', J.yld i H x H' → RG X tg x σ H' fun σ2 H2 => RSs X body { Dn with nx := N, ct := N, bk := Dn.nx } σ2 H2) := by
  let St : Nat → L2.St → Hp → Prop := fun i σ H => ∃ (Wc : Wl) (ec : List Sl) (wc : Wd), Wc.h = H ∧ SR (mdOf X) W0 Wc σ ec wc ∧ Le W1 Wc ∧
    loopF (fun d e w => match asg b n tg d e with | none => none | some e => evSs c b n body e w) (ds.drop i) ec wc = some r
  refine ⟨fun i m σ H => m = ds.length - i ∧ i ≤ ds.length ∧ St i σ H, ⟨ds.length, by simp, Nat.zero_le _, W1, e1, w1, rfl, s1, Le.refl _, hl⟩, ?_⟩
  rintro i mm σ H ⟨rfl, hi, Wc, ec, wc, rfl, s, le, hlp⟩
  have fi := fd Wc le s.gd i
  by_cases hlt : i < ds.length
  · obtain ⟨hgo, hy⟩ := fi.1 ds[i] (List.getElem?_eq_getElem hlt)
    refine .inr ⟨hgo, St (i + 1), fun σ' H' p => ⟨ds.length - (i + 1), by omega, rfl, hlt, p⟩, fun x H' y => ?_⟩
    obtain ⟨Wd, rfl, kp, rx⟩ := hy x H' y
    rw [List.drop_eq_getElem_cons hlt] at hlp
    unfold loopF at hlp
    cases ha : asg b n tg ds[i] ec with
    | none => rw [ha] at hlp; cases hlp
    | some ea =>
      rw [ha] at hlp
      dsimp only at hlp
      refine asg_ok C ha (s.kp kp) rx fun σ2 s2 ch => ?_
      cases hb : evSs c b n body ea wc with
      | none => rw [hb] at hlp; cases hlp
      | some ro =>
        rw [hb] at hlp
        refine B X b WW C hp W0 Wd σ2 ea wc body ro _ hb s2 ?_
        have l2 : Le W1 Wd := le.trans kp.le
        cases ro with
        | nx e' w' => exact fun σ' W' s3 l3 => ⟨W', e', w', rfl, s3, l2.trans l3, hlp⟩
        | ct e' w' => exact fun σ' W' s3 l3 => ⟨W', e', w', rfl, s3, l2.trans l3, hlp⟩
        | bk e' w' =>
          cases hlp
          exact fun σ' W' s3 l3 => F σ' W' s3 (l2.trans l3)
        | rt d' w' =>
          cases hlp
          exact F
        | ex c' e' w' =>
          cases hlp
          exact F
  · have e0 : i = ds.length := by omega
    subst e0
    refine .inl ⟨fi.2 (Nat.le_refl _), ?_⟩
    rw [List.drop_length] at hlp
    cases hlp
    exact F σ Wc s le
theorem s_ss (B : S_st c k n) (B' : S_ss c k n) : S_ss c k (n + 1) := by
  intro X b WW C hp W0 W σ e w xs r Dn h s F
  cases xs with
  | nil =>
    have h : some (SO.nx e w) = some r := by rw [← h]; unfold evSs; rfl
    cases h
    exact rss_of pss_nil (F σ W s (Le.refl W))
  | cons x xs =>
    have h : (match evSt c b n x e w with
      | some (.nx e w) => evSs c b n xs e w
      | o => o) = some r := h
    cases hx : evSt c b n x e w with
    | none => rw [hx] at h; cases h
    | some ro =>
      rw [hx] at h
      refine rss_of (pss_cons ps_self pss_self) ?_
      refine B X b WW C hp W0 W σ e w x ro _ hx s ?_
      cases ro with
      | nx e' w' => exact fun σ' W' s1 l1 => B' X b WW C hp W0 W' σ' e' w' xs r Dn h s1 (F.le l1)
      | bk e' w' => cases h; exact F
      | ct e' w' => cases h; exact F
      | rt d' w' => cases h; exact F
      | ex c' e' w' => cases h; exact F
theorem s_st (B' : S_ss c k n) : S_st c k (n + 1) := by
  have A := s_all (c := c) (k := k) n
  intro X b WW C hp W0 W σ e w x r Dn h s F
  have hnd : X.N.Nodup := by rw [C.N]; exact C.nd
  cases x with
  | Pass pos =>
    cases h
    exact rs_of ps_pass (F σ W s (Le.refl W))
  | Break pos =>
    cases h
    exact rs_of ps_break (F σ W s (Le.refl W))
  | Continue pos =>
    cases h
    exact rs_of ps_continue (F σ W s (Le.refl W))
  | Return v pos =>
    cases v with
    | none =>
      cases h
      exact rs_of ps_retN (s.ret (X := X) (d := .non) .non F)
    | some v =>
      have h : (match ev c b n v e w with
        | some (.ok d _ w) => some (SO.rt d w) | some (.ex k e w) => some (.ex k e w) | none => none) = some r := h
      refine rs_of (ps_ret pe_self) ?_
      cases hv : ev c b n v e w with
      | none => rw [hv] at h; cases h
      | some re =>
        rw [hv] at h
        cases re with
        | ok d e1 w1 =>
          cases h
          exact A.ev X b WW C W0 W σ e w v _ _ hv s fun v1 W1 s1 l1 r1 => s1.ret r1 F
        | ex cc e1 w1 =>
          cases h
          exact A.ev X b WW C W0 W σ e w v _ _ hv s F.exE
  | Expr v pos =>
    have h : (if isComp v then none else (match ev c b n v e w with
      | some (.ok _ e w) => some (SO.nx e w) | some (.ex k e w) => some (.ex k e w) | none => none)) = some r := h
    split at h
    · cases h
    · rename_i hc
      refine rs_of (ps_expr pe_self (sw_no (by simpa using hc))) ?_
      cases hv : ev c b n v e w with
      | none => rw [hv] at h; cases h
      | some re =>
        rw [hv] at h
        cases re with
        | ok d e1 w1 =>
          cases h
          exact A.ev X b WW C W0 W σ e w v _ _ hv s fun v1 W1 s1 l1 r1 => F σ W1 s1 l1.le
        | ex cc e1 w1 =>
          cases h
          exact A.ev X b WW C W0 W σ e w v _ _ hv s F.exE
  | If t p q pos =>
    have h : (match evT c b n t e w with
      | some (.ok k e w) => if k = true then evSs c b n p e w else evSs c b n q e w
      | some (.ex k e w) => some (SO.ex k e w) | none => none) = some r := h
    refine rs_of (ps_if pt_self pss_self pss_self) ?_
    cases ht : evT c b n t e w with
    | none => rw [ht] at h; cases h
    | some re =>
      rw [ht] at h
      cases re with
      | ok q1 e1 w1 =>
        refine A.evT X b WW C W0 W σ e w t _ _ ht s fun v1 W1 s1 l1 r1 => ?_
        subst r1
        cases v1 with
        | true => exact B' X b WW C hp W0 W1 σ e1 w1 p r Dn h s1 (F.le l1.le)
        | false => exact B' X b WW C hp W0 W1 σ e1 w1 q r Dn h s1 (F.le l1.le)
      | ex cc e1 w1 =>
        cases h
        exact A.evT X b WW C W0 W σ e w t _ _ ht s F.exE
  | For tg iter body orelse pos =>
    cases orelse with
    | cons _ _ => cases h
    | nil =>
      have h : (match evI c b n tg iter e w with
        | some (.ok ds e w) => loopF (fun d e w => match asg b n tg d e with | none => none | some e => evSs c b n body e w) ds e w
        | some (.ex k e w) => some (SO.ex k e w) | none => none) = some r := h
      cases hv : evI c b n tg iter e w with
      | none => rw [hv] at h; cases h
      | some re =>
        refine rs_of (ps_for hp C.calm pi_self pg_self pss_self (folded_of hv X.env)) ?_
        rw [hv] at h
        cases re with
        | ok ds e1 w1 =>
          refine A.evI X b WW C W0 W σ e w tg iter _ _ hv s fun J W1 s1 l1 fd => ?_
          exact for_turns B' C hp s1 fd h (F.le l1.le)
        | ex cc e1 w1 =>
          cases h
          exact A.evI X b WW C W0 W σ e w tg iter _ _ hv s F.exE
  | Raise ex cause pos =>
    cases cause with
    | some _ => rcases ex with _ | x <;> first | (cases h; done) | skip
                cases x <;> first | (cases h; done) | skip
                rename_i f args kws p
                cases f <;> first | (cases h; done) | skip
                rcases args with _ | ⟨a, _ | ⟨a2, as⟩⟩ <;> rcases kws with _ | ⟨kw, kws⟩ <;> first | (cases h; done) | skip
                all_goals (cases a <;> first | (cases h; done) | skip)
                all_goals (rename_i cst j pp; cases cst <;> first | (cases h; done) | skip)
    | none =>
      rcases ex with _ | x <;> first | (cases h; done) | skip
      cases x <;> first | (cases h; done) | skip
      rename_i f args kws p
      cases f <;> first | (cases h; done) | skip
      rename_i y yp
      rcases args with _ | ⟨a, _ | ⟨a2, as⟩⟩ <;> rcases kws with _ | ⟨kw, kws⟩ <;> first | (cases h; done) | skip
      all_goals (cases a <;> first | (cases h; done) | skip)
      all_goals (rename_i cst j pp; cases cst <;> first | (cases h; done) | skip)
      rename_i msg
      have h : (if c.exn y && isGl b.sc y && okN y then some (SO.ex y e w) else none) = some r := h
      split at h
      · rename_i hc
        simp only [Bool.and_eq_true] at hc
        cases h
        obtain ⟨Ca, hm, ex⟩ := C.mf.exn y hc.1.1
        obtain ⟨bmB, Bn, ni, ii, fx, hx⟩ := ex.ex
        refine rs_of (ps_raise C.calm C.tk (pmk_own fx hx hm ex.kp (raises_of ex) (C.gl hc.1.2) (okN_1 hc.2))) ?_
        exact F σ W Ca s hm
      · cases h
  | Assign tgs v pos =>
    rcases tgs with _ | ⟨tg, _ | ⟨t2, ts⟩⟩ <;> first | (cases h; done) | skip
    cases tg <;> first | (cases h; done) | skip
    · rename_i y py
      have h : (if okN y && isSto b.st y then (match slotOf b.N y 0 with
        | some i => if i ∈ b.mu then (match v with
            | .List xs _ => (match bnd (evs c b n xs e w) fun ds e w => if small ds.length then some (.ok (D.lst ds) e w) else none with
              | some (.ok (.lst ds) e w) => some (.nx (e.set i (.own ds)) w) | some (.ex k e w) => some (.ex k e w) | _ => none)
            | .BinOp p .Add q _ => (match bnd (ev c b n p e w) fun d1 e w => bnd (ev c b n q e w) fun d2 e w => (match binD .Add d1 d2 with | some d => some (.ok d e w) | none => none) with
              | some (.ok (.lst ds) e w) => some (.nx (e.set i (.own ds)) w) | some (.ex k e w) => some (.ex k e w) | _ => none)
            | .ListComp _ _ _ _ => (match evC c b n v e w with
              | some (.ok ds e w) => some (.nx (e.set i (.own ds)) w) | some (.ex k e w) => some (.ex k e w) | none => none)
            | .Call (.Name g _) [a] [] _ => if g = "list" && isGl b.sc g && c.bi g && !isStar a then (match ev c b n a e w with
              | some (.ok (.lst ds) e w) => some (.nx (e.set i (.own ds)) w) | some (.ok (.tup ds) e w) => some (.nx (e.set i (.own ds)) w) | some (.ex k e w) => some (.ex k e w) | _ => none) else none
            | _ => none)
          else (match ev c b n v e w with
            | some (.ok d e w) => some (.nx (e.set i (.val d)) w) | some (.ex k e w) => some (.ex k e w) | none => none)
        | none => none) else none) = some r := h
      split at h
      · rename_i hc
        rw [Bool.and_eq_true] at hc
        split at h
        · rename_i i hi
          intro pins sh Iv
          have hlt := slot_lt C s Iv.len hi
          split at h
          · exact mu_ok (py := py) (spos := pos) C hi hc.2 s hlt h F pins sh Iv
          · obtain ⟨g1, g2⟩ := C.sto y hc.2
            cases hv : ev c b n v e w with
            | none => rw [hv] at h; cases h
            | some re =>
              rw [hv] at h
              by_cases hcomp : isComp v = true
              · cases v <;> first | (cases hcomp; done) | skip
                · rename_i elt gs scope lp
                  cases n with
                  | zero => unfold ev at hv; cases hv
                  | succ n =>
                    have hv : (bnd (evC c b n (.ListComp elt gs scope lp) e w) fun ds e w => some (ER.ok (.lst ds) e w)) = some re := hv
                    rcases bnd_inv hv with ⟨d, e1, w1, h1, h2⟩ | ⟨c', e1, w1, h1, h2⟩
                    · cases h2
                      cases h
                      refine ps_lc (py := py) C hi hc.2 s h1 ?_ pins sh Iv
                      intro p W1 s1 f no
                      obtain ⟨q1, q2, q3⟩ := f.val s s1 no
                      exact F _ (W1.unh p) (q1.store hlt q3) q2.le
                    · subst h2
                      cases h
                      exact ps_lc (py := py) C hi hc.2 s h1 (fun W' C' s' l' h' => F σ W' C' s' h') pins sh Iv
                · cases n with
                  | zero => unfold ev at hv; cases hv
                  | succ n => cases hv
                · cases n with
                  | zero => unfold ev at hv; cases hv
                  | succ n => cases hv
              · refine rs_of (ps_set hnd (C.slot hi) (by rw [C.sc]; exact g1) pe_self (sw_no (by simpa using hcomp)) (by rw [C.sc]; exact g2)) ?_ pins sh Iv
                cases re with
                | ok d e1 w1 =>
                  cases h
                  exact A.ev X b WW C W0 W σ e w v _ _ hv s fun v1 W1 s1 l1 r1 => F _ W1 (s1.store hlt r1) l1.le
                | ex cc e1 w1 =>
                  cases h
                  exact A.ev X b WW C W0 W σ e w v _ _ hv s F.exE
        · cases h
      · cases h
    · rename_i es j tp
      have h : (if isDisp v || isComp v then none else (match ev c b n v e w with
        | some (.ok d e w) => (match asg b n (.Tuple es j tp) d e with | some e => some (SO.nx e w) | none => none)
        | some (.ex k e w) => some (.ex k e w) | none => none)) = some r := h
      split at h
      · cases h
      · rename_i hc
        simp only [Bool.not_eq_true, Bool.or_eq_false_iff] at hc
        refine rs_of (ps_asg pe_self pg_self (show swapsWith v (some (.Tuple es j tp)) pos.line X.env = pure false from sw_no hc.2) (no_swap hc.1)) ?_
        cases hv : ev c b n v e w with
        | none => rw [hv] at h; cases h
        | some re =>
          rw [hv] at h
          cases re with
          | ok d e1 w1 =>
            dsimp only at h
            split at h
            · rename_i e2 ha
              cases h
              exact A.ev X b WW C W0 W σ e w v _ _ hv s fun v1 W1 s1 l1 r1 => asg_ok C ha s1 r1 fun σ2 s2 ch => F σ2 W1 s2 l1.le
            · cases h
          | ex cc e1 w1 =>
            cases h
            exact A.ev X b WW C W0 W σ e w v _ _ hv s F.exE
  | _ => cases h
theorem s_sts : ∀ n, S_st c k n ∧ S_ss c k n
  | 0 => ⟨fun X b WW C hp W0 W σ e w x r Dn h => (by unfold evSt at h; cases h), fun X b WW C hp W0 W σ e w x r Dn h => (by unfold evSs at h; cases h)⟩
  | n + 1 => ⟨s_st (s_sts n).2, s_ss (s_sts n).1 (s_sts n).2⟩
end
end Pv
end
section
set_option Elab.async false
set_option linter.all false
set_option autoImplicit false
set_option maxRecDepth 100000
set_option maxHeartbeats 1000000
/-! A def keeps its promise. -/
namespace Pv
open PySem PySem.Spec PyProof.Rows L2
theorem env_get {ds : List D} {j i : Nat} {x : Sl} (h : (ds.map Sl.val ++ List.replicate j .un)[i]? = some x) : (∃ d, ds[i]? = some d ∧ x = .val d) ∨ x = .un := by
  by_cases hi : i < ds.length
  · rw [List.getElem?_append_left (by simpa using hi), List.getElem?_map] at h
    cases e : ds[i]? with
    | none => rw [e] at h; cases h
    | some d => rw [e] at h; cases h; exact .inl ⟨d, rfl, rfl⟩
  · rw [List.getElem?_append_right (by simpa using hi), List.getElem?_replicate] at h
    split at h
    · cases h; exact .inr rfl
    · cases h
theorem sr_start {m : Md} {W : Wl} {w : Wd} {N : List Str} {vs : List V} {ds : List D} (hk : HdOk W) (wr : WR m W w) (rs : RWs m W vs ds) : SR m W W (L2.start N vs) (ds.map Sl.val ++ List.replicate (N.length - ds.length) .un) w where
  len := by
    unfold L2.start
    simp [rs.length]
  val := fun i d h => by
    rcases env_get h with ⟨d', h1, h2⟩ | h2
    · cases h2
      obtain ⟨v, h3, h4⟩ := rs.get h1
      refine ⟨v, ?_, h4⟩
      unfold L2.start
      have hi : i < vs.length := (List.getElem?_eq_some_iff.mp h3).1
      rw [List.getElem?_append_left (by simpa using hi), List.getElem?_map, h3]
      rfl
    · cases h2
  own := fun i xs h => by
    rcases env_get h with ⟨d', h1, h2⟩ | h2 <;> cases h2
  ap := fun i j p xs ys h => by
    rcases env_get h with ⟨d', h1, h2⟩ | h2 <;> cases h2
  wr := wr
  hdok := hk
  fm := Fm.refl W
  hd0 := fun a h => h
  hd1 := fun a h => .inl h
  hdok0 := hk
theorem evD_inv {c : Cf} {b : Bk} {n np : Nat} {body : List Stmt} {ds : List D} {w : Wd} {r : FR} (h : evD c b n body np ds w = some r) : ds.length = np ∧ ∃ so, evSs c b n body (ds.map Sl.val ++ List.replicate (b.N.length - np) .un) w = some so ∧ (match so with
    | .rt d w => some (.ok d w) | .nx _ w => some (.ok .non w) | .ex k _ w => some (.ex k w) | _ => none) = some r := by
  unfold evD at h
  split at h
  · rename_i hl
    refine ⟨hl, ?_⟩
    cases hs : evSs c b n body (ds.map Sl.val ++ List.replicate (b.N.length - np) .un) w with
    | none => rw [hs] at h; cases h
    | some so =>
      rw [hs] at h
      refine ⟨so, rfl, ?_⟩
      cases so <;> exact h
  · cases h
section
variable {P : Program} {w : World} {K : PySem.W.Frag} {mg : Str → Option Value} {base : Heap} {c : Cf} {k : Nat}
/-- the context of a def's body -/
theorem co_def {N : List Str} {qual : Str} {st : Stmt} {f : Addr} {cdv : Value} {A : Around} {outer : List Env} {s : Shared} {H : Hp} {E : XK} {ps : List Str} {mu : List Nat} (M : MF P w K mg base c k) (S : FnScope N ps (defScope st)) (hr : Room (k + 1) (A.deeper (envOfC qual (defScope st) s.heap.objs.size f cdv))) :
    CO (cxOf (L2.CX P w) P w K mg base N qual (defScope st) f cdv A outer s H E) c ⟨N, defScope st, defScope st, mu⟩ (fun cls d _ H => E cls d H) k where
  mf := M
  room := hr
  N := rfl
  nd := S.nd
  sc := rfl
  calm := rfl
  sto := fun x h => ⟨(by
    have h : (match (defScope st).names.lookup x with
      | some .local => true | some .cell => true | _ => false) = true := h
    split at h
    · rename_i q; exact .inl q
    · rename_i q; exact .inr q
    · cases h), .inl rfl⟩
  tk := takes_of rfl rfl rfl rfl
theorem def_ok {x qual : Str} {st : Stmt} {f : Addr} {fd : FuncData} {N ps : List Str} {n : Nat} {mu : List Nat} {F : Fn} (Fu : Fun K x qual st f fd) (S : FnScope N ps (defScope st)) (M : MF P w K mg base c k)
    (hF : ∀ ds w r, F ds w = some r → evD c ⟨N, defScope st, defScope st, mu⟩ n (defBody st) ps.length ds w = some r) : FnOk P w K mg base (L2.CX P w) (k + 2) f fd ps (spR ⟨K, mg⟩ ps.length F) := by
  refine Fu.okX S (fun vs H Q E h => ?_) (fun cdv A outer s H vs Q E hr h => ?_)
  · obtain ⟨W, w', ds, r, _, _, _, rs, hl, _⟩ := h
    rw [rs.length, hl]
  · obtain ⟨W, w', ds, r, rfl, hk, wr, rs, hl, hf, hend⟩ := h
    obtain ⟨_, so, h1, h2⟩ := evD_inv (hF _ _ _ hf)
    refine ⟨_, pss_self, ?_⟩
    have C : CO (cxOf (L2.CX P w) P w K mg base N qual (defScope st) f cdv A outer s W.h E) c ⟨N, defScope st, defScope st, mu⟩ (fun cls d _ H => E cls d H) k := co_def M S hr
    have h1 : evSs c ⟨N, defScope st, defScope st, mu⟩ n (defBody st) (ds.map Sl.val ++ List.replicate (N.length - ds.length) .un) w' = some so := by
      rw [hl]; exact h1
    refine (s_sts (c := c) (k := k) n).2 _ _ _ C (passes_of rfl) W W _ _ _ _ _ _ h1 (sr_start hk wr rs) ?_
    cases so with
    | nx e w1 =>
      cases h2
      exact fun σ' W' s' l' => s'.ret (X := cxOf (L2.CX P w) P w K mg base N qual (defScope st) f cdv A outer s W.h E) (d := .non) .non hend
    | rt d w1 =>
      cases h2
      exact hend
    | ex cc e w1 =>
      cases h2
      exact fun σ' W' C' s' hm => s'.ret (X := cxOf (L2.CX P w) P w K mg base N qual (defScope st) f cdv A outer s W.h E) (Q := fun _ H => E (.ref C') none H) (d := .non) .non fun v W2 h3 h4 h5 _ => hend W2 C' h3 h4 h5 hm
    | bk e w1 => cases h2
    | ct e w1 => cases h2
end
end Pv
end
section
set_option Elab.async false
set_option linter.all false
set_option autoImplicit false
set_option maxRecDepth 100000
set_option maxHeartbeats 1000000
/-! A def that tells whether a call raises. -/
namespace Pv
open PySem PySem.Spec PyProof.Rows L2
/-- an own error and one of its bases -/
structure ErrOk (K : PySem.W.Frag) (mg : Str → Option Value) (xe ye : Str) : Prop where
  ex : ∃ C CE : Addr, mg xe = some (.ref C) ∧ mg ye = some (.ref CE) ∧ ExcC K C ∧ PySem.W.exmOne K (.ref C) (.ref C) = some true ∧ PySem.W.kitOne K (.ref C) (.ref CE) = some true
section
variable {P : Program} {w : World} {K : PySem.W.Frag} {mg : Str → Option Value} {base : Heap} {c : Cf} {k : Nat}
theorem CO.tr {X : Cx} {b : Bk} {WW WW' : WX} (C : CO X c b WW k) (pn : List (Addr × Obj)) (xe : Value → Shared → Prop) (tk : Takes (X.tr pn xe) WW') : CO (X.tr pn xe) c b WW' k where
  mf := C.mf
  room := C.room
  N := C.N
  nd := C.nd
  sc := C.sc
  calm := C.calm
  sto := C.sto
  tk := tk
theorem bad_ok {x qual xe ye en : Str} {st : Stmt} {f : Addr} {fd : FuncData} {N ps : List Str} {n i j : Nat} {F : Fn} {x1 : Expr} {p1 np hp q1 q2 q3 q4 q5 q6 q7 tp : Pos} (Fu : Fun K x qual st f fd) (S : FnScope N ps (defScope st)) (M : MF P w K mg base c k) (B : ErrOk K mg xe ye)
    (hbody : defBody st = [.Try [.Expr x1 p1] [.ExceptHandler (some (.Name xe np)) (some en) [.Return (some (.Call (.Name "isinstance" q1) [.Name en q2, .Name ye q3] [] q4)) q5] hp] [] [] tp, .Return (some (.Constant (.bool false) j q6)) q7])
    (hx1 : isComp x1 = false) (hi : N[i]? = some en) (hl : (defScope st).names.lookup en = some .local) (hgx : isGl (defScope st) xe = true) (hgy : isGl (defScope st) ye = true) (hgi : isGl (defScope st) "isinstance" = true) (hmi : mg "isinstance" = none)
    (ox : okN xe = true) (oy : okN ye = true) (oe : okN en = true)
    (hF : ∀ ds w r, F ds w = some r → ds.length = ps.length ∧ ((∃ e1 w1 d, ev c ⟨N, defScope st, defScope st, []⟩ n x1 (ds.map Sl.val ++ List.replicate (N.length - ps.length) .un) w = some (.ok d e1 w1) ∧ r = .ok (.bl false) w1) ∨
      ∃ e1 w1, ev c ⟨N, defScope st, defScope st, []⟩ n x1 (ds.map Sl.val ++ List.replicate (N.length - ps.length) .un) w = some (.ex xe e1 w1) ∧ r = .ok (.bl true) w1)) : FnOk P w K mg base (L2.CX P w) (k + 2) f fd ps (spR ⟨K, mg⟩ ps.length F) := by
  refine Fu.okX S (fun vs H Q E h => ?_) (fun cdv A outer s H vs Q E hr h => ?_)
  · obtain ⟨W, w', ds, r, _, _, _, rs, hl, _⟩ := h
    rw [rs.length, hl]
  · obtain ⟨W, w', ds, r, rfl, hk, wr, rs, hlen, hf, hend⟩ := h
    obtain ⟨_, hcase⟩ := hF _ _ _ hf
    obtain ⟨Ca, CE, mx, my, EC, em, ki⟩ := B.ex
    have C : CO (cxOf (L2.CX P w) P w K mg base N qual (defScope st) f cdv A outer s W.h E) c ⟨N, defScope st, defScope st, []⟩ (fun cls d _ H => E cls d H) k := co_def M S hr
    generalize hX : cxOf (L2.CX P w) P w K mg base N qual (defScope st) f cdv A outer s W.h E = X at C
    have hXN : X.N = N := by rw [← hX]; rfl
    have hXK : X.K = K := by rw [← hX]; rfl
    have hXm : X.mg = mg := by rw [← hX]; rfl
    have hXs : X.env.scope = defScope st := by rw [← hX]; rfl
    have hst : X.stack = X.env :: X.outer := by rw [← hX]; rfl
    have hfr : X.env.frame = some X.env.locals := by rw [← hX]; rfl
    have nm : Names X xe (.ref Ca) := ⟨C.gl hgx, okN_1 ox, .inl (by rw [hXm]; exact mx)⟩
    have ln : X.env.kindOf en = some .local := by
      show X.env.scope.names.lookup en = some .local
      rw [hXs]; exact hl
    rw [hbody]
    refine ⟨_, pss_cons (ps_try_as (i := i) (tb := fun W' D σ H => ∀ pn xe', Takes (X.tr pn xe') W' → RSs (X.tr pn xe') [.Expr x1 p1] D σ H)
      (ts := fun a cls d D σ H => cls = .ref Ca ∧ d = none ∧ σ[i]? = some (some (.ref a)) ∧ D.rt (.bl true) H) hst hfr (by rw [hXN]; exact S.nd) (by rw [hXN]; exact hi) ln nm C.tk (fun W' pn xe' tk po => ⟨fun pins s σ H D I h => h pn xe' tk pins s I⟩) (fun a oe' cls d pn hz hfl => ⟨fun pins s2 σ H D I h => ?_⟩))
      (pss_one (ps_ret pe_bl)), ?_⟩
    · obtain ⟨e1, e2, hσ, q⟩ := h
      subst e1 e2
      have g1 : Gl (X.suite a ((a, oe') :: pn)) "isinstance" := C.gl hgi
      have g2 : Gl (X.suite a ((a, oe') :: pn)) ye := C.gl hgy
      have EC' : ExcC (X.suite a ((a, oe') :: pn)).K Ca := by show ExcC X.K Ca; rw [hXK]; exact EC
      have hv : Vis (X.suite a ((a, oe') :: pn)).env.scope en := .inl ln
      have hen : (X.suite a ((a, oe') :: pn)).N[i]? = some en := by show X.N[i]? = some en; rw [hXN]; exact hi
      refine (pss_one (ps_ret (pe_callB (X := X.suite a ((a, oe') :: pn)) (call_isE (X := X) EC' hz hfl) g1 (by show X.mg _ = none; rw [hXm]; exact hmi) (by decide +kernel) (pa_cons (pe_var hen hv (okN_1 oe) (okN_2 oe)) (pa_cons (pe_glob g2 (show X.mg ye = some (.ref CE) by rw [hXm]; exact my) (v := .ref CE) rfl (okN_1 oy)) pa_nil))))).run pins s2 σ H D I ?_
      refine ⟨_, hσ, .ref CE, .ref CE, true, rfl, fun u ru => ?_, ?_, q⟩
      · exact ru
      · show PySem.W.kitOne X.K (.ref Ca) (.ref CE) = some true
        rw [hXK]; exact ki
    · intro pn xe' tk
      have C' := C.tr pn xe' tk
      have sr : SR (mdOf (X.tr pn xe')) W W (L2.start N vs) (ds.map Sl.val ++ List.replicate (N.length - ps.length) .un) w' := by
        show SR ⟨X.K, X.mg⟩ W W _ _ w'
        rw [hXK, hXm, ← hlen]
        exact sr_start hk wr rs
      have A := s_all (c := c) (k := k) n
      have hm' : mdOf X = ⟨K, mg⟩ := by show (⟨X.K, X.mg⟩ : Md) = _; rw [hXK, hXm]
      refine rss_of (pss_one (ps_expr pe_self (sw_no hx1))) ?_
      rcases hcase with ⟨e1, w1, d, hev, hr'⟩ | ⟨e1, w1, hev, hr'⟩
      · subst hr'
        refine A.ev (X.tr pn xe') _ _ C' W W _ _ w' x1 _ _ hev sr fun v W1 s1 l1 r1 => ?_
        show Q (.bl false) W1.h
        exact SR.ret (X := X) (Q := Q) s1 (.bl false) (by rw [hm']; exact hend)
      · subst hr'
        refine A.ev (X.tr pn xe') _ _ C' W W _ _ w' x1 _ _ hev sr fun W1 C1 s1 l1 hm1 => ?_
        have hc1 : C1 = Ca := by
          have hm1 : X.mg xe = some (.ref C1) := hm1
          rw [hXm, mx] at hm1
          cases hm1; rfl
        subst hc1
        refine ⟨true, by show PySem.W.exmOne X.K _ _ = _; rw [hXK]; exact em, fun _ a ha => ⟨rfl, rfl, ?_, ?_⟩, fun z => by cases z⟩
        · have hlt : i < (L2.start N vs).length := by
            unfold L2.start
            have h1 : i < N.length := (List.getElem?_eq_some_iff.mp hi).1
            simp
            omega
          rw [List.getElem?_set_self hlt]
        · exact SR.ret (X := X) (Q := Q) s1 (.bl true) (by rw [hm']; exact hend)
end
end Pv
end
section
set_option Elab.async false
set_option linter.all false
set_option autoImplicit false
set_option maxRecDepth 100000
set_option maxHeartbeats 1000000
/-! An __init__ with two fields, the second a tuple made of a list. -/
namespace Pv
open PySem PySem.Spec PyProof.Rows L2
theorem call_tuple_frz {X : Cx} : CallR X (.type "tuple") (fun xs H Q => ∃ p ys, xs = [.ref p] ∧ SqL X.K H p ys ∧ ∀ l (o : Obj), o.dict = none → H l = none → Q (.ref l) (upd H l (.frz o (.tup ys)))) := by
  intro pins s σ H xs us Q I r h
  obtain ⟨p, ys, rfl, hq, q⟩ := h
  obtain ⟨u, rfl, rx⟩ := vals1 r
  cases rx
  obtain ⟨its, r', pl, hz⟩ := I.list hq
  have hlen := r'.length
  refine call_tuple_list pl.isList (fun h' kp => ?_) (by simp only [List.size_toArray] <;> omega)
  have I1 : Inv X pins σ H { s with heap := h' } := I.kept (t' := s.toks) kp
  have I2 : Inv X pins σ (upd H h'.objs.size (.frz { cls := .type "tuple", data := .seq its.toArray } (.tup ys))) { s with heap := h'.push { cls := .type "tuple", data := .seq its.toArray } } :=
    I1.laid (t' := s.toks) (fun b o e => Heap.get?_push_of_some _ e) (Nat.le_refl _) (show ObjOk X.prog X.w _ _ _ (.frz _ (.tup ys)) from ⟨Heap.get?_push_size _ rfl, hz, its, r', IsTup.new _ _⟩)
  exact ⟨.ref h'.objs.size, _, I2, rfl, q _ _ rfl (I1.hok.fresh (Nat.le_refl _))⟩
section
variable {P : Program} {w : World} {K : PySem.W.Frag} {mg : Str → Option Value} {base : Heap} {c : Cf} {k : Nat}
theorem init_ok {qual cn f1 f2 : Str} {st : Stmt} {C f : Addr} {fd : FuncData} {N ps : List Str} {n : Nat} {F : Fn} {t x1 x2 : Expr} {rs : Stmt} {p1 p2 p3 p4 p5 p6 p7 p8 p9 : Pos} (Fu : Fun K "__init__" qual st f fd) (S : FnScope N ("self" :: ps) (defScope st)) (M : MF P w K mg base c k)
    (hc : mg cn = some (.ref C)) (cl : Cls K C) (n1 : NoAttr K C f1) (n2 : NoAttr K C f2) (hne : f1 ≠ f2) (hf1 : f1 ≠ "names")
    (hbody : defBody st = [.If t [rs] [] p1, .Assign [.Attribute (.Name "self" p2) f1 p3] x1 p4, .Assign [.Attribute (.Name "self" p5) f2 p6] (.Call (.Name "tuple" p7) [x2] [] p8) p9])
    (hx1 : isComp x1 = false) (hx2 : isStar x2 = false) (hs : isLoc (defScope st) "self" = true) (ht : isGl (defScope st) "tuple" = true) (hmt : mg "tuple" = none)
    (hF : ∀ ds w r, F ds w = some r → ds.length = ps.length ∧ ∃ q e1 w1, evT c ⟨N, defScope st, defScope st, []⟩ n t (Sl.un :: (ds.map Sl.val ++ List.replicate (N.length - 1 - ps.length) .un)) w = some (.ok q e1 w1) ∧
      ((q = true ∧ ∃ cc e2 w2, evSs c ⟨N, defScope st, defScope st, []⟩ n [rs] e1 w1 = some (.ex cc e2 w2) ∧ r = .ex cc w2) ∨
       (q = false ∧ ∃ d1 e2 w2 xs e3 w3, ev c ⟨N, defScope st, defScope st, []⟩ n x1 e1 w1 = some (.ok d1 e2 w2) ∧ ev c ⟨N, defScope st, defScope st, []⟩ n x2 e2 w2 = some (.ok (.lst xs) e3 w3) ∧ r = .ok (.ins cn [f1, f2] [d1, .tup xs]) w3))) :
    FnOk P w K mg base (L2.CX P w) (k + 2) f fd ("self" :: ps) (spI ⟨K, mg⟩ C ps.length F) := by
  refine Fu.okX S (fun vs H Q E h => ?_) (fun cdv A outer s H vs Q E hr h => ?_)
  · obtain ⟨W, w', x, dx, as, ds, r, rfl, _, _, _, _, _, _, rs, hl, _⟩ := h
    show as.length + 1 = _
    rw [rs.length, hl]
    rfl
  · obtain ⟨W, w', x, dx, as, ds, r, rfl, hx, hdx, hxd, rfl, hk, wr, rr, hlen, hf, hend⟩ := h
    obtain ⟨_, q, e1, w1, hev, hcase⟩ := hF _ _ _ hf
    have C0 : CO (cxOf (L2.CX P w) P w K mg base N qual (defScope st) f cdv A outer s (upd (upd W.h dx (.own x)) x (.ins C dx [])) E) c ⟨N, defScope st, defScope st, []⟩ (fun cls d _ H => E cls d H) k := co_def M S hr
    have hpo : PassesOwn (model P w) (cxOf (L2.CX P w) P w K mg base N qual (defScope st) f cdv A outer s (upd (upd W.h dx (.own x)) x (.ins C dx [])) E).A (cxOf (L2.CX P w) P w K mg base N qual (defScope st) f cdv A outer s (upd (upd W.h dx (.own x)) x (.ins C dx [])) E).env (cxOf (L2.CX P w) P w K mg base N qual (defScope st) f cdv A outer s (upd (upd W.h dx (.own x)) x (.ins C dx [])) E).xe := passes_of rfl
    generalize hX : cxOf (L2.CX P w) P w K mg base N qual (defScope st) f cdv A outer s (upd (upd W.h dx (.own x)) x (.ins C dx [])) E = X at C0 hpo
    have hXN : X.N = N := by rw [← hX]; rfl
    have hXK : X.K = K := by rw [← hX]; rfl
    have hXm : X.mg = mg := by rw [← hX]; rfl
    have hXp : X.prog = P := by rw [← hX]; rfl
    have hXw : X.w = w := by rw [← hX]; rfl
    have hXs : X.env.scope = defScope st := by rw [← hX]; rfl
    have hm' : mdOf X = ⟨K, mg⟩ := by show (⟨X.K, X.mg⟩ : Md) = _; rw [hXK, hXm]
    obtain ⟨N', rfl⟩ : ∃ N', N = ("self" : Str) :: N' := by
      have := S.pre
      cases N with
      | nil => cases this
      | cons y N' =>
        rw [List.length_cons, List.take_succ_cons] at this
        injection this with h1 h2
        exact ⟨N', by rw [h1]⟩
    have hself : ∀ {pos : Pos}, PE X (.Name "self" pos) (tVar 0) := fun {pos} => pe_var (by rw [hXN]; rfl) (C0.vis hs) (by decide) (by decide)
    -- where things stand at the entry
    let Wq : Wl := W.put (upd W.h dx (.own x))
    have kd : Kp W Wq := Kp.new hdx
    have hxd' : Wq.h x = none := by show upd W.h dx _ x = none; rw [upd_ne (Ne.symm hxd)]; exact hx
    have s0 : SR (mdOf X) Wq Wq (L2.start (("self" : Str) :: N') (.ref x :: as)) (Sl.un :: (ds.map Sl.val ++ List.replicate ((("self" : Str) :: N').length - 1 - ps.length) .un)) w' := by
      rw [hm']
      have b := sr_start (m := ⟨K, mg⟩) (N := N') (hk.kp kd) (wr.kp kd) (kd.le.rps rr)
      have e1 : L2.start (("self" : Str) :: N') (.ref x :: as) = some (.ref x) :: L2.start N' as := by
        unfold L2.start
        simp
      rw [e1]
      have e2 : (("self" : Str) :: N').length - 1 - ps.length = N'.length - ds.length := by
        rw [hlen]; simp
      rw [e2]
      exact {
        len := by rw [List.length_cons, List.length_cons, b.len]
        val := fun i d h => by
          cases i with
          | zero => cases h
          | succ i => exact b.val i d h
        own := fun i xs h => by
          cases i with
          | zero => cases h
          | succ i => exact b.own i xs h
        ap := fun i j p xs ys h1 h2 g1 g2 => by
          cases i with
          | zero => cases h1
          | succ i =>
            cases j with
            | zero => cases h2
            | succ j => exact congrArg (· + 1) (b.ap i j p xs ys h1 h2 g1 g2)
        wr := b.wr
        hdok := b.hdok
        fm := b.fm
        hd0 := b.hd0
        hd1 := b.hd1
        hdok0 := b.hdok0 }
    have s1 := s0.hide (l := .ins C dx []) hxd'
    have fx := s0.free hxd'
    have σ0 : ∀ pos : Pos, True := fun _ => trivial
    have A := s_all (c := c) (k := k) n
    have pD : ∀ a b, W.sr ≠ some (a, b, x) := fun a b z => wr.place a b x z hx
    -- what the end of all wants of the world
    have fin : ∀ {o : HO} {W' : Wl} {e' : List Sl} {w2 : Wd} {σ' : L2.St}, SR (mdOf X) (Wq.reb x o) W' σ' e' w2 → ∀ (R : Wl → Prop), (∀ W2, W2.h = W'.h → W2.hd = W.hd → Fm W W2 → WR ⟨K, mg⟩ W2 w2 → Le W' W2 → W2.vis x = some o → R W2) → ∃ W2, W2.h = W'.h ∧ R W2 := by
      intro o W' e' w2 σ' s' R hR
      obtain ⟨g1, g2, g3⟩ := s'.at fx.2
      have su := s'.unreb fx.1 fx.2 s0.hdok0
      have ex : Same W'.vis ({ W' with hd := Wq.hd } : Wl).vis := fun a oo ea => by
        obtain ⟨h1, h2, h3⟩ := vis_some ea
        exact vis_of h1 (fun z => h2 (su.hd0 a z)) h3
      have le : Le W' { W' with hd := Wq.hd } := ⟨ex, .inr rfl⟩
      have wr' := su.wr
      rw [hm'] at wr'
      refine ⟨{ W' with hd := Wq.hd }, rfl, hR _ rfl rfl (kd.fm.trans su.fm) ?_ le ?_⟩
      · cases w2 with
        | none => exact wr'
        | some q' =>
          obtain ⟨ds', nn⟩ := q'
          obtain ⟨a, b', c', e1, h1, h2, h3, h4⟩ := wr'
          exact ⟨a, b', c', e1, ex _ _ h1, ex _ _ h2, h3, fun z => h4 (su.hd0 _ z)⟩
      · exact vis_of g1 (fun z => hk x z hx) g3
    rw [hbody]
    refine ⟨_, pss_cons (ps_if (tc := RT X t) (t := RSs X [rs]) pt_self pss_self pss_nil) (pss_cons (ps_fld hself (pe_self (e := x1)) (sw_no hx1))
      (pss_one (ps_fld hself (pe_callTy (t := RA X [x2]) call_tuple_frz (C0.gl ht) (by rw [hXm]; exact hmt) (by decide +kernel) pa_self (by decide) (by decide) (star_no hx2) (star_any rfl)) (sw_no rfl)))), ?_⟩
    rcases hcase with ⟨hq, cc, e2, w2, hrs, hr'⟩ | ⟨hq, d1, e2, w2, xs, e3, w3, h1, h2, hr'⟩
    · subst hq hr'
      refine A.evT X _ _ C0 (Wq.reb x _) (Wq.reb x _) _ _ w' t _ _ hev s1 fun v W1 s2 l1 r1 => ?_
      subst r1
      rw [if_pos rfl]
      refine (s_sts (c := c) (k := k) n).2 X _ _ C0 (by rw [hXp, hXw]; exact hpo) (Wq.reb x _) W1 _ _ _ _ _ _ hrs s2 ?_
      intro σ' W' C' s3 hm3
      obtain ⟨W2, hW2, hh⟩ := fin s3 (fun W2 => E (.ref C') none W2.h) fun W2 a1 a2 a3 a4 a5 a6 => hend W2 C' a2 a3 a4 (by rw [hXm] at hm3; exact hm3)
      rw [hW2] at hh
      exact hh
    · subst hq hr'
      refine A.evT X _ _ C0 (Wq.reb x _) (Wq.reb x _) _ _ w' t _ _ hev s1 fun v W1 s2 l1 r1 => ?_
      subst r1
      rw [if_neg Bool.false_ne_true]
      refine A.ev X _ _ C0 (Wq.reb x _) W1 _ _ _ x1 _ _ h1 s2 fun v1 W2 s3 l2 r2 => ?_
      refine ⟨_, rfl, x, C, dx, [], rfl, (s3.at fx.2).1, by rw [hXK]; exact cl, by rw [hXK]; exact n1, by decide, ?_⟩
      have s4 := s3.app (l' := .ins C dx (putF f1 v1 [])) fx.1 fx.2
      have v4 := vis_hid (o := .ins C dx (putF f1 v1 [])) (s3.at fx.2).2.1
      have l4 : Le W2 (W2.put (upd W2.h x (.ins C dx (putF f1 v1 [])))) := le_of_vis v4 rfl
      refine ra_of (pa_cons (te := RE X x2) pe_self pa_nil (star_no hx2)) ?_
      refine A.ev X _ _ C0 (Wq.reb x _) (W2.put (upd W2.h x (.ins C dx (putF f1 v1 [])))) _ _ _ x2 _ _ h2 s4 fun v2 W3 s5 l5 r5 => ?_
      cases r5 with
      | lst ha rvs =>
        rename_i a3 vs3
        refine ⟨_, _, rfl, SqL.of (vis_sub W3 _ _ ha), fun l o ho hl => ?_⟩
        have kl : Kp W3 (W3.put (upd W3.h l (.frz o (.tup vs3)))) := Kp.new hl
        have s6 := s5.kp kl
        refine ⟨_, rfl, x, C, dx, _, rfl, (s6.at fx.2).1, by rw [hXK]; exact cl, by rw [hXK]; exact n2, by show (1 : Nat) < 1000; decide, ?_⟩
        have e12 : putF f2 (.ref l) (putF f1 v1 []) = [(f1, v1), (f2, .ref l)] := by
          show (if f1 = f2 then _ else _) = _
          rw [if_neg hne]
          rfl
        rw [e12]
        have s7 := s6.app (l' := .ins C dx [(f1, v1), (f2, .ref l)]) fx.1 fx.2
        have v7 := vis_hid (o := .ins C dx [(f1, v1), (f2, .ref l)]) (s6.at fx.2).2.1
        have l7 : Le (W3.put (upd W3.h l (.frz o (.tup vs3)))) ((W3.put (upd W3.h l (.frz o (.tup vs3)))).put (upd (W3.put (upd W3.h l (.frz o (.tup vs3)))).h x (.ins C dx [(f1, v1), (f2, .ref l)]))) := le_of_vis v7 rfl
        obtain ⟨W9, hW9, hh⟩ := fin s7 (fun W9 => Q .non W9.h) fun W9 a1 a2 a3 a4 a5 a6 => by
          have L2 := l4.trans (l5.le.trans (kl.le.trans (l7.trans a5)))
          have L3 := kl.le.trans (l7.trans a5)
          have fz : W9.vis l = some (.frz o (.tup vs3)) := (l7.trans a5).ex _ _ (vis_new hl s5.hdok s5.wr.place)
          rw [hm'] at r2 rvs
          refine hend W9 a2 a3 a4 (.ins hc a6 rfl (.cons (L2.rp r2) (.cons (.tup (.inl (.inr ⟨o, fz⟩)) (L3.rps rvs)) .nil)) fun q hq => ?_)
          have hlk : ([(f1, v1), (f2, V.ref l)] : List (Str × V)).lookup ("names" : Str) = some (V.ref q) := hq
          rw [List.lookup_cons] at hlk
          have z1 : (("names" : Str) == f1) = false := by simpa using Ne.symm hf1
          rw [z1] at hlk
          have hlk : ([(f2, V.ref l)] : List (Str × V)).lookup ("names" : Str) = some (V.ref q) := hlk
          rw [List.lookup_cons] at hlk
          cases hz : (("names" : Str) == f2) with
          | true =>
            rw [hz] at hlk
            cases hlk
            exact ⟨o, _, fz, ho⟩
          | false =>
            rw [hz] at hlk
            cases hlk
        rw [hW9] at hh
        exact hh
end
end Pv
end
section
set_option Elab.async false
set_option linter.all false
set_option autoImplicit false
set_option maxRecDepth 100000
set_option maxHeartbeats 1000000
/-! Module facts, def by def. -/
namespace Pv
open PySem PySem.Spec PyProof.Rows L2
abbrev bk (N : List Str) (mu : List Nat) (st : Stmt) : Bk := ⟨N, defScope st, defScope st, mu⟩
def addF (c : Cf) (x : Str) (F : Fn) : Cf := { c with fn := fun y => if y = x then some F else c.fn y }
def addM (c : Cf) (cn m : Str) (F : Fn) : Cf := { c with me := fun a y => if a = cn ∧ y = m then some F else c.me a y }
def addK (c : Cf) (x : Str) (F : Fn) : Cf := { c with mak := fun y => if y = x then some F else c.mak y }
section
variable {P : Program} {w : World} {K : PySem.W.Frag} {mg : Str → Option Value} {base : Heap} {c : Cf} {k j : Nat}
theorem MF.lift (M : MF P w K mg base c j) (h : j ≤ k) : MF P w K mg base c k where
  fn := fun x F hx => by
    obtain ⟨f, fd, ps, h1, h2⟩ := M.fn x F hx
    exact ⟨f, fd, ps, h1.mono h, h2⟩
  mak := fun x F hx => by
    obtain ⟨C, f, fd, ps, h0, h1, h2, h3⟩ := M.mak x F hx
    exact ⟨C, f, fd, ps, h0, h1, h2.mono h, h3⟩
  me := fun cn m F hx => by
    obtain ⟨C, f, fd, ps, h0, h1, h2, h3, h4⟩ := M.me cn m F hx
    exact ⟨C, f, fd, ps, h0, h1, h2, h3.mono h, h4⟩
  con := M.con
  cc := M.cc
  bi := M.bi
  exn := M.exn
  cls := M.cls
  nosp := M.nosp
  tab := M.tab
  fl := M.fl
theorem MF.addF (M : MF P w K mg base c k) {x : Str} {F : Fn} {f : Addr} {fd : FuncData} {ps : List Str} (Fo : FnOk P w K mg base (L2.CX P w) (k + 2) f fd ps (spR ⟨K, mg⟩ ps.length F)) (hm : mg x = some (.ref f)) (hk : PySem.W.keepIn K (.ref f) = true) (hb : Binds K fd ps [])
    (ha : ∀ ds w r, F ds w = some r → ds.length = ps.length) : MF P w K mg base (addF c x F) (k + 2) :=
  have L := M.lift (Nat.le_add_right k 2)
  { fn := fun y G hy => by
      have hy : (if y = x then some F else c.fn y) = some G := hy
      split at hy
      · rename_i e
        cases hy
        subst e
        exact ⟨f, fd, ps, Fo, hm, hk, hb, ha⟩
      · exact L.fn y G hy
    mak := L.mak, me := L.me, con := L.con, cc := L.cc, bi := L.bi, exn := L.exn, cls := L.cls, nosp := L.nosp, tab := L.tab, fl := L.fl }
theorem MF.addM (M : MF P w K mg base c k) {cn m : Str} {F : Fn} {C f : Addr} {fd : FuncData} {ps : List Str} (Fo : FnOk P w K mg base (L2.CX P w) (k + 2) f fd ps (spR ⟨K, mg⟩ ps.length F)) (hm : mg cn = some (.ref C)) (hc : Cls K C) (hmt : Meth K C m f) (hb : Binds K fd ps [])
    (ha : ∀ ds w r, F ds w = some r → ds.length = ps.length) (h1 : m ≠ "__len__") (h2 : m ≠ "__eq__") : MF P w K mg base (addM c cn m F) (k + 2) :=
  have L := M.lift (Nat.le_add_right k 2)
  { me := fun a y G hy => by
      have hy : (if a = cn ∧ y = m then some F else c.me a y) = some G := hy
      split at hy
      · rename_i e
        cases hy
        obtain ⟨e1, e2⟩ := e
        subst e1 e2
        exact ⟨C, f, fd, ps, hm, hc, hmt, Fo, hb, ha⟩
      · exact L.me a y G hy
    nosp := fun a => by
      refine ⟨?_, ?_⟩
      · show (if a = cn ∧ "__len__" = m then some F else c.me a "__len__") = none
        rw [if_neg (fun z => h1 z.2.symm)]
        exact (L.nosp a).1
      · show (if a = cn ∧ "__eq__" = m then some F else c.me a "__eq__") = none
        rw [if_neg (fun z => h2 z.2.symm)]
        exact (L.nosp a).2
    mak := L.mak, fn := L.fn, con := L.con, cc := L.cc, bi := L.bi, exn := L.exn, cls := L.cls, tab := L.tab, fl := L.fl }
theorem MF.addK (M : MF P w K mg base c k) {x : Str} {F : Fn} {C f : Addr} {fd : FuncData} {ps : List Str} (Fo : FnOk P w K mg base (L2.CX P w) (k + 2) f fd ("self" :: ps) (spI ⟨K, mg⟩ C ps.length F)) (hM : Mk K C f) (hm : mg x = some (.ref C)) (hb : Binds K fd ("self" :: ps) [])
    (ha : ∀ ds w r, F ds w = some r → ds.length = ps.length) : MF P w K mg base (addK c x F) (k + 2) :=
  have L := M.lift (Nat.le_add_right k 2)
  { mak := fun y G hy => by
      have hy : (if y = x then some F else c.mak y) = some G := hy
      split at hy
      · rename_i e
        cases hy
        subst e
        exact ⟨C, f, fd, ps, hM, hm, Fo, hb, ha⟩
      · exact L.mak y G hy
    fn := L.fn, me := L.me, con := L.con, cc := L.cc, bi := L.bi, exn := L.exn, cls := L.cls, nosp := L.nosp, tab := L.tab, fl := L.fl }
/-- a def of the module whose function is its body's -/
theorem MF.addD (M : MF P w K mg base c k) {x : Str} {st : Stmt} {f : Addr} {fd : FuncData} {N ps : List Str} {mu : List Nat} {n : Nat} (Fu : Fun K x x st f fd) (S : FnScope N ps (defScope st)) (hb : Binds K fd ps []) (hm : mg x = some (.ref f)) :
    MF P w K mg base (Pv.addF c x (evD c (bk N mu st) n (defBody st) ps.length)) (k + 2) :=
  M.addF (def_ok Fu S M (mu := mu) (n := n) fun ds w r h => h) hm Fu.kp hb fun ds w r h => (evD_inv h).1
theorem MF.addMD (M : MF P w K mg base c k) {cn m qual : Str} {st : Stmt} {C f : Addr} {fd : FuncData} {N ps : List Str} {mu : List Nat} {n : Nat} (Fu : Fun K m qual st f fd) (S : FnScope N ps (defScope st)) (hb : Binds K fd ps []) (hm : mg cn = some (.ref C)) (hc : Cls K C) (hmt : Meth K C m f)
    (h1 : m ≠ "__len__") (h2 : m ≠ "__eq__") : MF P w K mg base (Pv.addM c cn m (evD c (bk N mu st) n (defBody st) ps.length)) (k + 2) :=
  M.addM (def_ok Fu S M (mu := mu) (n := n) fun ds w r h => h) hm hc hmt hb (fun ds w r h => (evD_inv h).1) h1 h2
end
end Pv
end
section
set_option Elab.async false
set_option linter.all false
set_option autoImplicit false
set_option maxRecDepth 100000
set_option maxHeartbeats 1000000
/-! The function of data, part by part. -/
namespace Pv
open PySem L2
section
variable {c : Cf} {b : Bk} {n : Nat} {e e1 e2 : List Sl} {w w1 w2 : Wd} {d d1 d2 : D}
def asBin : Expr → Option (Expr × Operator × Expr)
  | .BinOp p op q _ => some (p, op, q)
  | _ => none
def asCmp : Expr → Option (Expr × CmpOp × Expr)
  | .Compare p [op] [q] _ => some (p, op, q)
  | _ => none
def asIx : Expr → Option (Expr × Expr)
  | .Subscript p s _ => some (p, s)
  | _ => none
def asSlc : Expr → Option (Expr × Expr)
  | .Subscript p (.Slice none (some q) none _) _ => some (p, q)
  | _ => none
def asCall : Expr → Option (Str × List Expr)
  | .Call (.Name g _) xs [] _ => some (g, xs)
  | _ => none
def asIf : Stmt → Option (Expr × List Stmt × List Stmt)
  | .If t p q _ => some (t, p, q)
  | _ => none
def asRet : Stmt → Option Expr
  | .Return (some v) _ => some v
  | _ => none
def asAsg : Stmt → Option (Str × Expr)
  | .Assign [.Name y _] v _ => some (y, v)
  | _ => none
theorem ev_bin {x p q : Expr} {op : Operator} (hx : asBin x = some (p, op, q)) (h1 : ev c b n p e w = some (.ok d1 e1 w1)) (h2 : ev c b n q e1 w1 = some (.ok d2 e2 w2)) (h3 : binD op d1 d2 = some d) : ev c b (n + 1) x e w = some (.ok d e2 w2) := by
  cases x <;> first | (cases hx; done) | skip
  cases hx
  show bnd (ev c b n p e w) _ = _
  rw [h1]
  show bnd (ev c b n q e1 w1) _ = _
  rw [h2]
  show (match binD op d1 d2 with | some d => some (ER.ok d e2 w2) | none => none) = _
  rw [h3]
theorem ev_ix {x p s : Expr} (hx : asIx x = some (p, s)) (hs : isSl s = false) (ho : ownOf b p e = none) (h1 : ev c b n p e w = some (.ok d1 e1 w1)) (h2 : ev c b n s e1 w1 = some (.ok d2 e2 w2)) (h3 : ixC c d1 d2 = some d) : ev c b (n + 1) x e w = some (.ok d e2 w2) := by
  cases x <;> first | (cases hx; done) | skip
  cases hx
  have h : ev c b (n + 1) (.Subscript p s ‹_›) e w = (match ownOf b p e with
        | some (i, _) => bnd (ev c b n s e w) fun kk e w => (match e[i]?, kk with
          | some (.own xs), .int kk => (match atI xs kk with | some d => some (ER.ok d e w) | none => none)
          | _, _ => none)
        | none => bnd (ev c b n p e w) fun d e w => bnd (ev c b n s e w) fun kk e w => (match ixC c d kk with
          | some d => some (.ok d e w) | none => none)) := by
    cases s <;> first | rfl | (cases hs; done)
  rw [h, ho]
  show bnd (ev c b n p e w) _ = _
  rw [h1]
  show bnd (ev c b n s e1 w1) _ = _
  rw [h2]
  show (match ixC c d1 d2 with | some d => some (ER.ok d e2 w2) | none => none) = _
  rw [h3]
theorem ev_slc {x p q : Expr} {i : Int} (hx : asSlc x = some (p, q)) (h1 : ev c b (n + 1) p e w = some (.ok d1 e1 w1)) (h2 : ev c b n q e1 w1 = some (.ok (.int i) e2 w2)) (h3 : sliceD d1 none (some i) = some d) : ev c b (n + 2) x e w = some (.ok d e2 w2) := by
  cases x <;> first | (cases hx; done) | skip
  rename_i p' s' pos
  cases s' <;> first | (cases hx; done) | skip
  rename_i lo hi st pos2
  cases lo <;> first | (cases hx; done) | skip
  cases hi <;> first | (cases hx; done) | skip
  cases st <;> first | (cases hx; done) | skip
  cases hx
  have e3 : evO c b (n + 1) none e1 w1 = some (.ok none e1 w1) := rfl
  have e4 : evO c b (n + 1) (some q) e1 w1 = some (.ok (some i) e2 w2) := by
    show bnd (ev c b n q e1 w1) _ = _
    rw [h2]
    rfl
  show bnd (ev c b (n + 1) p e w) (fun d e w => bnd (evO c b (n + 1) none e w) fun i e w => bnd (evO c b (n + 1) (some q) e w) fun j e w => (match sliceD d i j with
        | some d => some (.ok d e w) | none => none)) = _
  rw [h1]
  simp only [bnd, e3, e4, h3]
theorem evs_nil : evs c b (n + 1) [] e w = some (.ok [] e w) := rfl
theorem evs_cons {x : Expr} {r : List Expr} {ds : List D} (hs : isStar x = false) (h1 : ev c b n x e w = some (.ok d e1 w1)) (h2 : evs c b n r e1 w1 = some (.ok ds e2 w2)) : evs c b (n + 1) (x :: r) e w = some (.ok (d :: ds) e2 w2) := by
  show (if isStar x then none else bnd (ev c b n x e w) fun d e w => bnd (evs c b n r e w) fun ds e w => some (ER.ok (d :: ds) e w)) = _
  rw [hs, if_neg Bool.false_ne_true, h1]
  show bnd (evs c b n r e1 w1) _ = _
  rw [h2]
  rfl
theorem ev_fn {x : Expr} {g : Str} {xs : List Expr} {F : Fn} {ds : List D} (hx : asCall x = some (g, xs)) (hg : okN g = true) (hst : xs.any isStar = false) (hgl : isGl b.sc g = true) (hf : c.fn g = some F) (h1 : evs c b n xs e w = some (.ok ds e1 w1)) : ev c b (n + 1) x e w = ofF (F ds w1) e1 := by
  cases x <;> first | (cases hx; done) | skip
  rename_i f args kws pos
  cases f <;> first | (cases hx; done) | skip
  cases kws <;> first | (cases hx; done) | skip
  cases hx
  show (if !okN g || xs.any isStar then none
        else if isGl b.sc g then (match c.fn g with
          | some F => bnd (evs c b n xs e w) fun ds e w => ofF (F ds w) e
          | none => _) else _) = _
  rw [hg, hst, hgl, hf]
  show bnd (evs c b n xs e w) _ = _
  rw [h1]
  rfl
theorem ev_mak {x y : Expr} {g : Str} {r : List Expr} {F : Fn} {ds : List D} (hx : asCall x = some (g, y :: r)) (hg : okN g = true) (hst : (y :: r).any isStar = false) (hgl : isGl b.sc g = true) (hf0 : c.fn g = none) (hf : c.mak g = some F) (h1 : evs c b n (y :: r) e w = some (.ok ds e1 w1)) : ev c b (n + 1) x e w = ofF (F ds w1) e1 := by
  cases x <;> first | (cases hx; done) | skip
  rename_i f args kws pos
  cases f <;> first | (cases hx; done) | skip
  cases kws <;> first | (cases hx; done) | skip
  cases hx
  show (if !okN g || (y :: r).any isStar then none
        else if isGl b.sc g then (match c.fn g with
          | some F => bnd (evs c b n (y :: r) e w) fun ds e w => ofF (F ds w) e
          | none => (match c.mak g with
            | some F => if (y :: r).isEmpty then none else bnd (evs c b n (y :: r) e w) fun ds e w => ofF (F ds w) e
            | none => _)) else _) = _
  rw [hg, hst, hgl, hf0, hf]
  show bnd (evs c b n (y :: r) e w) _ = _
  rw [h1]
  rfl
theorem ev_bi {x a : Expr} {g : Str} {ds : List D} {kk : Bool} {id : String} {xs : List Expr} (hx : asCall x = some (g, xs)) (hg : okN g = true) (hst : xs.any isStar = false) (hgl : isGl b.sc g = true) (hf0 : c.fn g = none) (hf : c.mak g = none) (hb : c.bi g = true) (ho : ownOf b a e = none) (hl : g ≠ "len") (hso : g ≠ "sorted")
    (hxs : xs = [a]) (h1 : evs c b n xs e w = some (.ok ds e1 w1)) (hno : ∀ cn ns ys, ds ≠ [.ins cn ns ys]) (h2 : biD c.cls g ds = some d) : ev c b (n + 2) x e w = some (.ok d e1 w1) := by
  subst hxs
  cases x <;> first | (cases hx; done) | skip
  rename_i f args kws pos
  cases f <;> first | (cases hx; done) | skip
  cases kws <;> first | (cases hx; done) | skip
  cases hx
  show (if !okN g || [a].any isStar then none
        else if isGl b.sc g then (match c.fn g with
          | some F => bnd (evs c b (n + 1) [a] e w) fun ds e w => ofF (F ds w) e
          | none => (match c.mak g with
            | some F => if [a].isEmpty then none else bnd (evs c b (n + 1) [a] e w) fun ds e w => ofF (F ds w) e
            | none => if !c.bi g then none else evBi c b (n + 1) g [a] e w)) else _) = _
  rw [hg, hst, hgl, hf0, hf, hb]
  show evBi c b (n + 1) g [a] e w = _
  obtain ⟨k', id', hK⟩ := biD_K h2
  unfold evBi
  rw [if_neg (by simp [hl]), if_neg (by simp [hso]), hK]
  show (match ownOf b a e with
        | some (_, xs) => _
        | none => bnd (evs c b n [a] e w) fun ds e w => (match ds with
          | [.ins cn ns xs] => if g = "len" then (match c.me cn "__len__" with
            | some F => (match F [.ins cn ns xs] w with
              | some (.ok (.int k) w) => if 0 ≤ k ∧ k < 100000 then some (ER.ok (D.int k) e w) else none | _ => none)
            | none => none) else none
          | _ => (match biD c.cls g ds with | some d => some (.ok d e w) | none => none))) = _
  rw [ho, h1]
  show (match ds with
          | [.ins cn ns xs] => _
          | _ => (match biD c.cls g ds with | some d => some (ER.ok d e1 w1) | none => none)) = _
  split
  · rename_i cn ns ys
    exact (hno _ _ _ rfl).elim
  · rw [h2]
theorem evT_cmp {x p q : Expr} {op : CmpOp} {t : Bool} (hx : asCmp x = some (p, op, q)) (hop : op ≠ .Eq) (hq : isSetX q = false) (h1 : ev c b n p e w = some (.ok d1 e1 w1)) (h2 : ev c b n q e1 w1 = some (.ok d2 e2 w2)) (h3 : cmpC c op d1 d2 = some t) : evT c b (n + 2) x e w = some (.ok t e2 w2) := by
  cases x <;> first | (cases hx; done) | skip
  rename_i l ops cs pos
  rcases ops with _ | ⟨o, _ | ⟨o2, os⟩⟩ <;> rcases cs with _ | ⟨u, _ | ⟨u2, us⟩⟩ <;> first | (cases hx; done) | skip
  cases hx
  show bnd (if isSetX q then none else bnd (ev c b n p e w) fun d1 e w => bnd (ev c b n q e w) fun d2 e w => (match op, d1 with
      | .Eq, .ins cn ns ds => (match c.me cn "__eq__" with
        | some F => (match F [.ins cn ns ds, d2] w with
          | some (.ok (.bl t) w) => some (ER.ok (D.bl t) e w) | _ => none)
        | none => none)
      | _, _ => (match cmpC c op d1 d2 with
        | some t => some (.ok (.bl t) e w) | none => none))) _ = _
  rw [hq, if_neg Bool.false_ne_true, h1]
  show bnd (bnd (ev c b n q e1 w1) _) _ = _
  rw [h2]
  cases op <;> first | exact (hop rfl).elim | (show bnd (match cmpC c _ d1 d2 with | some t => some (ER.ok (D.bl t) e2 w2) | none => none) _ = _; rw [h3]; rfl)
theorem evSt_if {s : Stmt} {t : Expr} {p q : List Stmt} {kk : Bool} (hx : asIf s = some (t, p, q)) (h1 : evT c b n t e w = some (.ok kk e1 w1)) : evSt c b (n + 1) s e w = if kk = true then evSs c b n p e1 w1 else evSs c b n q e1 w1 := by
  cases s <;> first | (cases hx; done) | skip
  cases hx
  show (match evT c b n t e w with
      | some (.ok k e w) => if k = true then evSs c b n p e w else evSs c b n q e w
      | some (.ex k e w) => some (.ex k e w) | none => none) = _
  rw [h1]
theorem evSt_ret {s : Stmt} {v : Expr} (hx : asRet s = some v) (h1 : ev c b n v e w = some (.ok d e1 w1)) : evSt c b (n + 1) s e w = some (.rt d w1) := by
  cases s <;> first | (cases hx; done) | skip
  rename_i v' pos
  cases v' <;> first | (cases hx; done) | skip
  cases hx
  show (match ev c b n v e w with
      | some (.ok d _ w) => some (SO.rt d w) | some (.ex k e w) => some (.ex k e w) | none => none) = _
  rw [h1]
theorem evSs_one {s : Stmt} {r : List Stmt} {d : D} (h1 : evSt c b n s e w = some (.rt d w1)) : evSs c b (n + 1) (s :: r) e w = some (.rt d w1) := by
  show (match evSt c b n s e w with | some (.nx e w) => evSs c b n r e w | o => o) = _
  rw [h1]
theorem evSs_nx {s : Stmt} {r : List Stmt} (h1 : evSt c b n s e w = some (.nx e1 w1)) : evSs c b (n + 1) (s :: r) e w = evSs c b n r e1 w1 := by
  show (match evSt c b n s e w with | some (.nx e w) => evSs c b n r e w | o => o) = _
  rw [h1]
theorem evSt_asg {s : Stmt} {y : Str} {v : Expr} {i : Nat} (hx : asAsg s = some (y, v)) (hy : okN y = true) (hs : isSto b.st y = true) (hi : slotOf b.N y 0 = some i) (hm : i ∉ b.mu) (h1 : ev c b n v e w = some (.ok d e1 w1)) : evSt c b (n + 1) s e w = some (.nx (e1.set i (.val d)) w1) := by
  cases s <;> first | (cases hx; done) | skip
  rename_i tgs v' pos
  rcases tgs with _ | ⟨tg, _ | ⟨t2, ts⟩⟩
  · cases hx
  rotate_left
  · cases tg <;> cases hx
  cases tg <;> first | (cases hx; done) | skip
  cases hx
  show (if okN y && isSto b.st y then (match slotOf b.N y 0 with
        | some i => if i ∈ b.mu then _
          else (match ev c b n v e w with
            | some (.ok d e w) => some (SO.nx (e.set i (.val d)) w) | some (.ex k e w) => some (.ex k e w) | none => none)
        | none => none) else none) = _
  rw [hy, hs, hi]
  show (if i ∈ b.mu then _ else (match ev c b n v e w with
            | some (.ok d e w) => some (SO.nx (e.set i (.val d)) w) | some (.ex k e w) => some (.ex k e w) | none => none)) = _
  rw [if_neg hm, h1]
end
end Pv
end
section
set_option Elab.async false
set_option linter.all false
set_option autoImplicit false
set_option maxRecDepth 100000
set_option maxHeartbeats 1000000
/-! What stands behind the top, in few words. -/
namespace Pv
open PySem PySem.Spec PyProof.Rows L2
section
variable {P : Program} {w : World} {K : PySem.W.Frag} {mg : Str → Option Value} {base : Heap} {h : Heap} {c : Cf} {k : Nat}
/-- a def of the module -/
def DefAt (K : PySem.W.Frag) (mg : Str → Option Value) (x : Str) (st : Stmt) : Prop := ∃ f fd, mg x = some (.ref f) ∧ Fun K x x st f fd
theorem defAt {x : Str} {st : Stmt} {f : Addr} {od an : Option Addr} {sl : Array (Option Value)} {oc kV dc pm cd ct : Value} (X : K.In h) (G : h.Ns mainGlobals mg) (a : PySem.W.nsIn K mainGlobals x = some (some (.ref f)))
    (l : K.lookup f = some ⟨oc, od, .func (PySem.W.fnOf x x (defArgs st) (defBody st) (defScope st) .none kV dc pm an cd ct), sl⟩) (cc : PySem.W.codeIn K cd x = true) (kk : PySem.W.keepIn K (.ref f) = true) : DefAt K mg x st :=
  ⟨f, _, PySem.W.mg_of X G a, fun_mk (st := st) l cc kk⟩
/-- a class of own errors -/
def ExAt (K : PySem.W.Frag) (mg : Str → Option Value) (x : Str) : Prop := ∃ C, mg x = some (.ref C) ∧ ExC K C
theorem exAt {x : Str} {C : Addr} (X : K.In h) (G : h.Ns mainGlobals mg) (a : PySem.W.nsIn K mainGlobals x = some (some (.ref C))) (q : PySem.W.excIn K C [.type "ValueError", .type "Exception", .type "BaseException", .type "object"] "ValueError.__new__" = true)
    (kk : PySem.W.keepIn K (.ref C) = true) (s : PySem.W.subIn K (.ref C) (.type "BaseException") = some true) (t : PySem.W.typeIn K (.ref C) = some (.type "type")) : ExAt K mg x :=
  ⟨C, PySem.W.mg_of X G a, ⟨⟨_, _, _, _, PySem.F.excBase_ValueError, q⟩, kk, s, t⟩⟩
theorem kit_ref {C D : Addr} {b : Bool} (hd : PySem.W.hasDictIn K D = true) (ht : PySem.W.typeIn K (.ref D) = some (.type "type")) (hs : PySem.W.subIn K (.ref C) (.ref D) = some b) (hne : (Value.ref C == Value.ref D) = false) : PySem.W.kitOne K (.ref C) (.ref D) = some b := by
  have e2 : ((PySem.W.clsIn K D).isSome && PySem.W.typeIn K (.ref D) == some (.type "type")) = true := by
    have h1 : (PySem.W.clsIn K D).isSome = true := by
      unfold PySem.W.hasDictIn at hd
      cases hc : PySem.W.clsIn K D with
      | none => rw [hc] at hd; cases hd
      | some cd => rfl
    rw [h1, ht]
    rfl
  unfold PySem.W.kitOne
  rw [if_neg (by rw [hne]; exact Bool.false_ne_true)]
  show (if ((PySem.W.clsIn K D).isSome && PySem.W.typeIn K (.ref D) == some (.type "type")) = true then PySem.W.subIn K (.ref C) (.ref D) else none) = some b
  rw [if_pos e2]
  exact hs
theorem errOk {x y : Str} {C D : Addr} (X : K.In h) (G : h.Ns mainGlobals mg) (a : PySem.W.nsIn K mainGlobals x = some (some (.ref C))) (a2 : PySem.W.nsIn K mainGlobals y = some (some (.ref D)))
    (hg : PySem.W.findIn K (.ref C) "__getattribute__" = some (some (.builtin "BaseException.__getattribute__"))) (hk : PySem.W.findIn K (.ref C) "__getattr__" = some none) (hs : PySem.W.subIn K (.ref C) (.type "BaseException") = some true) (hd : PySem.W.hasDictIn K C = true)
    (ha : PySem.W.findIn K (.ref C) "__class__" = some (some (.builtin "object.__class__"))) (hn : PySem.W.specialIn K (.builtin "object.__class__") "__get__" = some (some (.builtin "getset_descriptor.__get__"))) (ht : PySem.W.takesIn K (.builtin "object.__class__") = some true) (hm : PySem.W.mroIn K C (.type "object") = some true)
    (ty : PySem.W.typeIn K (.ref C) = some (.type "type")) (ss : PySem.W.subIn K (.ref C) (.ref C) = some true) (hd2 : PySem.W.hasDictIn K D = true) (ty2 : PySem.W.typeIn K (.ref D) = some (.type "type")) (sd : PySem.W.subIn K (.ref C) (.ref D) = some true) (ne : (Value.ref C == Value.ref D) = false) : ErrOk K mg x y :=
  ⟨C, D, PySem.W.mg_of X G a, PySem.W.mg_of X G a2, ⟨hg, hk, hs, hd, ha, hn, ht, hm⟩, PySem.W.exm_ref hs hd ty ss, kit_ref hd2 ty2 sd ne⟩
/-- a constant of the module that is no object -/
def ConAt (mg : Str → Option Value) (x : Str) (v : V) : Prop := ∃ u, mg x = some u ∧ RelV v u
theorem conInt {x : Str} {i : Int} {t : Tok} (X : K.In h) (G : h.Ns mainGlobals mg) (a : PySem.W.nsIn K mainGlobals x = some (some (.int i t))) : ConAt mg x (.int i) := ⟨_, PySem.W.mg_of X G a, t, rfl⟩
theorem conStr {x y : Str} {t : Tok} (X : K.In h) (G : h.Ns mainGlobals mg) (a : PySem.W.nsIn K mainGlobals x = some (some (.str y t))) : ConAt mg x (.str y) := ⟨_, PySem.W.mg_of X G a, t, rfl⟩
/-- a tuple of texts of the module -/
def TupAt (K : PySem.W.Frag) (mg : Str → Option Value) (x : Str) (ys : List Str) : Prop := ∃ a, mg x = some (.ref a) ∧ ∀ H : Hp, SqT K H a (ys.map V.str)
theorem valsStr : ∀ {ys : List Str} {its : List Value}, its.map (fun v => match v with | .str y _ => some y | _ => none) = ys.map some → Vals (ys.map V.str) its
  | [], [], _ => .nil
  | [], _ :: _, h => by cases h
  | _ :: _, [], h => by cases h
  | y :: ys, v :: its, h => by
    rw [List.map_cons, List.map_cons] at h
    injection h with h1 h2
    refine .cons ?_ (valsStr h2)
    cases v <;> first | (cases h1; done) | skip
    cases h1
    exact ⟨_, rfl⟩
theorem tupAt {x : Str} {a : Addr} {dd : Option Addr} {its : Array Value} {n : Nat} {sl : Array (Option Value)} (ys : List Str) (X : K.In h) (G : h.Ns mainGlobals mg) (e : PySem.W.nsIn K mainGlobals x = some (some (.ref a))) (l : K.lookup a = some ⟨.type "tuple", dd, .seq its n, sl⟩) (hz : its.size ≤ 1000)
    (hv : its.toList.map (fun v => match v with | .str y _ => some y | _ => none) = ys.map some) : TupAt K mg x ys :=
  ⟨a, PySem.W.mg_of X G e, fun H => .inr ⟨_, its, n, l, rfl, rfl, Nat.le_trans hz (by decide), valsStr hv⟩⟩
/-- a dict of the module from texts to defs -/
theorem tabAt {x : Str} {a : Addr} {es : Array DictEntry} {n : Nat} {t : List (Str × Str)} {fs : List Addr} (X : K.In h) (G : h.Ns mainGlobals mg) (e : PySem.W.nsIn K mainGlobals x = some (some (.ref a))) (l : K.lookup a = some ⟨.type "dict", none, .dict es n, #[]⟩) (hk : PySem.W.KeysLit w.params es.toList) (low : (a == sysModules) = false)
    (hes : es.toList.map (fun d => (match d.key with | .str y _ => some y | _ => none, d.val)) = (t.zip fs).map fun p => (some p.1.1, Value.ref p.2)) (hl : fs.length = t.length) (hm : ∀ p ∈ t.zip fs, mg p.1.2 = some (.ref p.2)) : ∃ a, mg x = some (.ref a) ∧ TabOk w K mg a t := by
  have key : ∀ (y : Str) (l : List DictEntry) (t : List (Str × Str)) (fs : List Addr), l.map (fun d => (match d.key with | .str y _ => some y | _ => none, d.val)) = (t.zip fs).map (fun p => (some p.1.1, Value.ref p.2)) → fs.length = t.length →
      (∀ p ∈ t.zip fs, mg p.1.2 = some (.ref p.2)) → (t.lookup y = none → l.find? (fun d => d.key.isStr y) = none) ∧ ∀ f, t.lookup y = some f → ∃ d q, l.find? (fun d => d.key.isStr y) = some d ∧ d.val = .ref q ∧ mg f = some (.ref q) := by
    intro y l
    induction l with
    | nil =>
      intro t fs h1 h2 _
      cases t with
      | nil => exact ⟨fun _ => rfl, fun f z => (by cases z)⟩
      | cons p t =>
        cases fs with
        | nil => cases h2
        | cons q fs => cases h1
    | cons d l ih =>
      intro t fs h1 h2 h3
      cases t with
      | nil => cases h1
      | cons p t =>
        cases fs with
        | nil => cases h2
        | cons q fs =>
          rw [List.zip_cons_cons, List.map_cons, List.map_cons] at h1
          injection h1 with h4 h5
          have ih' := ih t fs h5 (by simpa using h2) fun p' hp' => h3 p' (List.mem_cons_of_mem _ hp')
          have hp := h3 (p, q) List.mem_cons_self
          obtain ⟨p1, p2⟩ := p
          have hkey : ∃ tk, d.key = .str p1 tk := by
            cases hd : d.key <;> (rw [hd] at h4; try (injection h4 with h6 h7; cases h6))
            exact ⟨_, rfl⟩
          obtain ⟨tk, hkey⟩ := hkey
          have hval : d.val = .ref q := by injection h4
          have his : d.key.isStr y = (y == p1) := by
            rw [hkey, PySem.W.isStr_of]
            show (p1 == y) = _
            by_cases e : p1 = y
            · subst e; rfl
            · rw [beq_eq_false_iff_ne.mpr e, beq_eq_false_iff_ne.mpr (Ne.symm e)]
          rw [List.lookup_cons, List.find?_cons, his]
          cases hb : (y == p1) with
          | true => exact ⟨fun z => (by cases z), fun f z => (by cases z; exact ⟨d, q, rfl, hval, hp⟩)⟩
          | false => exact ih'
  have nsE : ∀ y, PySem.W.nsIn K a y = (match es.toList.find? (fun d => d.key.isStr y) with | some d => some (some d.val) | none => some none) := by
    intro y
    unfold PySem.W.nsIn
    rw [l]
    have hno : es.toList.any (·.refKey) = false := by
      rw [List.any_eq_false]
      intro d hd
      obtain ⟨z, tk, hz, _⟩ := hk.all d hd
      unfold DictEntry.refKey
      rw [hz]
      exact Bool.false_ne_true
    show (match es.toList.find? (·.key.isStr y) with
      | some e => some (some e.val)
      | none => if es.toList.any (·.refKey) then none else some none) = _
    rw [hno]
    rfl
  refine ⟨a, PySem.W.mg_of X G e, ⟨low, ⟨es, n, l, hk⟩, fun y hy => ?_, fun y f hy => ?_⟩⟩
  · rw [nsE, (key y es.toList t fs hes hl hm).1 hy]
  · obtain ⟨d, q, h1, h2, h3⟩ := (key y es.toList t fs hes hl hm).2 f hy
    exact ⟨q, by rw [nsE, h1]; show some (some d.val) = _; rw [h2], h3⟩
end
end Pv
end
section
set_option linter.all false
set_option maxRecDepth 100000
open PySem L2 Pv
namespace K04
def top (i : Nat) : Stmt := PySem.Challenge.pw_clashproved_k04_no_rules.main.body.getD i (.Pass ⟨0, 0, 0, 0⟩)
def forms : List (Str × Str) := [("in", "is_literal"), ("sum", "_is_sum"), ("different", "_is_comparison"), ("equal", "_is_comparison"), ("table", "_is_table"), ("count", "_is_count"), ("element", "_is_element"), ("or", "_is_or")]
def c0 : Cf := {
  fn := fun _ => none
  mak := fun _ => none
  exn := fun x => x = "BadSpace" || x = "BadRule"
  cls := fun _ => false
  fl := fun cn f => cn = "Space" && (f = "variables" || f = "names")
  me := fun _ _ => none
  con := fun x => if x = "GREATEST_VALUE" then some (.int 15) else if x = "MOST_NAMES" then some (.int 6) else if x = "MOST_ROWS" then some (.int 20) else if x = "GREATEST_FACTOR" then some (.int 9) else if x = "GREATEST_SUM" then some (.int 1100)
    else if x = "RELATIONS" then some (.tup [.str "=", .str "<=", .str ">=", .str "!="]) else if x = "FORMS" then some (.glo "FORMS") else if x = "LETTERS" then some (.str "abcdefghijklmnopqrstuvwxyz") else if x = "LETTERS_AND_DIGITS" then some (.str "abcdefghijklmnopqrstuvwxyz0123456789") else if x = "LONGEST_NAME" then some (.int 8) else none
  cc := fun cl f => if cl = "Space" then (if f = "MOST_VARIABLES" then some (.int 6) else if f = "MOST_VALUES" then some (.int 6) else none) else none
  bi := fun x => x ∈ (["len", "int", "type", "tuple", "all", "set", "sorted", "str", "isinstance", "range"] : List Str)
  tab := fun x => if x = "FORMS" then some forms else none }
def f1 : Fn := evD c0 (bk ["value", "least", "greatest"] [] (top 7)) 60 (defBody (top 7)) 3
def c1 : Cf := addF c0 "is_number" f1
def f2 : Fn := evD c1 (bk ["value", "least", "most"] [] (top 8)) 60 (defBody (top 8)) 3
def c2 : Cf := addF c1 "is_tuple" f2
def f3 : Fn := evD c2 (bk ["value", "part"] [] (top 10)) 60 (defBody (top 10)) 1
def c3 : Cf := addF c2 "are_values" f3
def f4 : Fn := evD c3 (bk ["names"] [] (top 11)) 60 (defBody (top 11)) 1
def c4 : Cf := addF c3 "none_twice" f4
def f5 : Fn := evD c4 (bk ["self", "name"] [] (inClass (top 39) 5)) 60 (defBody (inClass (top 39) 5)) 2
def c5 : Cf := addM c4 "Space" "has_name" f5
def f6 : Fn := evD c5 (bk ["space", "value"] [] (top 18)) 60 (defBody (top 18)) 2
def c6 : Cf := addF c5 "is_literal" f6
def f7 : Fn := evD c6 (bk ["space", "value", "factor", "name"] [] (top 20)) 60 (defBody (top 20)) 2
def c7 : Cf := addF c6 "_is_term" f7
def f8 : Fn := evD c7 (bk ["space", "value", "_", "name", "part"] [] (top 19)) 60 (defBody (top 19)) 2
def c8 : Cf := addF c7 "are_terms" f8
def f9 : Fn := evD c8 (bk ["space", "value", "least", "part"] [] (top 21)) 60 (defBody (top 21)) 3
def c9 : Cf := addF c8 "_are_names" f9
def f10 : Fn := evD c9 (bk ["space", "value", "least"] [] (top 22)) 60 (defBody (top 22)) 3
def c10 : Cf := addF c9 "_are_different_names" f10
def f11 : Fn := evD c10 (bk ["value"] [] (top 23)) 60 (defBody (top 23)) 1
def c11 : Cf := addF c10 "_is_relation" f11
def f12 : Fn := evD c11 (bk ["value", "length", "part"] [] (top 24)) 60 (defBody (top 24)) 2
def c12 : Cf := addF c11 "_is_row" f12
def f13 : Fn := evD c12 (bk ["space", "parts", "terms", "relation", "number"] [] (top 25)) 60 (defBody (top 25)) 2
def c13 : Cf := addF c12 "_is_sum" f13
def f14 : Fn := evD c13 (bk ["space", "parts"] [] (top 26)) 60 (defBody (top 26)) 2
def c14 : Cf := addF c13 "_is_comparison" f14
def f15 : Fn := evD c14 (bk ["space", "parts", "names", "rows", "row"] [] (top 27)) 60 (defBody (top 27)) 2
def c15 : Cf := addF c14 "_is_table" f15
def f16 : Fn := evD c15 (bk ["space", "parts", "names", "values", "numbers"] [] (top 28)) 60 (defBody (top 28)) 2
def c16 : Cf := addF c15 "_is_count" f16
def f17 : Fn := evD c16 (bk ["space", "parts", "index", "names", "name"] [] (top 29)) 60 (defBody (top 29)) 2
def c17 : Cf := addF c16 "_is_element" f17
def f18 : Fn := evD c17 (bk ["space", "parts", "literals", "name", "_", "literal"] [] (top 30)) 60 (defBody (top 30)) 2
def c18 : Cf := addF c17 "_is_or" f18
def f19 : Fn := evD c18 (bk ["value", "kind"] [] (top 9)) 60 (defBody (top 9)) 1
def c19 : Cf := addF c18 "kind_of" f19
def f20 : Fn := evD c19 (bk ["space", "value", "kind", "has_form"] [] (top 33)) 60 (defBody (top 33)) 2
def c20 : Cf := addF c19 "_is_simple_rule" f20
def f21 : Fn := evD c20 (bk ["space", "value"] [] (top 34)) 60 (defBody (top 34)) 2
def c21 : Cf := addF c20 "_is_conditional" f21
def f22 : Fn := evD c21 (bk ["space", "rule"] [] (top 32)) 60 (defBody (top 32)) 2
def c22 : Cf := addF c21 "check_rule" f22
def f23 : Fn := evD c22 (bk ["value", "sign"] [] (top 42)) 60 (defBody (top 42)) 1
def c23 : Cf := addF c22 "_is_name" f23
def f24 : Fn := evD c23 (bk ["value", "name", "values"] [] (top 41)) 60 (defBody (top 41)) 1
def c24 : Cf := addF c23 "_is_variable" f24
def f25 : Fn := evD c24 (bk ["value", "name", "_", "part"] [] (top 40)) 60 (defBody (top 40)) 1
def c25 : Cf := addF c24 "_are_variables" f25
abbrev sI : Stmt := inClass (top 39) 2
def bI : Bk := bk ["self", "variables", "name", "_"] [] sI
def iT : Expr := match defBody sI with | [.If t _ _ _, _, _] => t | _ => .Constant .none 0 ⟨0,0,0,0⟩
def iR : List Stmt := match defBody sI with | [.If _ r _ _, _, _] => r | _ => []
def iX1 : Expr := match defBody sI with | [_, .Assign _ x _, _] => x | _ => .Constant .none 0 ⟨0,0,0,0⟩
def iX2 : Expr := match defBody sI with | [_, _, .Assign _ (.Call _ [x] _ _) _] => x | _ => .Constant .none 0 ⟨0,0,0,0⟩
def fS : Fn := fun ds w => if ds.length = 1 then (match evT c25 bI 60 iT (Sl.un :: (ds.map Sl.val ++ [.un, .un])) w with
  | some (.ok true e1 w1) => (match evSs c25 bI 60 iR e1 w1 with | some (.ex cc _ w2) => some (.ex cc w2) | _ => none)
  | some (.ok false e1 w1) => (match ev c25 bI 60 iX1 e1 w1 with
    | some (.ok d1 e2 w2) => (match ev c25 bI 60 iX2 e2 w2 with
      | some (.ok (.lst xs) _ w3) => some (.ok (.ins "Space" ["variables", "names"] [d1, .tup xs]) w3)
      | _ => none)
    | _ => none)
  | _ => none) else none
def cS : Cf := addK c25 "Space" fS
def fC : Fn := evD cS (bk ["script", "k"] [] (top 44)) 60 (defBody (top 44)) 2
def cC : Cf := addF cS "_law_cell" fC
abbrev sB : Stmt := top 45
def bB : Bk := bk ["space", "rule", "e"] [] sB
def bX : Expr := match defBody sB with | [.Try [.Expr x _] _ _ _ _, _] => x | _ => .Constant .none 0 ⟨0,0,0,0⟩
def fB : Fn := fun ds w => if ds.length = 2 then (match ev cC bB 60 bX (ds.map Sl.val ++ [.un]) w with
  | some (.ok _ _ w1) => some (.ok (.bl false) w1)
  | some (.ex c _ w1) => if c = "BadRule" then some (.ok (.bl true) w1) else none
  | none => none) else none
def cB : Cf := addF cC "_law_is_bad" fB
def fW : Fn := evD cB (bk ["plain", "inner", "k"] [] (top 46)) 60 (defBody (top 46)) 0
def cW : Cf := addF cB "_law_wrong" fW
def fL : Fn := evD cW (bk ["script", "space", "wrong", "right", "one", "good"] [] (top 47)) 60 (defBody (top 47)) 1
end K04
end
section
set_option linter.all false
set_option maxRecDepth 100000
open PySem L2 Pv
namespace K04
/-! ### what the first cell comes to -/
def bC : Bk := Pv.bk ["script", "k"] [] (top 44)
def ifC : Stmt := (defBody (top 44)).headD (.Pass ⟨0, 0, 0, 0⟩)
def rsC : List Stmt := (defBody (top 44)).tail
def tC_ : Expr := match asIf ifC with | some (t, _, _) => t | none => .Constant .none 0 ⟨0, 0, 0, 0⟩
def pC : List Stmt := match asIf ifC with | some (_, p, _) => p | none => []
def lC : Expr := match asCmp tC_ with | some (p, _, _) => p | none => .Constant .none 0 ⟨0, 0, 0, 0⟩
def rC : Expr := match asCmp tC_ with | some (_, _, q) => q | none => .Constant .none 0 ⟨0, 0, 0, 0⟩
def sC : Stmt := pC.headD (.Pass ⟨0, 0, 0, 0⟩)
def vC : Expr := match asRet sC with | some v => v | none => .Constant .none 0 ⟨0, 0, 0, 0⟩
def xC : Expr := match asCall vC with | some (_, [x]) => x | _ => .Constant .none 0 ⟨0, 0, 0, 0⟩
theorem len_eq (z : Int) (r : List Int) : ((z :: r).length : Int) = (r.length : Int) + 1 := by rw [List.length_cons]; omega
theorem cell_ok (ns : List Int) : fC [.scr ns, .int 0] none = some (.ok (.int (ns.getD 0 0)) none) := by
  cases ns with
  | nil => kernel_rfl
  | cons z r =>
    have hT : evT cS bC 58 tC_ [.val (.scr (z :: r)), .val (.int 0)] none = some (.ok true [.val (.scr (z :: r)), .val (.int 0)] none) := by
      refine evT_cmp (n := 56) (e1 := [.val (.scr (z :: r)), .val (.int 0)]) (w1 := none) (p := lC) (op := .Lt) (q := rC) (d1 := .int 0) (d2 := .int ((z :: r).length : Nat)) (by kernel_rfl) (by intro h; cases h) (by kernel_rfl) (by kernel_rfl) (by kernel_rfl) ?_
      show some (decide ((0 : Int) < ((z :: r).length : Nat))) = some true
      rw [decide_eq_true (by rw [len_eq]; omega)]
    have hX : ev cS bC 53 xC [.val (.scr (z :: r)), .val (.int 0)] none = some (.ok (.int z) [.val (.scr (z :: r)), .val (.int 0)] none) := by
      refine ev_ix (n := 52) (p := (match asIx xC with | some (p, _) => p | none => xC)) (s := (match asIx xC with | some (_, s) => s | none => xC)) (d1 := .scr (z :: r)) (d2 := .int 0) (e1 := [.val (.scr (z :: r)), .val (.int 0)]) (w1 := none) (by kernel_rfl) (by kernel_rfl) (by kernel_rfl) (by kernel_rfl) (by kernel_rfl) ?_
      show (atI (z :: r) 0).map D.int = _
      have : atI (z :: r) 0 = some z := by
        unfold atI ixN
        simp
      rw [this]
      rfl
    have hV : ev cS bC 56 vC [.val (.scr (z :: r)), .val (.int 0)] none = some (.ok (.int z) [.val (.scr (z :: r)), .val (.int 0)] none) := by
      refine (ev_bi (n := 54) (a := xC) (g := "int") (xs := [xC]) (kk := false) (id := "int") (ds := [.int z]) (d := .int z) (e1 := [.val (.scr (z :: r)), .val (.int 0)]) (w1 := none) (by kernel_rfl) (by kernel_rfl) (by kernel_rfl) (by kernel_rfl) (by kernel_rfl) (by kernel_rfl) (by kernel_rfl) (by kernel_rfl) (by decide +kernel) (by decide +kernel) rfl (evs_cons (by kernel_rfl) hX evs_nil) (by intro cn ns xs h; cases h) (by kernel_rfl))
    have hS : evSs cS bC 60 (defBody (top 44)) [.val (.scr (z :: r)), .val (.int 0)] none = some (.rt (.int z) none) := by
      have e1 : defBody (top 44) = ifC :: rsC := by kernel_rfl
      have e2 : pC = [sC] := by kernel_rfl
      rw [e1]
      refine evSs_one (n := 59) ?_
      rw [evSt_if (n := 58) (t := tC_) (p := pC) (q := []) (by kernel_rfl) hT, if_pos rfl, e2]
      exact evSs_one (n := 57) (evSt_ret (n := 56) (v := vC) (by kernel_rfl) hV)
    show evD cS _ 60 (defBody (top 44)) 2 [.scr (z :: r), .int 0] none = _
    unfold evD
    show (match evSs cS bC 60 (defBody (top 44)) [.val (.scr (z :: r)), .val (.int 0)] none with
      | some (.rt d w) => some (FR.ok d w)
      | some (.nx _ w) => some (.ok .non w)
      | some (.ex k _ w) => some (.ex k w)
      | _ => none) = _
    rw [hS]
    rfl
end K04
end
section
set_option linter.all false
set_option maxRecDepth 100000
open PySem L2 Pv
namespace K04
/-! ### the law's own function gives True -/
def bL : Bk := Pv.bk ["script", "space", "wrong", "right", "one", "good"] [] (top 47)
def s1 : Stmt := (defBody (top 47)).headD (.Pass ⟨0, 0, 0, 0⟩)
def rs1 : List Stmt := (defBody (top 47)).tail
def xNo : Expr := .Constant .none 0 ⟨0, 0, 0, 0⟩
def v1 : Expr := match asAsg s1 with | some (_, v) => v | none => xNo
def x1 : Expr := match asCall v1 with | some (_, [x]) => x | _ => xNo
def xA : Expr := match asBin x1 with | some (p, _, _) => p | _ => xNo
def xS : Expr := match asBin x1 with | some (_, _, q) => q | _ => xNo
def xB : Expr := match asSlc xS with | some (p, _) => p | _ => xNo
def xM : Expr := match asSlc xS with | some (_, q) => q | _ => xNo
def xK : Expr := match asBin xM with | some (p, _, _) => p | _ => xNo
def x4 : Expr := match asBin xM with | some (_, _, q) => q | _ => xNo
def aK : List Expr := match asCall xK with | some (_, xs) => xs | _ => []
def En (ns : List Int) : List Sl := [.val (.scr ns), .un, .un, .un, .un, .un]
def vA : List D := [.tup [.str "a", .tup [.int 0, .int 1]], .tup [.str "b2", .tup [.int 0, .int 3]], .tup [.str "cat", .tup [.int 1, .int 15]]]
def vB : List D := [.tup [.str "d", .tup [.int 2]], .tup [.str "e", .tup [.int 0, .int 2]], .tup [.str "f9", .tup [.int 5]]]
def nA : List D := [.str "a", .str "b2", .str "cat"]
def nB : List D := [.str "d", .str "e", .str "f9"]
def spc (r : Nat) : D := .ins "Space" ["variables", "names"] [.tup (vA ++ vB.take r), .tup (nA ++ nB.take r)]
theorem xM_ok (ns : List Int) : ev cW bL 53 xM (En ns) none = some (.ok (.int (ns.getD 0 0 % 4)) (En ns) none) := by
  have hK : ev cW bL 52 xK (En ns) none = some (.ok (.int (ns.getD 0 0)) (En ns) none) := by
    rw [ev_fn (n := 51) (g := "_law_cell") (xs := aK) (F := fC) (ds := [.scr ns, .int 0]) (e1 := En ns) (w1 := none) (by kernel_rfl) (by kernel_rfl) (by kernel_rfl) (by kernel_rfl) (by kernel_rfl) (by kernel_rfl), cell_ok]
    rfl
  exact ev_bin (n := 52) (p := xK) (op := .Mod) (q := x4) (d2 := .int 4) (e2 := En ns) (w2 := none) (by kernel_rfl) hK (by kernel_rfl) (by kernel_rfl)
theorem s1_ok (ns : List Int) (r : Nat) (hr : ns.getD 0 0 % 4 = (r : Int)) (hs : sliceD (.tup vB) none (some (r : Int)) = some (.tup (vB.take r))) (hc : binD .Add (.tup vA) (.tup (vB.take r)) = some (.tup (vA ++ vB.take r)))
    (hS : fS [.tup (vA ++ vB.take r)] none = some (.ok (spc r) none)) : evSt cW bL 59 s1 (En ns) none = some (.nx [.val (.scr ns), .val (spc r), .un, .un, .un, .un] none) := by
  have hM := xM_ok ns
  rw [hr] at hM
  have hx : ev cW bL 55 xS (En ns) none = some (.ok (.tup (vB.take r)) (En ns) none) :=
    ev_slc (n := 53) (p := xB) (q := xM) (d1 := .tup vB) (e1 := En ns) (w1 := none) (by kernel_rfl) (by kernel_rfl) hM hs
  have h1 : ev cW bL 56 x1 (En ns) none = some (.ok (.tup (vA ++ vB.take r)) (En ns) none) :=
    ev_bin (n := 55) (p := xA) (op := .Add) (q := xS) (d1 := .tup vA) (e1 := En ns) (w1 := none) (by kernel_rfl) (by kernel_rfl) hx hc
  have hv : ev cW bL 58 v1 (En ns) none = some (.ok (spc r) (En ns) none) := by
    rw [ev_mak (n := 57) (g := "Space") (y := x1) (r := []) (F := fS) (ds := [.tup (vA ++ vB.take r)]) (e1 := En ns) (w1 := none) (by kernel_rfl) (by kernel_rfl) (by kernel_rfl) (by kernel_rfl) (by kernel_rfl) (by kernel_rfl) (evs_cons (n := 56) (by kernel_rfl) h1 evs_nil), hS]
    rfl
  exact evSt_asg (n := 58) (y := "space") (v := v1) (i := 1) (by kernel_rfl) (by kernel_rfl) (by kernel_rfl) (by kernel_rfl) (by intro h; cases h) hv
theorem rest0 (ns : List Int) : evSs cW bL 59 rs1 [.val (.scr ns), .val (spc 0), .un, .un, .un, .un] none = some (.rt (.bl true) none) := by kernel_rfl
theorem rest1 (ns : List Int) : evSs cW bL 59 rs1 [.val (.scr ns), .val (spc 1), .un, .un, .un, .un] none = some (.rt (.bl true) none) := by kernel_rfl
theorem rest2 (ns : List Int) : evSs cW bL 59 rs1 [.val (.scr ns), .val (spc 2), .un, .un, .un, .un] none = some (.rt (.bl true) none) := by kernel_rfl
theorem rest3 (ns : List Int) : evSs cW bL 59 rs1 [.val (.scr ns), .val (spc 3), .un, .un, .un, .un] none = some (.rt (.bl true) none) := by kernel_rfl
theorem law_of (ns : List Int) (r : Nat) (h1 : evSt cW bL 59 s1 (En ns) none = some (.nx [.val (.scr ns), .val (spc r), .un, .un, .un, .un] none)) (h2 : evSs cW bL 59 rs1 [.val (.scr ns), .val (spc r), .un, .un, .un, .un] none = some (.rt (.bl true) none)) : fL [.scr ns] none = some (.ok (.bl true) none) := by
  have e : defBody (top 47) = s1 :: rs1 := by kernel_rfl
  show (match evSs cW bL 60 (defBody (top 47)) (En ns) none with
    | some (.rt d w) => some (FR.ok d w)
    | some (.nx _ w) => some (.ok .non w)
    | some (.ex k _ w) => some (.ex k w)
    | _ => none) = _
  rw [e, evSs_nx (n := 59) h1, h2]
theorem law_true (ns : List Int) : fL [.scr ns] none = some (.ok (.bl true) none) := by
  have h : ns.getD 0 0 % 4 = ((0 : Nat) : Int) ∨ ns.getD 0 0 % 4 = ((1 : Nat) : Int) ∨ ns.getD 0 0 % 4 = ((2 : Nat) : Int) ∨ ns.getD 0 0 % 4 = ((3 : Nat) : Int) := by omega
  rcases h with h | h | h | h
  · exact law_of ns 0 (s1_ok ns 0 h (by kernel_rfl) (by kernel_rfl) (by kernel_rfl)) (rest0 ns)
  · exact law_of ns 1 (s1_ok ns 1 h (by kernel_rfl) (by kernel_rfl) (by kernel_rfl)) (rest1 ns)
  · exact law_of ns 2 (s1_ok ns 2 h (by kernel_rfl) (by kernel_rfl) (by kernel_rfl)) (rest2 ns)
  · exact law_of ns 3 (s1_ok ns 3 h (by kernel_rfl) (by kernel_rfl) (by kernel_rfl)) (rest3 ns)
end K04
end
section
set_option Elab.async false
set_option linter.all false
set_option autoImplicit false
set_option maxRecDepth 100000
set_option maxHeartbeats 1000000
open PySem PySem.Spec PyProof.Rows L2 Pv
namespace K04
/-- what the top says -/
structure Facts (w : World) (K : PySem.W.Frag) (mg : Str → Option Value) : Prop where
  d_is_number : DefAt K mg "is_number" (top 7)
  d_is_tuple : DefAt K mg "is_tuple" (top 8)
  d_are_values : DefAt K mg "are_values" (top 10)
  d_none_twice : DefAt K mg "none_twice" (top 11)
  d_is_literal : DefAt K mg "is_literal" (top 18)
  d_is_term : DefAt K mg "_is_term" (top 20)
  d_are_terms : DefAt K mg "are_terms" (top 19)
  d_are_names : DefAt K mg "_are_names" (top 21)
  d_are_different_names : DefAt K mg "_are_different_names" (top 22)
  d_is_relation : DefAt K mg "_is_relation" (top 23)
  d_is_row : DefAt K mg "_is_row" (top 24)
  d_is_sum : DefAt K mg "_is_sum" (top 25)
  d_is_comparison : DefAt K mg "_is_comparison" (top 26)
  d_is_table : DefAt K mg "_is_table" (top 27)
  d_is_count : DefAt K mg "_is_count" (top 28)
  d_is_element : DefAt K mg "_is_element" (top 29)
  d_is_or : DefAt K mg "_is_or" (top 30)
  d_kind_of : DefAt K mg "kind_of" (top 9)
  d_is_simple_rule : DefAt K mg "_is_simple_rule" (top 33)
  d_is_conditional : DefAt K mg "_is_conditional" (top 34)
  d_check_rule : DefAt K mg "check_rule" (top 32)
  d_is_name : DefAt K mg "_is_name" (top 42)
  d_is_variable : DefAt K mg "_is_variable" (top 41)
  d_are_variables : DefAt K mg "_are_variables" (top 40)
  d_law_cell : DefAt K mg "_law_cell" (top 44)
  d_law_is_bad : DefAt K mg "_law_is_bad" (top 45)
  d_law_wrong : DefAt K mg "_law_wrong" (top 46)
  d_law : DefAt K mg "law" (top 47)
  sp : ∃ C : Addr, mg "Space" = some (.ref C) ∧ Cls K C ∧ NoAttr K C "variables" ∧ NoAttr K C "names" ∧ ClX.CRead K C (.type "type") ∧ (∃ tk, ClX.CVal K C (.type "type") "MOST_VARIABLES" (.int 6) (.int 6 tk)) ∧ (∃ tk, ClX.CVal K C (.type "type") "MOST_VALUES" (.int 6) (.int 6 tk)) ∧
    (∃ f fd, Meth K C "has_name" f ∧ Fun K "has_name" "Space.has_name" (inClass (top 39) 5) f fd) ∧ ∃ f fd, Mk K C f ∧ Fun K "__init__" "Space.__init__" (inClass (top 39) 2) f fd
  bs : ExAt K mg "BadSpace"
  br : ExAt K mg "BadRule"
  er : ErrOk K mg "BadRule" "ClashError"
  k_GREATEST_VALUE : ConAt mg "GREATEST_VALUE" (.int 15)
  k_MOST_NAMES : ConAt mg "MOST_NAMES" (.int 6)
  k_MOST_ROWS : ConAt mg "MOST_ROWS" (.int 20)
  k_GREATEST_FACTOR : ConAt mg "GREATEST_FACTOR" (.int 9)
  k_GREATEST_SUM : ConAt mg "GREATEST_SUM" (.int 1100)
  k_LONGEST_NAME : ConAt mg "LONGEST_NAME" (.int 8)
  k_LETTERS : ConAt mg "LETTERS" (.str "abcdefghijklmnopqrstuvwxyz")
  k_LETTERS_AND_DIGITS : ConAt mg "LETTERS_AND_DIGITS" (.str "abcdefghijklmnopqrstuvwxyz0123456789")
  k_RELATIONS : TupAt K mg "RELATIONS" ["=", "<=", ">=", "!="]
  k_FORMS : ∃ a, mg "FORMS" = some (.ref a) ∧ TabOk w K mg a forms
  bi : ∀ x ∈ (["len", "int", "type", "tuple", "all", "set", "sorted", "str", "isinstance", "range"] : List Str), mg x = none
section
variable {P : Program} {w : World} {K : PySem.W.Frag} {mg : Str → Option Value} {base : Heap}
theorem mf0 (F : Facts w K mg) : MF P w K mg base c0 0 where
  fn := fun x G h => by cases h
  mak := fun x G h => by cases h
  me := fun a x G h => by cases h
  nosp := fun _ => ⟨rfl, rfl⟩
  bi := fun x h => F.bi x (of_decide_eq_true h)
  exn := fun x h => by
    have h : (decide (x = "BadSpace") || decide (x = "BadRule")) = true := h
    rw [Bool.or_eq_true, decide_eq_true_eq, decide_eq_true_eq] at h
    rcases h with rfl | rfl
    · exact F.bs
    · exact F.br
  cls := fun x C h => by cases h
  fl := fun cn f h => by
    have h : (decide (cn = "Space") && (decide (f = "variables") || decide (f = "names"))) = true := h
    simp only [Bool.and_eq_true, Bool.or_eq_true, decide_eq_true_eq] at h
    obtain ⟨hcn, hf⟩ := h
    subst hcn
    obtain ⟨C, h1, h2, h3, h4, _⟩ := F.sp
    rcases hf with rfl | rfl
    · exact ⟨C, h1, h2, h3⟩
    · exact ⟨C, h1, h2, h4⟩
  tab := fun g t h => by
    have h : (if g = "FORMS" then some forms else none) = some t := h
    split at h
    · rename_i e
      subst e
      cases h
      exact F.k_FORMS
    · cases h
  cc := fun cn f d h0 => by
    have h : (if cn = "Space" then (if f = "MOST_VARIABLES" then some (D.int 6) else if f = "MOST_VALUES" then some (.int 6) else none) else none) = some d := h0
    clear h0
    obtain ⟨C, h1, h2, h3, h4, h5, ⟨t6, h6⟩, ⟨t7, h7⟩, _⟩ := F.sp
    by_cases hc : cn = "Space"
    · rw [if_pos hc] at h
      subst hc
      by_cases hf : f = "MOST_VARIABLES"
      · rw [if_pos hf] at h
        cases h
        subst hf
        exact ⟨C, _, _, _, h1, h5, h6, fun W => .int _⟩
      · rw [if_neg hf] at h
        by_cases hg : f = "MOST_VALUES"
        · rw [if_pos hg] at h
          cases h
          subst hg
          exact ⟨C, _, _, _, h1, h5, h7, fun W => .int _⟩
        · rw [if_neg hg] at h
          cases h
    · rw [if_neg hc] at h
      cases h
  con := fun x d h => by
    have h : (if x = "GREATEST_VALUE" then some (D.int 15) else if x = "MOST_NAMES" then some (D.int 6) else if x = "MOST_ROWS" then some (D.int 20) else if x = "GREATEST_FACTOR" then some (D.int 9) else if x = "GREATEST_SUM" then some (D.int 1100) else if x = "RELATIONS" then some (.tup [.str "=", .str "<=", .str ">=", .str "!="]) else if x = "FORMS" then some (.glo "FORMS") else if x = "LETTERS" then some (.str "abcdefghijklmnopqrstuvwxyz") else if x = "LETTERS_AND_DIGITS" then some (.str "abcdefghijklmnopqrstuvwxyz0123456789") else if x = "LONGEST_NAME" then some (D.int 8) else none) = some d := h
    split at h
    · rename_i e
      subst e
      cases h
      obtain ⟨u, hu, ru⟩ := F.k_GREATEST_VALUE
      exact ⟨u, _, hu, ru, fun W => .int _⟩
    split at h
    · rename_i e
      subst e
      cases h
      obtain ⟨u, hu, ru⟩ := F.k_MOST_NAMES
      exact ⟨u, _, hu, ru, fun W => .int _⟩
    split at h
    · rename_i e
      subst e
      cases h
      obtain ⟨u, hu, ru⟩ := F.k_MOST_ROWS
      exact ⟨u, _, hu, ru, fun W => .int _⟩
    split at h
    · rename_i e
      subst e
      cases h
      obtain ⟨u, hu, ru⟩ := F.k_GREATEST_FACTOR
      exact ⟨u, _, hu, ru, fun W => .int _⟩
    split at h
    · rename_i e
      subst e
      cases h
      obtain ⟨u, hu, ru⟩ := F.k_GREATEST_SUM
      exact ⟨u, _, hu, ru, fun W => .int _⟩
    split at h
    · rename_i e
      subst e
      cases h
      obtain ⟨a, ha, hs⟩ := F.k_RELATIONS
      exact ⟨_, .ref a, ha, rfl, fun W => .tup (hs _) (.cons (.str _) (.cons (.str _) (.cons (.str _) (.cons (.str _) .nil))))⟩
    split at h
    · rename_i e
      subst e
      cases h
      obtain ⟨a, ha, _⟩ := F.k_FORMS
      exact ⟨_, .ref a, ha, rfl, fun W => .glo ha⟩
    split at h
    · rename_i e
      subst e
      cases h
      obtain ⟨u, hu, ru⟩ := F.k_LETTERS
      exact ⟨u, _, hu, ru, fun W => .str _⟩
    split at h
    · rename_i e
      subst e
      cases h
      obtain ⟨u, hu, ru⟩ := F.k_LETTERS_AND_DIGITS
      exact ⟨u, _, hu, ru, fun W => .str _⟩
    split at h
    · rename_i e
      subst e
      cases h
      obtain ⟨u, hu, ru⟩ := F.k_LONGEST_NAME
      exact ⟨u, _, hu, ru, fun W => .int _⟩
    cases h
theorem m1 (F : Facts w K mg) : MF P w K mg base c1 2 := by
  obtain ⟨f, fd, hm, Fu⟩ := F.d_is_number
  exact (mf0 F).addD (N := ["value", "least", "greatest"]) (ps := ["value", "least", "greatest"]) (mu := []) (n := 60) Fu ⟨rfl, rfl, rfl, by decide +kernel, rfl, by decide +kernel, by decide +kernel⟩ (Fu.binds (fun _ _ _ _ _ _ us hl => match us, hl with | [_, _, _], _ => rfl)) hm
theorem m2 (F : Facts w K mg) : MF P w K mg base c2 4 := by
  obtain ⟨f, fd, hm, Fu⟩ := F.d_is_tuple
  exact (m1 F).addD (N := ["value", "least", "most"]) (ps := ["value", "least", "most"]) (mu := []) (n := 60) Fu ⟨rfl, rfl, rfl, by decide +kernel, rfl, by decide +kernel, by decide +kernel⟩ (Fu.binds (fun _ _ _ _ _ _ us hl => match us, hl with | [_, _, _], _ => rfl)) hm
theorem m3 (F : Facts w K mg) : MF P w K mg base c3 6 := by
  obtain ⟨f, fd, hm, Fu⟩ := F.d_are_values
  exact (m2 F).addD (N := ["value", "part"]) (ps := ["value"]) (mu := []) (n := 60) Fu ⟨rfl, rfl, rfl, by decide +kernel, rfl, by decide +kernel, by decide +kernel⟩ (Fu.binds (fun _ _ _ _ _ _ us hl => match us, hl with | [_], _ => rfl)) hm
theorem m4 (F : Facts w K mg) : MF P w K mg base c4 8 := by
  obtain ⟨f, fd, hm, Fu⟩ := F.d_none_twice
  exact (m3 F).addD (N := ["names"]) (ps := ["names"]) (mu := []) (n := 60) Fu ⟨rfl, rfl, rfl, by decide +kernel, rfl, by decide +kernel, by decide +kernel⟩ (Fu.binds (fun _ _ _ _ _ _ us hl => match us, hl with | [_], _ => rfl)) hm
theorem m5 (F : Facts w K mg) : MF P w K mg base c5 10 := by
  obtain ⟨C, h1, h2, _, _, _, _, _, ⟨f, fd, hm, Fu⟩, _⟩ := F.sp
  exact (m4 F).addMD (N := ["self", "name"]) (ps := ["self", "name"]) (mu := []) (n := 60) Fu ⟨rfl, rfl, rfl, by decide +kernel, rfl, by decide +kernel, by decide +kernel⟩ (Fu.binds (fun _ _ _ _ _ _ us hl => match us, hl with | [_, _], _ => rfl)) h1 h2 hm (by decide +kernel) (by decide +kernel)
theorem m6 (F : Facts w K mg) : MF P w K mg base c6 12 := by
  obtain ⟨f, fd, hm, Fu⟩ := F.d_is_literal
  exact (m5 F).addD (N := ["space", "value"]) (ps := ["space", "value"]) (mu := []) (n := 60) Fu ⟨rfl, rfl, rfl, by decide +kernel, rfl, by decide +kernel, by decide +kernel⟩ (Fu.binds (fun _ _ _ _ _ _ us hl => match us, hl with | [_, _], _ => rfl)) hm
theorem m7 (F : Facts w K mg) : MF P w K mg base c7 14 := by
  obtain ⟨f, fd, hm, Fu⟩ := F.d_is_term
  exact (m6 F).addD (N := ["space", "value", "factor", "name"]) (ps := ["space", "value"]) (mu := []) (n := 60) Fu ⟨rfl, rfl, rfl, by decide +kernel, rfl, by decide +kernel, by decide +kernel⟩ (Fu.binds (fun _ _ _ _ _ _ us hl => match us, hl with | [_, _], _ => rfl)) hm
theorem m8 (F : Facts w K mg) : MF P w K mg base c8 16 := by
  obtain ⟨f, fd, hm, Fu⟩ := F.d_are_terms
  exact (m7 F).addD (N := ["space", "value", "_", "name", "part"]) (ps := ["space", "value"]) (mu := []) (n := 60) Fu ⟨rfl, rfl, rfl, by decide +kernel, rfl, by decide +kernel, by decide +kernel⟩ (Fu.binds (fun _ _ _ _ _ _ us hl => match us, hl with | [_, _], _ => rfl)) hm
theorem m9 (F : Facts w K mg) : MF P w K mg base c9 18 := by
  obtain ⟨f, fd, hm, Fu⟩ := F.d_are_names
  exact (m8 F).addD (N := ["space", "value", "least", "part"]) (ps := ["space", "value", "least"]) (mu := []) (n := 60) Fu ⟨rfl, rfl, rfl, by decide +kernel, rfl, by decide +kernel, by decide +kernel⟩ (Fu.binds (fun _ _ _ _ _ _ us hl => match us, hl with | [_, _, _], _ => rfl)) hm
theorem m10 (F : Facts w K mg) : MF P w K mg base c10 20 := by
  obtain ⟨f, fd, hm, Fu⟩ := F.d_are_different_names
  exact (m9 F).addD (N := ["space", "value", "least"]) (ps := ["space", "value", "least"]) (mu := []) (n := 60) Fu ⟨rfl, rfl, rfl, by decide +kernel, rfl, by decide +kernel, by decide +kernel⟩ (Fu.binds (fun _ _ _ _ _ _ us hl => match us, hl with | [_, _, _], _ => rfl)) hm
theorem m11 (F : Facts w K mg) : MF P w K mg base c11 22 := by
  obtain ⟨f, fd, hm, Fu⟩ := F.d_is_relation
  exact (m10 F).addD (N := ["value"]) (ps := ["value"]) (mu := []) (n := 60) Fu ⟨rfl, rfl, rfl, by decide +kernel, rfl, by decide +kernel, by decide +kernel⟩ (Fu.binds (fun _ _ _ _ _ _ us hl => match us, hl with | [_], _ => rfl)) hm
theorem m12 (F : Facts w K mg) : MF P w K mg base c12 24 := by
  obtain ⟨f, fd, hm, Fu⟩ := F.d_is_row
  exact (m11 F).addD (N := ["value", "length", "part"]) (ps := ["value", "length"]) (mu := []) (n := 60) Fu ⟨rfl, rfl, rfl, by decide +kernel, rfl, by decide +kernel, by decide +kernel⟩ (Fu.binds (fun _ _ _ _ _ _ us hl => match us, hl with | [_, _], _ => rfl)) hm
theorem m13 (F : Facts w K mg) : MF P w K mg base c13 26 := by
  obtain ⟨f, fd, hm, Fu⟩ := F.d_is_sum
  exact (m12 F).addD (N := ["space", "parts", "terms", "relation", "number"]) (ps := ["space", "parts"]) (mu := []) (n := 60) Fu ⟨rfl, rfl, rfl, by decide +kernel, rfl, by decide +kernel, by decide +kernel⟩ (Fu.binds (fun _ _ _ _ _ _ us hl => match us, hl with | [_, _], _ => rfl)) hm
theorem m14 (F : Facts w K mg) : MF P w K mg base c14 28 := by
  obtain ⟨f, fd, hm, Fu⟩ := F.d_is_comparison
  exact (m13 F).addD (N := ["space", "parts"]) (ps := ["space", "parts"]) (mu := []) (n := 60) Fu ⟨rfl, rfl, rfl, by decide +kernel, rfl, by decide +kernel, by decide +kernel⟩ (Fu.binds (fun _ _ _ _ _ _ us hl => match us, hl with | [_, _], _ => rfl)) hm
theorem m15 (F : Facts w K mg) : MF P w K mg base c15 30 := by
  obtain ⟨f, fd, hm, Fu⟩ := F.d_is_table
  exact (m14 F).addD (N := ["space", "parts", "names", "rows", "row"]) (ps := ["space", "parts"]) (mu := []) (n := 60) Fu ⟨rfl, rfl, rfl, by decide +kernel, rfl, by decide +kernel, by decide +kernel⟩ (Fu.binds (fun _ _ _ _ _ _ us hl => match us, hl with | [_, _], _ => rfl)) hm
theorem m16 (F : Facts w K mg) : MF P w K mg base c16 32 := by
  obtain ⟨f, fd, hm, Fu⟩ := F.d_is_count
  exact (m15 F).addD (N := ["space", "parts", "names", "values", "numbers"]) (ps := ["space", "parts"]) (mu := []) (n := 60) Fu ⟨rfl, rfl, rfl, by decide +kernel, rfl, by decide +kernel, by decide +kernel⟩ (Fu.binds (fun _ _ _ _ _ _ us hl => match us, hl with | [_, _], _ => rfl)) hm
theorem m17 (F : Facts w K mg) : MF P w K mg base c17 34 := by
  obtain ⟨f, fd, hm, Fu⟩ := F.d_is_element
  exact (m16 F).addD (N := ["space", "parts", "index", "names", "name"]) (ps := ["space", "parts"]) (mu := []) (n := 60) Fu ⟨rfl, rfl, rfl, by decide +kernel, rfl, by decide +kernel, by decide +kernel⟩ (Fu.binds (fun _ _ _ _ _ _ us hl => match us, hl with | [_, _], _ => rfl)) hm
theorem m18 (F : Facts w K mg) : MF P w K mg base c18 36 := by
  obtain ⟨f, fd, hm, Fu⟩ := F.d_is_or
  exact (m17 F).addD (N := ["space", "parts", "literals", "name", "_", "literal"]) (ps := ["space", "parts"]) (mu := []) (n := 60) Fu ⟨rfl, rfl, rfl, by decide +kernel, rfl, by decide +kernel, by decide +kernel⟩ (Fu.binds (fun _ _ _ _ _ _ us hl => match us, hl with | [_, _], _ => rfl)) hm
theorem m19 (F : Facts w K mg) : MF P w K mg base c19 38 := by
  obtain ⟨f, fd, hm, Fu⟩ := F.d_kind_of
  exact (m18 F).addD (N := ["value", "kind"]) (ps := ["value"]) (mu := []) (n := 60) Fu ⟨rfl, rfl, rfl, by decide +kernel, rfl, by decide +kernel, by decide +kernel⟩ (Fu.binds (fun _ _ _ _ _ _ us hl => match us, hl with | [_], _ => rfl)) hm
theorem m20 (F : Facts w K mg) : MF P w K mg base c20 40 := by
  obtain ⟨f, fd, hm, Fu⟩ := F.d_is_simple_rule
  exact (m19 F).addD (N := ["space", "value", "kind", "has_form"]) (ps := ["space", "value"]) (mu := []) (n := 60) Fu ⟨rfl, rfl, rfl, by decide +kernel, rfl, by decide +kernel, by decide +kernel⟩ (Fu.binds (fun _ _ _ _ _ _ us hl => match us, hl with | [_, _], _ => rfl)) hm
theorem m21 (F : Facts w K mg) : MF P w K mg base c21 42 := by
  obtain ⟨f, fd, hm, Fu⟩ := F.d_is_conditional
  exact (m20 F).addD (N := ["space", "value"]) (ps := ["space", "value"]) (mu := []) (n := 60) Fu ⟨rfl, rfl, rfl, by decide +kernel, rfl, by decide +kernel, by decide +kernel⟩ (Fu.binds (fun _ _ _ _ _ _ us hl => match us, hl with | [_, _], _ => rfl)) hm
theorem m22 (F : Facts w K mg) : MF P w K mg base c22 44 := by
  obtain ⟨f, fd, hm, Fu⟩ := F.d_check_rule
  exact (m21 F).addD (N := ["space", "rule"]) (ps := ["space", "rule"]) (mu := []) (n := 60) Fu ⟨rfl, rfl, rfl, by decide +kernel, rfl, by decide +kernel, by decide +kernel⟩ (Fu.binds (fun _ _ _ _ _ _ us hl => match us, hl with | [_, _], _ => rfl)) hm
theorem m23 (F : Facts w K mg) : MF P w K mg base c23 46 := by
  obtain ⟨f, fd, hm, Fu⟩ := F.d_is_name
  exact (m22 F).addD (N := ["value", "sign"]) (ps := ["value"]) (mu := []) (n := 60) Fu ⟨rfl, rfl, rfl, by decide +kernel, rfl, by decide +kernel, by decide +kernel⟩ (Fu.binds (fun _ _ _ _ _ _ us hl => match us, hl with | [_], _ => rfl)) hm
theorem m24 (F : Facts w K mg) : MF P w K mg base c24 48 := by
  obtain ⟨f, fd, hm, Fu⟩ := F.d_is_variable
  exact (m23 F).addD (N := ["value", "name", "values"]) (ps := ["value"]) (mu := []) (n := 60) Fu ⟨rfl, rfl, rfl, by decide +kernel, rfl, by decide +kernel, by decide +kernel⟩ (Fu.binds (fun _ _ _ _ _ _ us hl => match us, hl with | [_], _ => rfl)) hm
theorem m25 (F : Facts w K mg) : MF P w K mg base c25 50 := by
  obtain ⟨f, fd, hm, Fu⟩ := F.d_are_variables
  exact (m24 F).addD (N := ["value", "name", "_", "part"]) (ps := ["value"]) (mu := []) (n := 60) Fu ⟨rfl, rfl, rfl, by decide +kernel, rfl, by decide +kernel, by decide +kernel⟩ (Fu.binds (fun _ _ _ _ _ _ us hl => match us, hl with | [_], _ => rfl)) hm
theorem mS (F : Facts w K mg) : MF P w K mg base cS 52 := by
  obtain ⟨C, h1, h2, h3, h4, _, _, _, _, f, fd, hM, Fu⟩ := F.sp
  have ar : ∀ ds w r, fS ds w = some r → ds.length = 1 := fun ds w r h => by
    unfold fS at h
    split at h
    · assumption
    · cases h
  have ok := init_ok (P := P) (w := w) (mg := mg) (base := base) (N := ["self", "variables", "name", "_"]) (ps := ["variables"]) (n := 60) (F := fS) (t := iT) (x1 := iX1) (x2 := iX2) (f1 := "variables") (f2 := "names") (cn := "Space") Fu ⟨rfl, rfl, rfl, by decide +kernel, rfl, by decide +kernel, by decide +kernel⟩ (m25 F) h1 h2 h3 h4 (by decide +kernel) (by decide +kernel) rfl (by decide +kernel) (by decide +kernel) (by decide +kernel) (by decide +kernel) (F.bi "tuple" (by decide +kernel))
    (fun ds w r h => by
      have hl := ar ds w r h
      refine ⟨hl, ?_⟩
      unfold fS at h
      rw [if_pos hl] at h
      split at h
      · rename_i e1 w1 he
        split at h
        · rename_i cc e2 w2 hr
          cases h
          exact ⟨true, e1, w1, he, .inl ⟨rfl, _, _, _, hr, rfl⟩⟩
        · cases h
      · rename_i e1 w1 he
        split at h
        · rename_i d1 e2 w2 h1
          split at h
          · rename_i xs e3 w3 h2
            cases h
            exact ⟨false, e1, w1, he, .inr ⟨rfl, _, _, _, _, _, _, h1, h2, rfl⟩⟩
          · cases h
        · cases h
      · cases h)
  exact (m25 F).addK (ps := ["variables"]) ok hM h1 (Fu.binds (fun _ _ _ _ _ _ us hl => match us, hl with | [_, _], _ => rfl)) ar
theorem mC (F : Facts w K mg) : MF P w K mg base cC 54 := by
  obtain ⟨f, fd, hm, Fu⟩ := F.d_law_cell
  exact (mS F).addD (N := ["script", "k"]) (ps := ["script", "k"]) (mu := []) (n := 60) Fu ⟨rfl, rfl, rfl, by decide +kernel, rfl, by decide +kernel, by decide +kernel⟩ (Fu.binds (fun _ _ _ _ _ _ us hl => match us, hl with | [_, _], _ => rfl)) hm
theorem mB (F : Facts w K mg) : MF P w K mg base cB 56 := by
  obtain ⟨f, fd, hm, Fu⟩ := F.d_law_is_bad
  have ar : ∀ ds w r, fB ds w = some r → ds.length = 2 := fun ds w r h => by
    unfold fB at h
    split at h
    · assumption
    · cases h
  have ok := bad_ok (P := P) (w := w) (mg := mg) (base := base) (N := ["space", "rule", "e"]) (ps := ["space", "rule"]) (n := 60) (i := 2) (F := fB) (x1 := bX) (xe := "BadRule") (ye := "ClashError") (en := "e") Fu ⟨rfl, rfl, rfl, by decide +kernel, rfl, by decide +kernel, by decide +kernel⟩ (mC F) F.er rfl (by decide +kernel) rfl (by decide +kernel) (by decide +kernel) (by decide +kernel) (by decide +kernel) (F.bi "isinstance" (by decide +kernel)) (by decide +kernel) (by decide +kernel) (by decide +kernel)
    (fun ds w r h => by
      have hl := ar ds w r h
      refine ⟨hl, ?_⟩
      unfold fB at h
      rw [if_pos hl] at h
      split at h
      · rename_i d e1 w1 he
        cases h
        exact .inl ⟨_, _, _, he, rfl⟩
      · rename_i cc e1 w1 he
        split at h
        · rename_i hc
          cases h
          subst hc
          exact .inr ⟨_, _, he, rfl⟩
        · cases h
      · cases h)
  exact (mC F).addF (ps := ["space", "rule"]) ok hm Fu.kp (Fu.binds (fun _ _ _ _ _ _ us hl => match us, hl with | [_, _], _ => rfl)) ar
theorem mW (F : Facts w K mg) : MF P w K mg base cW 58 := by
  obtain ⟨f, fd, hm, Fu⟩ := F.d_law_wrong
  exact (mB F).addD (N := ["plain", "inner", "k"]) (ps := []) (mu := []) (n := 60) Fu ⟨rfl, rfl, rfl, by decide +kernel, rfl, by decide +kernel, by decide +kernel⟩ (Fu.binds (fun _ _ _ _ _ _ us hl => match us, hl with | [], _ => rfl)) hm
def spLaw (K : PySem.W.Frag) : Sp := fun vs H Q _ => ∃ (a : Addr) (ns : List Int), vs = [.ref a] ∧ SqL K H a (ns.map V.int) ∧ ns.length ≤ 63 ∧ ∀ H', Q (.bl true) H'
theorem law_ok (F : Facts w K mg) {fa : Addr} (hfa : mg "law" = some (.ref fa)) : ∃ fd : FuncData, (∀ (s : Shared) (u : Value), BindsTo s fd ⟨[u], []⟩ [("script", u)]) ∧ ∀ base : Heap, FnOk P w K mg base (L2.CX P w) 60 fa fd ["script"] (spLaw K) := by
  obtain ⟨f, fd, hm, Fu⟩ := F.d_law
  have e := hfa.symm.trans hm
  cases e
  refine ⟨fd, fun s u => ?_, fun base => ?_⟩
  · obtain ⟨oc, od, kV, dc, pm, an, cd, ct, sl, rfl, _, _⟩ := Fu.ex
    exact .of_eq rfl
  · have ok := def_ok (P := P) (w := w) (mg := mg) (base := base) (N := ["script", "space", "wrong", "right", "one", "good"]) (ps := ["script"]) (n := 60) (mu := []) (F := fL) Fu ⟨rfl, rfl, rfl, by decide +kernel, rfl, by decide +kernel, by decide +kernel⟩ (mW F) fun ds w r h => h
    refine ok.imp fun vs H Q E hs => ?_
    obtain ⟨a, ns, rfl, hq, _, q⟩ := hs
    have hv : (⟨none, fun _ => False, H⟩ : Wl).vis = H := funext fun b => vis_in (W := ⟨none, fun _ => False, H⟩) (fun z => by
      rcases z with z | ⟨x, y, z⟩
      · exact z
      · cases z)
    refine ⟨⟨none, fun _ => False, H⟩, none, [.scr ns], .ok (.bl true) none, rfl, fun _ z => z.elim, rfl, .cons (.scr ?_) .nil, rfl, law_true ns, ?_⟩
    · show SqL K (⟨none, fun _ => False, H⟩ : Wl).vis a (ns.map V.int)
      rw [hv]
      exact hq
    · intro v W' _ _ _ rv
      cases rv
      exact q W'.h
end
end K04
end
namespace K04
open PySem PySem.Spec PyProof.Rows L2 Pv
section
variable {K : PySem.W.Frag} {h : Heap}
abbrev DefIn (_ : K.In h) (mg : Str → Option Value) (x : Str) (st : Stmt) : Prop := DefAt K mg x st
abbrev ExIn (_ : K.In h) (mg : Str → Option Value) (x : Str) : Prop := ExAt K mg x
abbrev ErrIn (_ : K.In h) (mg : Str → Option Value) (x y : Str) : Prop := ErrOk K mg x y
abbrev TupIn (_ : K.In h) (mg : Str → Option Value) (x : Str) (ys : List Str) : Prop := TupAt K mg x ys
abbrev TabIn (_ : K.In h) (w : World) (mg : Str → Option Value) (x : Str) (t : List (Str × Str)) : Prop := ∃ a, mg x = some (.ref a) ∧ TabOk w K mg a t
abbrev RefIn (_ : K.In h) (mg : Str → Option Value) (x : Str) : Prop := ∃ q, mg x = some (.ref q) ∧ PySem.W.nsIn K mainGlobals x = some (some (.ref q))
theorem refIn {mg : Str → Option Value} {x : Str} {q : Addr} (X : K.In h) (G : h.Ns mainGlobals mg) (a : PySem.W.nsIn K mainGlobals x = some (some (.ref q))) : RefIn X mg x := ⟨q, PySem.W.mg_of X G a, a⟩
theorem mems {mg : Str → Option Value} {q0 q1 q2 q3 q4 q5 q6 q7 : Addr} (X : K.In h) (G : h.Ns mainGlobals mg) (a0 : PySem.W.nsIn K mainGlobals "is_literal" = some (some (.ref q0))) (a1 : PySem.W.nsIn K mainGlobals "_is_sum" = some (some (.ref q1))) (a2 : PySem.W.nsIn K mainGlobals "_is_comparison" = some (some (.ref q2)))
    (a3 : PySem.W.nsIn K mainGlobals "_is_comparison" = some (some (.ref q3))) (a4 : PySem.W.nsIn K mainGlobals "_is_table" = some (some (.ref q4))) (a5 : PySem.W.nsIn K mainGlobals "_is_count" = some (some (.ref q5))) (a6 : PySem.W.nsIn K mainGlobals "_is_element" = some (some (.ref q6))) (a7 : PySem.W.nsIn K mainGlobals "_is_or" = some (some (.ref q7))) :
    ∀ p ∈ forms.zip [q0, q1, q2, q3, q4, q5, q6, q7], mg p.1.2 = some (.ref p.2) := by
  intro p hp
  have hp : p ∈ [((("in" : Str), ("is_literal" : Str)), q0), (("sum", "_is_sum"), q1), (("different", "_is_comparison"), q2), (("equal", "_is_comparison"), q3), (("table", "_is_table"), q4), (("count", "_is_count"), q5), (("element", "_is_element"), q6), (("or", "_is_or"), q7)] := hp
  simp only [List.mem_cons, List.not_mem_nil, or_false] at hp
  rcases hp with rfl | rfl | rfl | rfl | rfl | rfl | rfl | rfl
  · exact PySem.W.mg_of X G a0
  · exact PySem.W.mg_of X G a1
  · exact PySem.W.mg_of X G a2
  · exact PySem.W.mg_of X G a3
  · exact PySem.W.mg_of X G a4
  · exact PySem.W.mg_of X G a5
  · exact PySem.W.mg_of X G a6
  · exact PySem.W.mg_of X G a7
end
theorem spAt {w : World} {K : PySem.W.Frag} {mg : Str → Option Value} {h : Heap} {C f1 f2 : Addr} {od1 an1 od2 an2 : Option Addr} {sl1 sl2 : Array (Option Value)} {oc1 kV1 dc1 pm1 cd1 ct1 oc2 kV2 dc2 pm2 cd2 ct2 : Value} {ta tb : Tok} (X : K.In h) (G : h.Ns mainGlobals mg)
    (aC : PySem.W.nsIn K mainGlobals "Space" = some (some (.ref C))) (pg : PySem.W.plainGet K C Str.empty = true) (hd : PySem.W.hasDictIn K C = true) (po : PySem.W.plainOver K C = true) (sa : PySem.W.findIn K (.ref C) "__setattr__" = some (some (.builtin "object.__setattr__"))) (mk : PySem.W.makesIn K C = true) (kc : PySem.W.keepIn K (.ref C) = true)
    (nV : PySem.W.findIn K (.ref C) "variables" = some none) (nN : PySem.W.findIn K (.ref C) "names" = some none) (rd : PySem.W.readsIn K C (.type "type") = true) (ga : PySem.W.specialIn K (.ref C) "__getattribute__" = some (some (.builtin "type.__getattribute__")))
    (va : PySem.W.findCls K (.ref C) (.type "type") "MOST_VARIABLES" = some (.val (.int 6 ta))) (vb : PySem.W.findCls K (.ref C) (.type "type") "MOST_VALUES" = some (.val (.int 6 tb)))
    (a1 : PySem.W.findIn K (.ref C) "has_name" = some (some (.ref f1))) (i1 : PySem.W.isFn K (.ref f1) = true) (l1 : K.lookup f1 = some ⟨oc1, od1, .func (PySem.W.fnOf "has_name" "Space.has_name" (defArgs (inClass (top 39) 5)) (defBody (inClass (top 39) 5)) (defScope (inClass (top 39) 5)) .none kV1 dc1 pm1 an1 cd1 ct1), sl1⟩) (c1 : PySem.W.codeIn K cd1 "Space.has_name" = true) (k1 : PySem.W.keepIn K (.ref f1) = true)
    (a2 : PySem.W.findIn K (.ref C) "__init__" = some (some (.ref f2))) (i2 : PySem.W.isFn K (.ref f2) = true) (l2 : K.lookup f2 = some ⟨oc2, od2, .func (PySem.W.fnOf "__init__" "Space.__init__" (defArgs (inClass (top 39) 2)) (defBody (inClass (top 39) 2)) (defScope (inClass (top 39) 2)) .none kV2 dc2 pm2 an2 cd2 ct2), sl2⟩) (c2 : PySem.W.codeIn K cd2 "Space.__init__" = true) (k2 : PySem.W.keepIn K (.ref f2) = true) :
    ∃ C : Addr, mg "Space" = some (.ref C) ∧ Cls K C ∧ NoAttr K C "variables" ∧ NoAttr K C "names" ∧ ClX.CRead K C (.type "type") ∧ (∃ tk, ClX.CVal K C (.type "type") "MOST_VARIABLES" (.int 6) (.int 6 tk)) ∧ (∃ tk, ClX.CVal K C (.type "type") "MOST_VALUES" (.int 6) (.int 6 tk)) ∧
    (∃ f fd, Meth K C "has_name" f ∧ Fun K "has_name" "Space.has_name" (inClass (top 39) 5) f fd) ∧ ∃ f fd, Mk K C f ∧ Fun K "__init__" "Space.__init__" (inClass (top 39) 2) f fd :=
  ⟨C, PySem.W.mg_of X G aC, ⟨pg, hd, po, sa⟩, nV, nN, ⟨rd, ga⟩, ⟨ta, va, ta, rfl⟩, ⟨tb, vb, tb, rfl⟩, ⟨f1, _, ⟨a1, i1, k1⟩, fun_mk (st := inClass (top 39) 5) l1 c1 k1⟩, ⟨f2, _, ⟨mk, a2, i2, kc⟩, fun_mk (st := inClass (top 39) 2) l2 c2 k2⟩⟩
theorem walk {l : PySem.W.OpenLaw} {q : Program} {loose : List Str} {XP : (Str → Option Value) → Heap → Prop} {YP : World → Heap → Prop} {d : DefRec} {K : Params → PySem.W.Frag} (hn : l.most = some 63) (hdf : d.params.defaults = []) (hY : ∀ (w : World) (h : Heap), YP w h → (K w.params).In h)
    (F : ∀ (w : World) (mg : Str → Option Value) (fa : Addr) (h : Heap), (K w.params).In h → h.Ns mainGlobals mg → mg d.name = some (.ref fa) →
      ∃ fd : FuncData, (∀ (s : Shared) (u : Value), BindsTo s fd ⟨[u], []⟩ [("script", u)]) ∧ ∀ base : Heap, (K w.params).In base → base.Ns mainGlobals mg → FnOk l.prog w (K w.params) mg base (L2.CX l.prog w) 60 fa fd ["script"] (spLaw (K w.params))) :
    PySem.W.WalkO q loose XP YP l.row.toRowW d [] (fun f vs => PySem.call f vs) :=
  L2.walk_of (n := 63) (k := 60) (x := "script") (CX := fun w => L2.CX l.prog w) (sp := fun w => spLaw (K w.params)) hn (by decide) hdf ⟨rfl, by decide, by decide⟩ hY F (fun _ _ a ns hl _ hS => ⟨a, ns, rfl, hS, hl, fun _ => rfl⟩) fun w H s e s' z => by
    obtain ⟨_, _, _, _, _, _, _, _, _, _, _, _, y⟩ := z
    exact y.elim
end K04
open PySem PySem.W PyProof.Rows in
set_option maxRecDepth 100000 in
set_option maxHeartbeats 0 in
theorem PySem.Challenge.cw_clashproved_k04_no_rules_holds : PySem.Challenge.rw_clashproved_k04_no_rules.Holds := by
  w_on; o_law; k_head; (case hw => w_witness2)
  k_fill
  refine K04.walk (l := PySem.Challenge.rw_clashproved_k04_no_rules) rfl rfl (fun w h Y => PySem.W.kIn_of Y) ?F
  case F =>
    intro w mg fa h KX G hmg
    have d_is_number : K04.DefIn KX mg "is_number" (K04.top 7) := by
      refine' Pv.defAt KX G ?z1a ?z1l ?z1c ?z1k
      (case z1a => k_is)
      (case z1l => k_is)
      (case z1c => k_is)
      (case z1k => k_is)
    have d_is_tuple : K04.DefIn KX mg "is_tuple" (K04.top 8) := by
      refine' Pv.defAt KX G ?z2a ?z2l ?z2c ?z2k
      (case z2a => k_is)
      (case z2l => k_is)
      (case z2c => k_is)
      (case z2k => k_is)
    have d_are_values : K04.DefIn KX mg "are_values" (K04.top 10) := by
      refine' Pv.defAt KX G ?z3a ?z3l ?z3c ?z3k
      (case z3a => k_is)
      (case z3l => k_is)
      (case z3c => k_is)
      (case z3k => k_is)
    have d_none_twice : K04.DefIn KX mg "none_twice" (K04.top 11) := by
      refine' Pv.defAt KX G ?z4a ?z4l ?z4c ?z4k
      (case z4a => k_is)
      (case z4l => k_is)
      (case z4c => k_is)
      (case z4k => k_is)
    have d_is_literal : K04.DefIn KX mg "is_literal" (K04.top 18) := by
      refine' Pv.defAt KX G ?z5a ?z5l ?z5c ?z5k
      (case z5a => k_is)
      (case z5l => k_is)
      (case z5c => k_is)
      (case z5k => k_is)
    have d_is_term : K04.DefIn KX mg "_is_term" (K04.top 20) := by
      refine' Pv.defAt KX G ?z6a ?z6l ?z6c ?z6k
      (case z6a => k_is)
      (case z6l => k_is)
      (case z6c => k_is)
      (case z6k => k_is)
    have d_are_terms : K04.DefIn KX mg "are_terms" (K04.top 19) := by
      refine' Pv.defAt KX G ?z7a ?z7l ?z7c ?z7k
      (case z7a => k_is)
      (case z7l => k_is)
      (case z7c => k_is)
      (case z7k => k_is)
    have d_are_names : K04.DefIn KX mg "_are_names" (K04.top 21) := by
      refine' Pv.defAt KX G ?z8a ?z8l ?z8c ?z8k
      (case z8a => k_is)
      (case z8l => k_is)
      (case z8c => k_is)
      (case z8k => k_is)
    have d_are_different_names : K04.DefIn KX mg "_are_different_names" (K04.top 22) := by
      refine' Pv.defAt KX G ?z9a ?z9l ?z9c ?z9k
      (case z9a => k_is)
      (case z9l => k_is)
      (case z9c => k_is)
      (case z9k => k_is)
    have d_is_relation : K04.DefIn KX mg "_is_relation" (K04.top 23) := by
      refine' Pv.defAt KX G ?z10a ?z10l ?z10c ?z10k
      (case z10a => k_is)
      (case z10l => k_is)
      (case z10c => k_is)
      (case z10k => k_is)
    have d_is_row : K04.DefIn KX mg "_is_row" (K04.top 24) := by
      refine' Pv.defAt KX G ?z11a ?z11l ?z11c ?z11k
      (case z11a => k_is)
      (case z11l => k_is)
      (case z11c => k_is)
      (case z11k => k_is)
    have d_is_sum : K04.DefIn KX mg "_is_sum" (K04.top 25) := by
      refine' Pv.defAt KX G ?z12a ?z12l ?z12c ?z12k
      (case z12a => k_is)
      (case z12l => k_is)
      (case z12c => k_is)
      (case z12k => k_is)
    have d_is_comparison : K04.DefIn KX mg "_is_comparison" (K04.top 26) := by
      refine' Pv.defAt KX G ?z13a ?z13l ?z13c ?z13k
      (case z13a => k_is)
      (case z13l => k_is)
      (case z13c => k_is)
      (case z13k => k_is)
    have d_is_table : K04.DefIn KX mg "_is_table" (K04.top 27) := by
      refine' Pv.defAt KX G ?z14a ?z14l ?z14c ?z14k
      (case z14a => k_is)
      (case z14l => k_is)
      (case z14c => k_is)
      (case z14k => k_is)
    have d_is_count : K04.DefIn KX mg "_is_count" (K04.top 28) := by
      refine' Pv.defAt KX G ?z15a ?z15l ?z15c ?z15k
      (case z15a => k_is)
      (case z15l => k_is)
      (case z15c => k_is)
      (case z15k => k_is)
    have d_is_element : K04.DefIn KX mg "_is_element" (K04.top 29) := by
      refine' Pv.defAt KX G ?z16a ?z16l ?z16c ?z16k
      (case z16a => k_is)
      (case z16l => k_is)
      (case z16c => k_is)
      (case z16k => k_is)
    have d_is_or : K04.DefIn KX mg "_is_or" (K04.top 30) := by
      refine' Pv.defAt KX G ?z17a ?z17l ?z17c ?z17k
      (case z17a => k_is)
      (case z17l => k_is)
      (case z17c => k_is)
      (case z17k => k_is)
    have d_kind_of : K04.DefIn KX mg "kind_of" (K04.top 9) := by
      refine' Pv.defAt KX G ?z18a ?z18l ?z18c ?z18k
      (case z18a => k_is)
      (case z18l => k_is)
      (case z18c => k_is)
      (case z18k => k_is)
    have d_is_simple_rule : K04.DefIn KX mg "_is_simple_rule" (K04.top 33) := by
      refine' Pv.defAt KX G ?z19a ?z19l ?z19c ?z19k
      (case z19a => k_is)
      (case z19l => k_is)
      (case z19c => k_is)
      (case z19k => k_is)
    have d_is_conditional : K04.DefIn KX mg "_is_conditional" (K04.top 34) := by
      refine' Pv.defAt KX G ?z20a ?z20l ?z20c ?z20k
      (case z20a => k_is)
      (case z20l => k_is)
      (case z20c => k_is)
      (case z20k => k_is)
    have d_check_rule : K04.DefIn KX mg "check_rule" (K04.top 32) := by
      refine' Pv.defAt KX G ?z21a ?z21l ?z21c ?z21k
      (case z21a => k_is)
      (case z21l => k_is)
      (case z21c => k_is)
      (case z21k => k_is)
    have d_is_name : K04.DefIn KX mg "_is_name" (K04.top 42) := by
      refine' Pv.defAt KX G ?z22a ?z22l ?z22c ?z22k
      (case z22a => k_is)
      (case z22l => k_is)
      (case z22c => k_is)
      (case z22k => k_is)
    have d_is_variable : K04.DefIn KX mg "_is_variable" (K04.top 41) := by
      refine' Pv.defAt KX G ?z23a ?z23l ?z23c ?z23k
      (case z23a => k_is)
      (case z23l => k_is)
      (case z23c => k_is)
      (case z23k => k_is)
    have d_are_variables : K04.DefIn KX mg "_are_variables" (K04.top 40) := by
      refine' Pv.defAt KX G ?z24a ?z24l ?z24c ?z24k
      (case z24a => k_is)
      (case z24l => k_is)
      (case z24c => k_is)
      (case z24k => k_is)
    have d_law_cell : K04.DefIn KX mg "_law_cell" (K04.top 44) := by
      refine' Pv.defAt KX G ?z25a ?z25l ?z25c ?z25k
      (case z25a => k_is)
      (case z25l => k_is)
      (case z25c => k_is)
      (case z25k => k_is)
    have d_law_is_bad : K04.DefIn KX mg "_law_is_bad" (K04.top 45) := by
      refine' Pv.defAt KX G ?z26a ?z26l ?z26c ?z26k
      (case z26a => k_is)
      (case z26l => k_is)
      (case z26c => k_is)
      (case z26k => k_is)
    have d_law_wrong : K04.DefIn KX mg "_law_wrong" (K04.top 46) := by
      refine' Pv.defAt KX G ?z27a ?z27l ?z27c ?z27k
      (case z27a => k_is)
      (case z27l => k_is)
      (case z27c => k_is)
      (case z27k => k_is)
    have d_law : K04.DefIn KX mg "law" (K04.top 47) := by
      refine' Pv.defAt KX G ?z28a ?z28l ?z28c ?z28k
      (case z28a => k_is)
      (case z28l => k_is)
      (case z28c => k_is)
      (case z28k => k_is)
    have sp := by
      refine' K04.spAt (w := w) KX G ?zsaC ?zspg ?zshd ?zspo ?zssa ?zsmk ?zskc ?zsnV ?zsnN ?zsrd ?zsga ?zsva ?zsvb ?zsa1 ?zsi1 ?zsl1 ?zsc1 ?zsk1 ?zsa2 ?zsi2 ?zsl2 ?zsc2 ?zsk2
      (case zsaC => k_is)
      (case zspg => k_is)
      (case zshd => k_is)
      (case zspo => k_is)
      (case zssa => k_is)
      (case zsmk => k_is)
      (case zskc => k_is)
      (case zsnV => k_is)
      (case zsnN => k_is)
      (case zsrd => k_is)
      (case zsga => k_is)
      (case zsva => k_is)
      (case zsvb => k_is)
      (case zsa1 => k_is)
      (case zsi1 => k_is)
      (case zsl1 => k_is)
      (case zsc1 => k_is)
      (case zsk1 => k_is)
      (case zsa2 => k_is)
      (case zsi2 => k_is)
      (case zsl2 => k_is)
      (case zsc2 => k_is)
      (case zsk2 => k_is)
    have bs : K04.ExIn KX mg "BadSpace" := by
      refine' Pv.exAt KX G ?z29a ?z29q ?z29k ?z29s ?z29t
      (case z29a => k_is)
      (case z29q => k_exc)
      (case z29k => k_is)
      (case z29s => k_is)
      (case z29t => k_is)
    have br : K04.ExIn KX mg "BadRule" := by
      refine' Pv.exAt KX G ?z30a ?z30q ?z30k ?z30s ?z30t
      (case z30a => k_is)
      (case z30q => k_exc)
      (case z30k => k_is)
      (case z30s => k_is)
      (case z30t => k_is)
    have er : K04.ErrIn KX mg "BadRule" "ClashError" := by
      refine' Pv.errOk KX G ?z31a ?z31a2 ?z31hg ?z31hk ?z31hs ?z31hd ?z31ha ?z31hn ?z31ht ?z31hm ?z31ty ?z31ss ?z31hd2 ?z31ty2 ?z31sd ?z31ne
      (case z31a => k_is)
      (case z31a2 => k_is)
      (case z31hg => k_is)
      (case z31hk => k_is)
      (case z31hs => k_is)
      (case z31hd => k_is)
      (case z31ha => k_is)
      (case z31hn => k_is)
      (case z31ht => k_is)
      (case z31hm => k_is)
      (case z31ty => k_is)
      (case z31ss => k_is)
      (case z31hd2 => k_is)
      (case z31ty2 => k_is)
      (case z31sd => k_is)
      (case z31ne => decide)
    have k_GREATEST_VALUE : Pv.ConAt mg "GREATEST_VALUE" (.int 15) := by
      refine' Pv.conInt KX G ?z32a
      (case z32a => k_is)
    have k_MOST_NAMES : Pv.ConAt mg "MOST_NAMES" (.int 6) := by
      refine' Pv.conInt KX G ?z33a
      (case z33a => k_is)
    have k_MOST_ROWS : Pv.ConAt mg "MOST_ROWS" (.int 20) := by
      refine' Pv.conInt KX G ?z34a
      (case z34a => k_is)
    have k_GREATEST_FACTOR : Pv.ConAt mg "GREATEST_FACTOR" (.int 9) := by
      refine' Pv.conInt KX G ?z35a
      (case z35a => k_is)
    have k_GREATEST_SUM : Pv.ConAt mg "GREATEST_SUM" (.int 1100) := by
      refine' Pv.conInt KX G ?z36a
      (case z36a => k_is)
    have k_LONGEST_NAME : Pv.ConAt mg "LONGEST_NAME" (.int 8) := by
      refine' Pv.conInt KX G ?z37a
      (case z37a => k_is)
    have k_LETTERS : Pv.ConAt mg "LETTERS" (.str "abcdefghijklmnopqrstuvwxyz") := by
      refine' Pv.conStr KX G ?z38a
      (case z38a => k_is)
    have k_LETTERS_AND_DIGITS : Pv.ConAt mg "LETTERS_AND_DIGITS" (.str "abcdefghijklmnopqrstuvwxyz0123456789") := by
      refine' Pv.conStr KX G ?z39a
      (case z39a => k_is)
    have k_RELATIONS : K04.TupIn KX mg "RELATIONS" ["=", "<=", ">=", "!="] := by
      refine' Pv.tupAt _ KX G ?z40a ?z40l ?z40z ?z40v
      (case z40a => k_is)
      (case z40l => k_is)
      (case z40z => decide)
      (case z40v => rfl)
    have k_FORMS : K04.TabIn KX w mg "FORMS" K04.forms := by
      refine' Pv.tabAt (fs := [_, _, _, _, _, _, _, _]) KX G ?z41a ?z41l ?z41k ?z41w ?z41e ?z41n ?z41m
      (case z41a => k_is)
      (case z41l => k_is)
      (case z41k => exact ⟨⟨_, _, rfl, rfl⟩, ⟨_, _, rfl, rfl⟩, ⟨_, _, rfl, rfl⟩, ⟨_, _, rfl, rfl⟩, ⟨_, _, rfl, rfl⟩, ⟨_, _, rfl, rfl⟩, ⟨_, _, rfl, rfl⟩, ⟨_, _, rfl, rfl⟩, trivial⟩)
      (case z41w => decide)
      (case z41e => rfl)
      (case z41n => rfl)
      (case z41m => refine' K04.mems KX G ?m0 ?m1 ?m2 ?m3 ?m4 ?m5 ?m6 ?m7; (case m0 => k_is); (case m1 => k_is); (case m2 => k_is); (case m3 => k_is); (case m4 => k_is); (case m5 => k_is); (case m6 => k_is); (case m7 => k_is))
    have b_len : mg "len" = none := by
      refine' PySem.W.mg_none_of KX G ?a
      (case a => k_is)
    have b_int : mg "int" = none := by
      refine' PySem.W.mg_none_of KX G ?a
      (case a => k_is)
    have b_type : mg "type" = none := by
      refine' PySem.W.mg_none_of KX G ?a
      (case a => k_is)
    have b_tuple : mg "tuple" = none := by
      refine' PySem.W.mg_none_of KX G ?a
      (case a => k_is)
    have b_all : mg "all" = none := by
      refine' PySem.W.mg_none_of KX G ?a
      (case a => k_is)
    have b_set : mg "set" = none := by
      refine' PySem.W.mg_none_of KX G ?a
      (case a => k_is)
    have b_sorted : mg "sorted" = none := by
      refine' PySem.W.mg_none_of KX G ?a
      (case a => k_is)
    have b_str : mg "str" = none := by
      refine' PySem.W.mg_none_of KX G ?a
      (case a => k_is)
    have b_isinstance : mg "isinstance" = none := by
      refine' PySem.W.mg_none_of KX G ?a
      (case a => k_is)
    have b_range : mg "range" = none := by
      refine' PySem.W.mg_none_of KX G ?a
      (case a => k_is)
    have bi : ∀ x ∈ (["len", "int", "type", "tuple", "all", "set", "sorted", "str", "isinstance", "range"] : List PySem.Str), mg x = none := by
      intro x hx
      rcases List.mem_cons.mp hx with e | hx
      · rw [e]; exact b_len
      rcases List.mem_cons.mp hx with e | hx
      · rw [e]; exact b_int
      rcases List.mem_cons.mp hx with e | hx
      · rw [e]; exact b_type
      rcases List.mem_cons.mp hx with e | hx
      · rw [e]; exact b_tuple
      rcases List.mem_cons.mp hx with e | hx
      · rw [e]; exact b_all
      rcases List.mem_cons.mp hx with e | hx
      · rw [e]; exact b_set
      rcases List.mem_cons.mp hx with e | hx
      · rw [e]; exact b_sorted
      rcases List.mem_cons.mp hx with e | hx
      · rw [e]; exact b_str
      rcases List.mem_cons.mp hx with e | hx
      · rw [e]; exact b_isinstance
      rcases List.mem_cons.mp hx with e | hx
      · rw [e]; exact b_range
      cases hx
    obtain ⟨fd, h1, h2⟩ := K04.law_ok (P := PySem.Challenge.rw_clashproved_k04_no_rules.prog) (K04.Facts.mk d_is_number d_is_tuple d_are_values d_none_twice d_is_literal d_is_term d_are_terms d_are_names d_are_different_names d_is_relation d_is_row d_is_sum d_is_comparison d_is_table d_is_count d_is_element d_is_or d_kind_of d_is_simple_rule d_is_conditional d_check_rule d_is_name d_is_variable d_are_variables d_law_cell d_law_is_bad d_law_wrong d_law sp bs br er k_GREATEST_VALUE k_MOST_NAMES k_MOST_ROWS k_GREATEST_FACTOR k_GREATEST_SUM k_LONGEST_NAME k_LETTERS k_LETTERS_AND_DIGITS k_RELATIONS k_FORMS bi) hmg
    exact ⟨fd, h1, fun base _ _ => h2 base⟩
