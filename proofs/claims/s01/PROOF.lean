import PyProof.Rows.All
import Wide.All
import OpenK.AllK
import Wide.FinOn
import PyProof.EqAt
import PyProof.EqKinds
import PyProof.TupleCall
import KE.BitLaws
import Open.SpecLaws
import KE.OsHead
import KE.OsGo
import KE.SpHead
import KE.OsShapes
import PySem.Challenge.RW_darkkeys_s01_answers
section
set_option Elab.async false
set_option linter.all false
set_option maxRecDepth 100000
/-! THE HAND LAYER, for ints, bools, texts, own classes, lists, tuples, dicts, comprehensions, walks over dicts, enumerate, zip, reversed, texts, calls, loops. Paste it whole ahead of your own text; what your proof does not reach may be deleted. -/
namespace L2
open PySem PySem.Spec PyProof.Rows
end L2
namespace L2
open PySem PySem.Spec PyProof.Rows
/-- a value, without the heap -/
inductive V where
  | non | bl (b : Bool) | int (i : Int) | str (x : Str) | byt (b : Array UInt8) | flt (b : UInt64) | ref (a : Addr) | ty (n : String)
  deriving DecidableEq
noncomputable def RelV : V → Value → Prop
  | .non, u => u = Value.none
  | .bl b, u => u = Value.bool b
  | .int i, u => ∃ t, u = Value.int i t
  | .str x, u => ∃ t, u = Value.str x t
  | .byt b, u => ∃ t, u = Value.bytes b t
  | .flt b, u => ∃ t, u = Value.float b t
  | .ref a, u => u = Value.ref a
  | .ty n, u => u = Value.type n
noncomputable abbrev Vals : List V → List Value → Prop := Paired RelV
theorem Vals.length {xs : List V} {us : List Value} (r : Vals xs us) : xs.length = us.length := Paired.length r
theorem Vals.get : ∀ {xs : List V} {us : List Value} {i : Nat} {x : V}, Vals xs us → xs[i]? = some x → ∃ u, us[i]? = some u ∧ RelV x u
  | _, _, _, _, .nil, e => by simp at e
  | _, _, 0, _, .cons r _, e => by simp at e; subst e; exact ⟨_, rfl, r⟩
  | _, _, i + 1, x, .cons _ t, e => by
    obtain ⟨u, h1, h2⟩ := Vals.get (i := i) (x := x) t (by simpa using e)
    exact ⟨u, by simpa using h1, h2⟩
theorem Vals.set {x : V} {u : Value} (r : RelV x u) : ∀ {xs : List V} {us : List Value} (i : Nat), Vals xs us → Vals (xs.set i x) (us.set i u)
  | _, _, _, .nil => .nil
  | _, _, 0, .cons _ t => .cons r t
  | _, _, i + 1, .cons q t => .cons q (Vals.set r i t)
theorem Vals.append {xs ys : List V} {us ws : List Value} (h : Vals xs us) (s : Vals ys ws) : Vals (xs ++ ys) (us ++ ws) := by
  induction h with
  | nil => exact s
  | cons r t ih => exact .cons r ih
theorem Vals.take : ∀ {xs : List V} {us : List Value} (n : Nat), Vals xs us → Vals (xs.take n) (us.take n)
  | _, _, 0, _ => .nil
  | _, _, _ + 1, .nil => .nil
  | _, _, n + 1, .cons r t => .cons r (Vals.take n t)
theorem Vals.drop : ∀ {xs : List V} {us : List Value} (n : Nat), Vals xs us → Vals (xs.drop n) (us.drop n)
  | _, _, 0, r => r
  | _, _, _ + 1, .nil => .nil
  | _, _, n + 1, .cons _ t => Vals.drop n t
noncomputable def RelO : Option V → Option Value → Prop
  | some v, some u => RelV v u
  | none, none => True
  | _, _ => False
/-- what stands at a tracked address -/
inductive HO where
  /-- a list -/
  | lst (xs : List V)
  /-- a tuple (never changes) -/
  | tup (xs : List V)
  /-- an instance of the class at C, its dict at dx, its attributes -/
  | ins (C dx : Addr) (fs : List (Str × V))
  /-- the dict of the instance at x -/
  | own (x : Addr)
  /-- a range object lo, lo + 1, .. below hi -/
  | rng (lo hi : Int)
  /-- a thing that is known to the object (the script; a dict while a loop walks it): read, never written while it is so -/
  | frz (o : Obj) (u : HO)
  /-- a code object's table -/
  | tbl (ps : Array Value)
  /-- any other thing, by what is true of its one object (a def of one's own: SetO a S n := HO.ext fun h => ..) -/
  | ext (φ : Heap → Prop)
noncomputable abbrev Hp := Addr → Option HO
noncomputable def upd (H : Hp) (a : Addr) (o : HO) : Hp := fun b => if b = a then some o else H b
theorem upd_same {H : Hp} {a : Addr} {o : HO} : upd H a o a = some o := by unfold upd; rw [if_pos rfl]
theorem upd_ne {H : Hp} {a b : Addr} {o : HO} (h : b ≠ a) : upd H a o b = H b := by unfold upd; rw [if_neg h]
/-- two objects of different content stand apart -/
theorem ne_of {H : Hp} {a b : Addr} {o u : HO} (h : H a = some o) (h' : H b = some u) (d : o ≠ u) : a ≠ b := by
  intro e; subst e; rw [h] at h'; exact d (Option.some.inj h')
theorem ne_of_none {H : Hp} {a b : Addr} {o : HO} (h : H a = some o) (h' : H b = none) : a ≠ b := by
  intro e; subst e; rw [h] at h'; cases h'
section
variable (P : Program) (w : World)
noncomputable def ObjOk (P : Program) (w : World) (H : Hp) (h : Heap) (a : Addr) : HO → Prop
  | .lst xs => xs.length ≤ sizeLine ∧ ∃ (its : List Value) (n : Nat), Vals xs its ∧ h.get? a = some { cls := .type "list", data := .seq its.toArray n }
  | .tup xs => xs.length ≤ sizeLine ∧ ∃ its : List Value, Vals xs its ∧ IsTup h a its.toArray
  | .ins C dx fs => H dx = some (.own a) ∧ fs.length ≤ 1000 ∧ dx ≠ a ∧ h.get? a = some (PySem.W.instObj C dx) ∧
      ∃ mA, h.Ns1 dx mA ∧ (∀ f, RelO (fs.lookup f) (mA f)) ∧ PySem.Within mA (fs.map (·.1))
  | .own _ => ∃ o, h.get? a = some o
  | .rng lo hi => ∃ t u v, h.get? a = some { cls := .type "range", data := .fields #[.int lo t, .int hi u, .int 1 v] }
  | .frz o u => h.get? a = some o ∧ ObjOk P w H h a u
  | .tbl ps => h.get? a = some { cls := .none, data := .fields ps }
  | .ext φ => φ h ∧ (∃ o, h.get? a = some o) ∧ ∀ h1 h2 : Heap, φ h1 → (∀ o, h1.get? a = some o → h2.get? a = some o) → φ h2
/-- the abstract heap is held -/
noncomputable def HOk (H : Hp) (h : Heap) : Prop := ∀ a o, H a = some o → ObjOk P w H h a o
end
section
variable {P : Program} {w : World} {H H' : Hp} {h h' : Heap} {a : Addr} {o : HO}
theorem ObjOk.lt (x : ObjOk P w H h a o) : a < h.objs.size := by
  cases o with
  | lst xs => obtain ⟨_, _, _, _, e⟩ := x; exact Heap.lt_size e
  | tup xs => obtain ⟨_, _, _, p⟩ := x; exact p.lt
  | ins C dx fs => obtain ⟨_, _, _, e, _⟩ := x; exact Heap.lt_size e
  | own y => obtain ⟨_, e⟩ := x; exact Heap.lt_size e
  | rng lo hi => obtain ⟨_, _, _, e⟩ := x; exact Heap.lt_size e
  | frz ob u => obtain ⟨e, _⟩ := x; exact Heap.lt_size e
  | tbl ps => exact Heap.lt_size (show h.get? a = some _ from x)
  | ext φ => obtain ⟨_, ⟨_, e⟩, _⟩ := x; exact Heap.lt_size e
theorem Paired.mapP {α β : Type} {F G : α → β → Prop} {l₁ : List α} {l₂ : List β} (h : Paired F l₁ l₂) (f : ∀ a b, F a b → G a b) : Paired G l₁ l₂ := by
  induction h with
  | nil => exact .nil
  | cons r t ih => exact .cons (f _ _ r) ih
/-- what an object's description leans on: its own object, its own dict, the tuples -/
theorem ObjOk.stay (x : ObjOk P w H h a o) (k : ∀ b u, (b = a ∨ H b = some (.own a)) → h.get? b = some u → h'.get? b = some u)
    (ho : ∀ b, H b = some (.own a) → H' b = some (.own a)) (ht : ∀ b xs, H b = some (.tup xs) → H' b = some (.tup xs)) : ObjOk P w H' h' a o := by
  induction o with
  | lst xs => obtain ⟨z, its, n, r, e⟩ := x; exact ⟨z, its, n, r, k _ _ (.inl rfl) e⟩
  | tup xs => obtain ⟨z, its, r, ob, e, c⟩ := x; exact ⟨z, its, r, ob, k _ _ (.inl rfl) e, c⟩
  | ins C dx fs =>
    obtain ⟨d, z, ne, e, mA, ⟨od, es, ep, e2, c⟩, r⟩ := x
    exact ⟨ho _ d, z, ne, k _ _ (.inl rfl) e, mA, ⟨od, es, ep, k _ _ (.inr d) e2, c⟩, r⟩
  | own y => obtain ⟨ob, e⟩ := x; exact ⟨ob, k _ _ (.inl rfl) e⟩
  | rng lo hi => obtain ⟨t, u, v, e⟩ := x; exact ⟨t, u, v, k _ _ (.inl rfl) e⟩
  | frz ob u ih => obtain ⟨e, q⟩ := x; exact ⟨k _ _ (.inl rfl) e, ih q⟩
  | tbl ps =>
    have e : h.get? a = some { cls := .none, data := .fields ps } := x
    show h'.get? a = some { cls := .none, data := .fields ps }
    exact k a _ (.inl rfl) e
  | ext φ => obtain ⟨p, ⟨o, e⟩, st⟩ := x; exact ⟨st _ _ p fun o q => k _ _ (.inl rfl) q, ⟨o, k _ _ (.inl rfl) e⟩, st⟩
theorem HOk.lt (x : HOk P w H h) (e : H a = some o) : a < h.objs.size := (x a o e).lt
theorem HOk.fresh (x : HOk P w H h) (e : h.objs.size ≤ a) : H a = none := by
  cases q : H a with
  | none => rfl
  | some u => exact absurd (Nat.lt_of_lt_of_le (x.lt q) e) (Nat.lt_irrefl _)
/-- every object of the heap is kept -/
theorem HOk.kept (x : HOk P w H h) (k : ∀ b u, h.get? b = some u → h'.get? b = some u) : HOk P w H h' := fun a o e =>
  (x a o e).stay (fun b u _ q => k b u q) (fun _ q => q) fun _ _ q => q
/-- a new object is laid and tracked -/
theorem HOk.laid (x : HOk P w H h) (k : ∀ b u, h.get? b = some u → h'.get? b = some u) (hp : h.objs.size ≤ a) (new : ObjOk P w (upd H a o) h' a o) : HOk P w (upd H a o) h' := fun b u e => by
  have hn := x.fresh hp
  by_cases hb : b = a
  · subst hb; rw [upd_same] at e; cases e; exact new
  · rw [upd_ne hb] at e
    exact (x b u e).stay (fun c v _ q => k c v q) (fun c q => by rw [upd_ne (ne_of_none q hn)]; exact q) fun c xs q => by rw [upd_ne (ne_of_none q hn)]; exact q
end
/-- what may be read as u: it is u, or a known u -/
noncomputable def Rd (H : Hp) (a : Addr) (u : HO) : Prop := H a = some u ∨ ∃ o, H a = some (.frz o u)
theorem Rd.ok {P : Program} {w : World} {H : Hp} {h : Heap} {a : Addr} {u : HO} (r : Rd H a u) (x : HOk P w H h) : ObjOk P w H h a u := by
  rcases r with r | ⟨o, r⟩
  · exact x a u r
  · obtain ⟨_, q⟩ := x a _ r
    exact q
/-- what may be written -/
noncomputable def Mut : Option HO → Prop
  | some (.lst _) => True
  | some (.ins _ _ _) => True
  | some (.ext _) => True
  | _ => False
section
variable {P : Program} {w : World} {H : Hp} {h h' : Heap} {x e : Addr} {o' : HO}
/-- the object at e is changed: x itself, or the dict of the instance x -/
theorem HOk.write (ok : HOk P w H h) (mu : Mut (H x)) (he : e = x ∨ H e = some (.own x)) (k : ∀ b u, b ≠ e → h.get? b = some u → h'.get? b = some u) (heo : ∃ u, h'.get? e = some u)
    (new : ObjOk P w (upd H x o') h' x o') : HOk P w (upd H x o') h' := fun b u q => by
  have nown : ∀ c y, H c = some (.own y) → c ≠ x := fun c y r z => by subst z; rw [r] at mu; exact mu
  have ntup : ∀ c xs, H c = some (.tup xs) → c ≠ x := fun c xs r z => by subst z; rw [r] at mu; exact mu
  by_cases hb : b = x
  · subst hb; rw [upd_same] at q; cases q; exact new
  · rw [upd_ne hb] at q
    by_cases hbe : b = e
    · have q' : H b = some (.own x) := by
        rcases he with z | z
        · exact absurd (hbe.trans z) hb
        · rw [hbe]; exact z
      rw [q] at q'; cases q'
      obtain ⟨v, hv⟩ := heo
      exact ⟨v, by rw [hbe]; exact hv⟩
    · refine (ok b u q).stay (fun c v hc r => k c v ?_ r) (fun c r => by rw [upd_ne (nown c b r)]; exact r) fun c xs r => by rw [upd_ne (ntup c xs r)]; exact r
      rcases hc with rfl | hc
      · exact hbe
      · rintro rfl
        rcases he with z | z
        · exact nown c b hc z
        · rw [hc] at z; cases z; exact hb rfl
end
/-! ### kept unless tracked; of the frames at fs (the callers') the slots may change (an exception that passes writes there); of the records at ex (iterators) nothing is said -/
structure Un (fs ex : List Addr) (H H' : Hp) (h h' : Heap) : Prop where
  keep : ∀ b o, h.get? b = some o → H b = none → b ∉ fs → b ∉ ex → h'.get? b = some o
  slot : ∀ b o, h.get? b = some o → H b = none → b ∈ fs → b ∉ ex → ∃ sl, h'.get? b = some { o with slots := sl }
  free : ∀ b o, h.get? b = some o → H b = none → b ∉ ex → H' b = none
  there : ∀ b o, h.get? b = some o → b ∉ ex → ∃ o', h'.get? b = some o'
  tups : ∀ b xs, H b = some (.tup xs) → H' b = some (.tup xs)
  frzs : ∀ b o u, H b = some (.frz o u) → H' b = some (.frz o u)
  tbls : ∀ b ps, H b = some (.tbl ps) → ∃ more, H' b = some (.tbl (ps ++ more))
section
variable {fs fs' ex ex' : List Addr} {H H1 H2 : Hp} {h h1 h2 h' : Heap} {a x e : Addr} {o : HO}
theorem Un.any (u : Un fs ex H H1 h h1) {b : Addr} {ob : Obj} (q : h.get? b = some ob) (n : H b = none) (hx : b ∉ ex) : ∃ sl, h1.get? b = some { ob with slots := sl } := by
  by_cases hb : b ∈ fs
  · exact u.slot b ob q n hb hx
  · exact ⟨ob.slots, u.keep b ob q n hb hx⟩
theorem Un.kept (k : ∀ b u, h.get? b = some u → h'.get? b = some u) : Un fs ex H H h h' :=
  ⟨fun b ob q _ _ _ => k b ob q, fun b ob q _ _ _ => ⟨ob.slots, k b ob q⟩, fun _ _ _ n _ => n, fun b ob q _ => ⟨ob, k b ob q⟩, fun _ _ q => q, fun _ _ _ q => q, fun _ ps q => ⟨#[], by rw [q]; simp⟩⟩
theorem Un.refl : Un fs ex H H h h := Un.kept fun _ _ q => q
theorem Un.laid (k : ∀ b u, h.get? b = some u → h'.get? b = some u) (hp : h.objs.size ≤ a) (hn : H a = none) : Un fs ex H (upd H a o) h h' where
  keep := fun b u q _ _ _ => k b u q
  slot := fun b u q _ _ _ => ⟨u.slots, k b u q⟩
  free := fun b u q n _ => by rw [upd_ne (Nat.ne_of_lt (Nat.lt_of_lt_of_le (Heap.lt_size q) hp))]; exact n
  there := fun b u q _ => ⟨u, k b u q⟩
  tups := fun b xs q => by rw [upd_ne (ne_of_none q hn)]; exact q
  frzs := fun b u xs q => by rw [upd_ne (ne_of_none q hn)]; exact q
  tbls := fun b ps q => ⟨#[], by rw [upd_ne (ne_of_none q hn), q]; simp⟩
theorem Un.write (mu : Mut (H x)) (he : e = x ∨ H e = some (.own x)) (k : ∀ b u, b ≠ e → h.get? b = some u → h'.get? b = some u) (heo : ∃ u, h'.get? e = some u) : Un fs ex H (upd H x o) h h' := by
  have hx : ∀ b, H b = none → b ≠ x := fun b n z => by subst z; rw [n] at mu; exact mu
  have hb : ∀ b, H b = none → b ≠ e := fun b n z => by
    subst z
    rcases he with r | r
    · exact hx b n r
    · rw [n] at r; cases r
  have hm : ∀ b u, H b = some u → ¬ Mut (some u) → b ≠ x := fun b u q nm z => by subst z; rw [q] at mu; exact nm mu
  refine ⟨fun b u q n _ _ => k b u (hb b n) q, fun b u q n _ _ => ⟨u.slots, k b u (hb b n) q⟩, fun b u q n _ => by rw [upd_ne (hx b n)]; exact n, fun b u q _ => ?_,
    fun b xs q => by rw [upd_ne (hm b _ q fun z => z)]; exact q, fun b u xs q => by rw [upd_ne (hm b _ q fun z => z)]; exact q, fun b ps q => ⟨#[], by rw [upd_ne (hm b _ q fun z => z), q]; simp⟩⟩
  by_cases hbe : b = e
  · subst hbe; exact heo
  · exact ⟨u, k b u hbe q⟩
end
/-! ### the heap without what is tracked -/
noncomputable def trk (h : Heap) (H : Hp) : List Addr := (List.range h.objs.size).filter fun a => (H a).isSome
noncomputable def hidT (h : Heap) (H : Hp) : Heap := PySem.W.hideAll h (trk h H)
theorem hidT_size (h : Heap) (H : Hp) : (hidT h H).objs.size = h.objs.size := PySem.W.hideAll_size _ _
theorem hidT_get {h : Heap} {H : Hp} {b : Addr} {o : Obj} (e : h.get? b = some o) (n : H b = none) : (hidT h H).get? b = some o :=
  PySem.W.hideAll_get _ e fun hm => by
    have q : (H b).isSome = true := (List.mem_filter.mp hm).2
    rw [n] at q; simp at q
theorem of_hidT {h : Heap} {H : Hp} {b : Addr} {o : Obj} (e : (hidT h H).get? b = some o) : h.get? b = some o ∧ H b = none := by
  have e' : h.get? b = some o := PySem.W.of_hideAll (trk h H) e
  refine ⟨e', ?_⟩
  cases q : H b with
  | none => rfl
  | some x =>
    have hm : b ∈ trk h H := List.mem_filter.mpr ⟨List.mem_range.mpr (Heap.lt_size e'), by simp [q]⟩
    have z : (hidT h H).get? b = none := PySem.W.hideAll_none (trk h H) hm
    rw [z] at e; cases e
/-! ### OpenK's ledger, filled with every new object but one -/
end L2
namespace L2
open PySem PySem.Spec PyProof.Rows
/-- the module's facts, over the base: the heap at the law's entry without what is tracked there -/
structure Mod (K : PySem.W.Frag) (mg : Str → Option Value) (base : Heap) : Prop where
  kin : K.In base
  glob : base.Ns mainGlobals mg
  blt : ∃ mb, base.Ns builtinsNs mb ∧ ∀ x : Str, x ≠ "__name__" → mb x = bootBuiltins x
  nolimit : base.NoLimit
/-- the context: a def's body (or a comprehension's block) running. base: fixed through the whole law; s₀, H₀: the entry; outer: the frames whose slots others may change (a def's callers); stack: all frames that run;
   ex: iterators that were made ahead of the entry and are walked here (a comprehension's); fn: the names whose cells were made at the entry (a def: all; a comprehension's block: its own); calm: not within an except suite; pn: pins that every state bears; xe: what is wanted of an exception that leaves the code -/
structure Cx where
  prog : Program
  w : World
  K : PySem.W.Frag
  mg : Str → Option Value
  base : Heap
  A : Around
  N : List Str
  s_0 : Shared
  H_0 : Hp
  env : Env
  outer : List Env
  stack : List Env
  ex : List Addr
  fn : Str → Bool
  calm : Bool
  pn : List (Addr × Obj)
  xe : Value → Shared → Prop
/-- the callers' frames -/
noncomputable def frs (l : List Env) : List Addr := l.filterMap (·.frame)
noncomputable abbrev Cx.fs (X : Cx) : List Addr := frs X.outer
noncomputable def Vis (sc : Scope) (x : Str) : Prop := sc.names.lookup x = some .local ∨ sc.names.lookup x = some .cell ∨ sc.names.lookup x = some .free
noncomputable def Loc (sc : Scope) (x : Str) : Prop := sc.names.lookup x = some .local ∨ sc.names.lookup x = some .cell
noncomputable def Look (env : Env) (h : Heap) (m : Str → Option Value) (x : Str) (u : Value) : Prop :=
  (env.kindOf x = some .local ∧ m x = some u) ∨ ((env.kindOf x = some .cell ∨ env.kindOf x = some .free) ∧ ∃ c, env.cells.lookup x = some c ∧ h.IsCell c (some u))
structure Cx.Ok (X : Cx) : Prop where
  mod : Mod X.K X.mg X.base
  kind : X.env.scope.kind = .function
  glob : X.env.globals = mainGlobals
  blt : X.env.builtins = builtinsNs
  above : X.s_0.heap.objs.size ≤ X.env.locals
  inj : ∀ x y c, X.env.cells.lookup x = some c → X.env.cells.lookup y = some c → x = y
  has : ∀ x, (X.env.kindOf x = some .cell ∨ X.env.kindOf x = some .free) → ∃ c, X.env.cells.lookup x = some c
  cab : ∀ x c, X.fn x = true → X.env.cells.lookup x = some c → X.s_0.heap.objs.size ≤ c
  hd : X.calm = true → X.A.handled = none
  frames : X.A.frames = some X.stack
  stk : X.stack = X.outer ∨ (X.stack = X.env :: X.outer ∧ X.env.frame = some X.env.locals)
  exf : ∀ b ∈ X.ex, b ≠ X.env.locals ∧ ∀ x c, X.env.cells.lookup x = some c → c ≠ b
  bs : ∀ b o, X.base.get? b = some o → X.s_0.heap.get? b = some o ∧ X.H_0 b = none
  bsz : X.base.objs.size ≤ X.s_0.heap.objs.size
  noex : ∀ b o, X.base.get? b = some o → b ∉ X.ex
  exfs : ∀ b ∈ X.ex, b ∉ X.fs
  funs : X.s_0.heap.FunFrames X.base X.outer
  frf : ∀ b ∈ X.fs, X.H_0 b = none
structure Inv (X : Cx) (pins : List (Addr × Obj)) (σ : List (Option V)) (H : Hp) (s : Shared) : Prop where
  ok : X.Ok
  os : s.os = X.s_0.os
  bare : AllBare s.gens
  base : Un X.fs X.ex X.H_0 H X.s_0.heap s.heap
  loc : ∃ m, s.heap.Ns X.env.locals m ∧ ∀ (i : Nat) (x : Str) (v : V), X.N[i]? = some x → σ[i]? = some (some v) → Vis X.env.scope x → ∃ u, RelV v u ∧ Look X.env s.heap m x u
  cell : ∀ x c, X.env.cells.lookup x = some c → ∃ v, s.heap.IsCell c v
  free : H X.env.locals = none
  freeC : ∀ x c, X.env.cells.lookup x = some c → H c = none
  pin : ∀ p ∈ X.pn ++ pins, s.heap.get? p.1 = some p.2 ∧ H p.1 = none ∧ p.1 ≠ X.env.locals ∧ p.1 ∉ X.fs ∧ ∀ v, p.2.data ≠ .cell v
  hok : HOk X.prog X.w H s.heap
  len : σ.length = X.N.length
section
variable {X : Cx} {pins : List (Addr × Obj)} {σ : List (Option V)} {H H' : Hp} {s : Shared} {h' : Heap}
theorem Cx.Ok.nofr (ok : X.Ok) {b : Addr} {o : Obj} (e : X.base.get? b = some o) : b ∉ X.fs := fun hb => by
  have := (ok.funs.mem hb).1
  rw [e] at this; cases this
theorem Inv.bs (I : Inv X pins σ H s) : ∀ b o, X.base.get? b = some o → s.heap.get? b = some o ∧ H b = none := fun b o e =>
  ⟨I.base.keep b o (I.ok.bs b o e).1 (I.ok.bs b o e).2 (I.ok.nofr e) (I.ok.noex b o e), I.base.free b o (I.ok.bs b o e).1 (I.ok.bs b o e).2 (I.ok.noex b o e)⟩
theorem Inv.bk (I : Inv X pins σ H s) : ∀ b o, X.base.get? b = some o → s.heap.get? b = some o := fun b o e => (I.bs b o e).1
theorem Inv.mod (I : Inv X pins σ H s) : Mod X.K X.mg X.base := I.ok.mod
theorem Inv.kIn (I : Inv X pins σ H s) : X.K.In s.heap := I.ok.mod.kin.keeps I.bk
theorem Inv.nolimit (I : Inv X pins σ H s) : s.heap.NoLimit := I.ok.mod.nolimit.keeps I.bk
theorem Inv.lt (I : Inv X pins σ H s) : X.env.locals < s.heap.objs.size := let ⟨_, hn, _⟩ := I.loc; hn.lt
theorem Inv.sz (I : Inv X pins σ H s) : X.s_0.heap.objs.size ≤ s.heap.objs.size := Nat.le_trans I.ok.above (Nat.le_of_lt I.lt)
theorem Inv.nofs (I : Inv X pins σ H s) {a : Addr} (h : s.heap.objs.size ≤ a) : a ∉ X.fs := fun hb => by
  obtain ⟨_, o, ho, _⟩ := I.ok.funs.mem hb
  exact absurd (Nat.lt_of_lt_of_le (Heap.lt_size ho) (Nat.le_trans I.sz h)) (Nat.lt_irrefl _)
theorem Inv.cne (I : Inv X pins σ H s) : ∀ x c, X.env.cells.lookup x = some c → c ≠ X.env.locals := fun x c e z => by
  obtain ⟨v, o, ho, hd⟩ := I.cell x c e
  obtain ⟨m, ⟨o', es, ep, ho', hd', _⟩, _⟩ := I.loc
  rw [z, ho'] at ho; cases ho; rw [hd'] at hd; cases hd
theorem Inv.funs (I : Inv X pins σ H s) : s.heap.FunFrames X.base X.outer := by
  have all : ∀ (l : List Env), (∀ b ∈ frs l, b ∈ X.fs) → X.s_0.heap.FunFrames X.base l → s.heap.FunFrames X.base l := by
    intro l
    induction l with
    | nil => intro _ _; trivial
    | cons env r ih =>
      intro hs hl
      obtain ⟨hk, ⟨L, o, hf, hn, ho, hd⟩, hr⟩ := hl
      have hL : L ∈ X.fs := hs L (by unfold frs; rw [List.filterMap_cons, hf]; exact List.mem_cons_self)
      obtain ⟨sl, e⟩ := I.base.slot L o ho (I.ok.frf L hL) hL fun z => I.ok.exfs L z hL
      exact ⟨hk, ⟨L, _, hf, hn, e, hd⟩, ih (fun b hb => hs b (by unfold frs; rw [List.filterMap_cons, hf]; exact List.mem_cons_of_mem _ hb)) hr⟩
  exact all X.outer (fun _ hb => hb) I.ok.funs
/-- the frames that run, for a call -/
theorem Inv.stack (I : Inv X pins σ H s) : s.heap.FunFrames X.base X.stack := by
  rcases I.ok.stk with e | ⟨e, hf⟩
  · rw [e]; exact I.funs
  · rw [e]
    obtain ⟨m, hn, _⟩ := I.loc
    refine .cons (by rw [I.ok.kind]; decide) hf hn ?_ I.funs
    exact Heap.get?_none_of_le (Nat.le_trans I.ok.bsz I.ok.above)
theorem Inv.stkSub (I : Inv X pins σ H s) : ∀ b ∈ frs X.stack, b ∈ X.env.locals :: X.fs := fun b hb => by
  rcases I.ok.stk with e | ⟨e, hf⟩
  · rw [e] at hb; exact List.mem_cons_of_mem _ hb
  · rw [e] at hb
    unfold frs at hb
    rw [List.filterMap_cons, hf] at hb
    exact hb
theorem Inv.stkFree (I : Inv X pins σ H s) : ∀ b ∈ frs X.stack, H b = none := fun b hb => by
  rcases List.mem_cons.mp (I.stkSub b hb) with e | hb
  · rw [e]; exact I.free
  · obtain ⟨_, o, ho, _⟩ := I.ok.funs.mem hb
    exact I.base.free b o ho (I.ok.frf b hb) fun z => I.ok.exfs b z hb
/-- THE STEP: the untracked objects but the frame and the records at ch are kept (the callers' frames up to slots), the frame's map is kept, the new abstract heap is held -/
theorem Inv.step {g' : Array GenState} {t' : Nat} {d' : Drawn} {ch : List Addr} (I : Inv X pins σ H s)
    (hch : ∀ b ∈ ch, (b ∈ X.ex ∨ X.s_0.heap.objs.size ≤ b) ∧ b ≠ X.env.locals ∧ (∀ x c, X.env.cells.lookup x = some c → c ≠ b) ∧ ∀ p ∈ X.pn ++ pins, p.1 ≠ b)
    (keep : ∀ b o, b ≠ X.env.locals → b ∉ X.fs → b ∉ ch → s.heap.get? b = some o → H b = none → h'.get? b = some o)
    (slot : ∀ b o, b ≠ X.env.locals → b ∈ X.fs → b ∉ ch → s.heap.get? b = some o → H b = none → ∃ sl, h'.get? b = some { o with slots := sl }) (free : ∀ b o, b ∉ ch → s.heap.get? b = some o → H b = none → H' b = none)
    (there : ∀ b o, b ∉ ch → s.heap.get? b = some o → ∃ o', h'.get? b = some o')
    (tups : ∀ b xs, H b = some (.tup xs) → H' b = some (.tup xs)) (frzs : ∀ b o u, H b = some (.frz o u) → H' b = some (.frz o u)) (tbls : ∀ b ps, H b = some (.tbl ps) → ∃ more, H' b = some (.tbl (ps ++ more)))
    (ns : ∀ m, s.heap.Ns X.env.locals m → h'.Ns X.env.locals m) (hok : HOk X.prog X.w H' h') (hg : AllBare g') :
    Inv X pins σ H' { s with heap := h', gens := g', drawn := d', toks := t' } := by
  have neL : ∀ b o, X.s_0.heap.get? b = some o → b ≠ X.env.locals := fun b o e => Nat.ne_of_lt (Nat.lt_of_lt_of_le (Heap.lt_size e) I.ok.above)
  have neC : ∀ b o, X.s_0.heap.get? b = some o → b ∉ X.ex → b ∉ ch := fun b o e hx hb => by
    rcases (hch b hb).1 with z | z
    · exact hx z
    · exact absurd (Nat.lt_of_lt_of_le (Heap.lt_size e) z) (Nat.lt_irrefl _)
  have cellK : ∀ x c, X.env.cells.lookup x = some c → ∀ v, s.heap.IsCell c v → h'.IsCell c v := fun x c e v ⟨o, ho, hd⟩ => by
    have nch : c ∉ ch := fun z => (hch c z).2.2.1 x c e rfl
    by_cases hc : c ∈ X.fs
    · obtain ⟨sl, q⟩ := slot c o (I.cne x c e) hc nch ho (I.freeC x c e)
      exact ⟨_, q, hd⟩
    · exact ⟨o, keep c o (I.cne x c e) hc nch ho (I.freeC x c e), hd⟩
  refine ⟨I.ok, I.os, hg, ⟨fun b o e n hb hx => ?_, fun b o e n hb hx => ?_, fun b o e n hx => ?_, fun b o e hx => ?_, fun b xs e => tups b xs (I.base.tups b xs e), fun b o xs e => frzs b o xs (I.base.frzs b o xs e), fun b ps e => ?_⟩, ?_, fun x c e => ?_, ?_, fun x c e => ?_, fun p hp => ?_, hok, I.len⟩
  · exact keep b o (neL b o e) hb (neC b o e hx) (I.base.keep b o e n hb hx) (I.base.free b o e n hx)
  · obtain ⟨sl, e1⟩ := I.base.slot b o e n hb hx
    obtain ⟨sl', e2⟩ := slot b _ (neL b o e) hb (neC b o e hx) e1 (I.base.free b o e n hx)
    exact ⟨sl', e2⟩
  · obtain ⟨o', e1⟩ := I.base.there b o e hx
    exact free b o' (neC b o e hx) e1 (I.base.free b o e n hx)
  · obtain ⟨o', e1⟩ := I.base.there b o e hx
    exact there b o' (neC b o e hx) e1
  · obtain ⟨m1, e1⟩ := I.base.tbls b ps e
    obtain ⟨m2, e2⟩ := tbls b _ e1
    exact ⟨m1 ++ m2, by rw [e2, Array.append_assoc]⟩
  · obtain ⟨m, hn, hl⟩ := I.loc
    refine ⟨m, ns m hn, fun i x v e1 e2 e3 => ?_⟩
    obtain ⟨u, r, l⟩ := hl i x v e1 e2 e3
    refine ⟨u, r, ?_⟩
    rcases l with l | ⟨k, c, e, z⟩
    · exact .inl l
    · exact .inr ⟨k, c, e, cellK x c e _ z⟩
  · obtain ⟨v, z⟩ := I.cell x c e
    exact ⟨v, cellK x c e v z⟩
  · obtain ⟨m, ⟨o, _, _, ho, _⟩, _⟩ := I.loc
    exact free _ o (fun z => (hch _ z).2.1 rfl) ho I.free
  · obtain ⟨v, o, ho, hd⟩ := I.cell x c e
    exact free c o (fun z => (hch c z).2.2.1 x c e rfl) ho (I.freeC x c e)
  · obtain ⟨e, n, ne, nf, d⟩ := I.pin p hp
    have nch : p.1 ∉ ch := fun z => (hch p.1 z).2.2.2 p hp rfl
    exact ⟨keep p.1 p.2 ne nf nch e n, free p.1 p.2 nch e n, ne, nf, d⟩
/-- .. where the frame's own object is kept too -/
theorem Inv.un {t' : Nat} (I : Inv X pins σ H s) (u : Un X.fs [] H H' s.heap h') (hok : HOk X.prog X.w H' h') : Inv X pins σ H' { s with heap := h', toks := t' } := by
  obtain ⟨m, ⟨o, es, ep, ho, r⟩, _⟩ := id I.loc
  obtain ⟨sl, hL⟩ := u.any ho I.free (by simp)
  exact I.step (g' := s.gens) (d' := s.drawn) (ch := []) (fun _ z => nomatch z) (fun b o _ hb _ e n => u.keep b o e n hb (by simp)) (fun b o _ hb _ e n => u.slot b o e n hb (by simp)) (fun b o _ e n => u.free b o e n (by simp)) (fun b o _ e => u.there b o e (by simp)) u.tups u.frzs u.tbls (fun m' hm => by
    obtain ⟨o', es', ep', ho', r'⟩ := hm
    rw [ho] at ho'; cases ho'
    exact ⟨_, es', ep', hL, r'⟩) hok I.bare
/-- behind a call (or a comprehension's block): the slots of this frame may have changed too, the records at ch may have turned -/
theorem Inv.call {g' : Array GenState} {t' : Nat} {d' : Drawn} {ch : List Addr} (I : Inv X pins σ H s) (u : Un (frs X.stack) ch H H' s.heap h') (hok : HOk X.prog X.w H' h') (hg : AllBare g')
    (hch : ∀ b ∈ ch, (b ∈ X.ex ∨ X.s_0.heap.objs.size ≤ b) ∧ b ≠ X.env.locals ∧ (∀ x c, X.env.cells.lookup x = some c → c ≠ b) ∧ ∀ p ∈ X.pn ++ pins, p.1 ≠ b) :
    Inv X pins σ H' { s with heap := h', gens := g', drawn := d', toks := t' } := by
  obtain ⟨m, ⟨o, es, ep, ho, r⟩, _⟩ := id I.loc
  obtain ⟨sl, hL⟩ := u.any ho I.free fun z => (hch _ z).2.1 rfl
  exact I.step (ch := ch) hch (fun b o hL hb hc e n => u.keep b o e n (fun z => (List.mem_cons.mp (I.stkSub b z)).elim hL hb) hc) (fun b o _ _ hc e n => u.any e n hc) (fun b o hc e n => u.free b o e n hc) (fun b o hc e => u.there b o e hc) u.tups u.frzs u.tbls (fun m' hm => by
    obtain ⟨o', es', ep', ho', r'⟩ := hm
    rw [ho] at ho'; cases ho'
    exact ⟨_, es', ep', hL, r'⟩) hok hg
/-- an untracked record of ours (an iterator) has turned -/
theorem Inv.turned {t' : Nat} {it : Addr} (I : Inv X pins σ H s) (k : ∀ b o, b ≠ it → s.heap.get? b = some o → h'.get? b = some o) (hn : H it = none) (hL : it ≠ X.env.locals)
    (h1 : it ∈ X.ex ∨ X.s_0.heap.objs.size ≤ it) (h2 : ∀ x c, X.env.cells.lookup x = some c → c ≠ it) (h3 : ∀ p ∈ X.pn ++ pins, p.1 ≠ it) : Inv X pins σ H { s with heap := h', toks := t' } := by
  have nit : ∀ b u, H b = some u → b ≠ it := fun b u e z => by rw [z, hn] at e; cases e
  refine I.step (g' := s.gens) (d' := s.drawn) (ch := [it]) (fun b hb => ?_) (fun b o _ _ hc e _ => k b o (fun z => hc (by simp [z])) e) (fun b o _ _ hc e _ => ⟨o.slots, k b o (fun z => hc (by simp [z])) e⟩) (fun _ _ _ _ n => n)
    (fun b o hc e => ⟨o, k b o (fun z => hc (by simp [z])) e⟩) (fun _ _ e => e) (fun _ _ _ e => e) (fun b ps e => ⟨#[], by rw [e]; simp⟩) (fun m hm => ?_) (fun b u e => ?_) I.bare
  · have e : b = it := by simpa using hb
    subst e
    exact ⟨h1, hL, h2, h3⟩
  · obtain ⟨o, es, ep, ho, r⟩ := hm
    exact ⟨o, es, ep, k _ o (Ne.symm hL) ho, r⟩
  · refine (I.hok b u e).stay (fun c v hc q => k c v ?_ q) (fun _ q => q) fun _ _ q => q
    rcases hc with z | z
    · rw [z]; exact nit b u e
    · exact nit c _ z
theorem Inv.tok (I : Inv X pins σ H s) (t : Nat) : Inv X pins σ H { s with toks := t } := I.un (h' := s.heap) (t' := t) Un.refl I.hok
/-- all objects kept -/
theorem Inv.kept {t' : Nat} (I : Inv X pins σ H s) (k : ∀ b u, s.heap.get? b = some u → h'.get? b = some u) : Inv X pins σ H { s with heap := h', toks := t' } := I.un (Un.kept k) (I.hok.kept k)
/-- a new object laid and tracked -/
theorem Inv.laid {a : Addr} {o : HO} {t' : Nat} (I : Inv X pins σ H s) (k : ∀ b u, s.heap.get? b = some u → h'.get? b = some u) (hp : s.heap.objs.size ≤ a) (new : ObjOk X.prog X.w (upd H a o) h' a o) :
    Inv X pins σ (upd H a o) { s with heap := h', toks := t' } := I.un (Un.laid k hp (I.hok.fresh hp)) (I.hok.laid k hp new)
/-- an object written -/
theorem Inv.write {x e : Addr} {o : HO} {t' : Nat} (I : Inv X pins σ H s) (mu : Mut (H x)) (he : e = x ∨ H e = some (.own x)) (k : ∀ b u, b ≠ e → s.heap.get? b = some u → h'.get? b = some u) (heo : ∃ u, h'.get? e = some u)
    (new : ObjOk X.prog X.w (upd H x o) h' x o) : Inv X pins σ (upd H x o) { s with heap := h', toks := t' } := I.un (Un.write mu he k heo) (I.hok.write mu he k heo new)
/-- forgetting slots, pins -/
theorem Inv.weak {σ' : List (Option V)} (I : Inv X pins σ H s) (hl : σ'.length = σ.length) (w : ∀ (i : Nat) v, σ'[i]? = some (some v) → σ[i]? = some (some v)) : Inv X pins σ' H s :=
  ⟨I.ok, I.os, I.bare, I.base, let ⟨m, hn, hl'⟩ := I.loc; ⟨m, hn, fun i x v e1 e2 e3 => hl' i x v e1 (w i v e2) e3⟩, I.cell, I.free, I.freeC, I.pin, I.hok, hl.trans I.len⟩
theorem Inv.pins_of {pins' : List (Addr × Obj)} (I : Inv X pins σ H s) (h : ∀ p ∈ pins', s.heap.get? p.1 = some p.2 ∧ H p.1 = none ∧ p.1 ≠ X.env.locals ∧ p.1 ∉ X.fs ∧ ∀ v, p.2.data ≠ .cell v) : Inv X pins' σ H s :=
  ⟨I.ok, I.os, I.bare, I.base, I.loc, I.cell, I.free, I.freeC, fun p hp => (List.mem_append.mp hp).elim (fun z => I.pin p (List.mem_append_left _ z)) (h p), I.hok, I.len⟩
theorem nodup_ix {N : List Str} (hN : N.Nodup) {i j : Nat} {x : Str} (a : N[i]? = some x) (b : N[j]? = some x) : i = j := by
  obtain ⟨h1, e1⟩ := List.getElem?_eq_some_iff.mp a
  obtain ⟨h2, e2⟩ := List.getElem?_eq_some_iff.mp b
  exact (List.getElem_inj hN).mp (e1.trans e2.symm)
/-- a name is stored; what changed -/
theorem store_ok2 {M : Model} {A : Around} {E : Value → Shared → Prop} {i : Nat} {x : Str} {v : V} {u : Value} {Q : Unit → Shared → Prop} (I : Inv X pins σ H s) (hN : X.N.Nodup) (hi : X.N[i]? = some x) (hx : Loc X.env.scope x) (r : RelV v u)
    (h : ∀ s', Inv X pins (σ.set i (some v)) H s' → (∃ a, Heap.SameBut a s.heap s'.heap ∧ (a = X.env.locals ∨ X.env.cells.lookup x = some a)) → Q () s') (hf : X.fn x = true ∨ X.env.scope.names.lookup x = some .local := by first | exact .inl rfl | exact .inr rfl | assumption) : wpAny M A (storeName X.env x u) Q E s := by
  obtain ⟨m, hn, hl⟩ := id I.loc
  have hcls : (X.env.scope.kind == .class || (X.env.scope.kind == .module && X.env.locals != X.env.globals)) = false := by rw [I.ok.kind]; rfl
  have hiσ : i < σ.length := by rw [I.len]; exact (List.getElem?_eq_some_iff.mp hi).1
  have cne := I.cne
  have tracked : ∀ {a : Addr} {h' : Heap}, (∃ o, s.heap.get? a = some o ∧ H a = none) → Heap.SameBut a s.heap h' → HOk X.prog X.w H h' := fun {a h'} ha hs b ob e => by
    obtain ⟨_, _, hfree⟩ := ha
    refine (I.hok b ob e).stay (fun c w' hc q => (hs.2 c ?_).trans q) (fun _ q => q) fun _ _ q => q
    rintro rfl
    rcases hc with rfl | hc
    · rw [hfree] at e; cases e
    · rw [hfree] at hc; cases hc
  rcases hx with hk | hk
  · refine wpAny_storeName_local hk hn (fun h' hn' hs => ?_) hcls
    obtain ⟨oL, _, _, hoL, _⟩ := id hn
    refine h _ ⟨I.ok, I.os, I.bare, ⟨fun b o e n hb hx => ?_, fun b o e n hb hx => ?_, I.base.free, fun b o e hx => ?_, I.base.tups, I.base.frzs, I.base.tbls⟩, ⟨_, hn', fun j y v' e1 e2 e3 => ?_⟩, fun y c e => ?_, I.free, I.freeC, fun p hp => ?_, tracked ⟨oL, hoL, I.free⟩ hs, by simpa using I.len⟩ ⟨_, hs, .inl rfl⟩
    · exact (hs.2 b (Nat.ne_of_lt (Nat.lt_of_lt_of_le (Heap.lt_size e) I.ok.above))).trans (I.base.keep b o e n hb hx)
    · obtain ⟨sl, e1⟩ := I.base.slot b o e n hb hx
      exact ⟨sl, (hs.2 b (Nat.ne_of_lt (Nat.lt_of_lt_of_le (Heap.lt_size e) I.ok.above))).trans e1⟩
    · obtain ⟨o', e1⟩ := I.base.there b o e hx
      exact ⟨o', (hs.2 b (Nat.ne_of_lt (Nat.lt_of_lt_of_le (Heap.lt_size e) I.ok.above))).trans e1⟩
    · by_cases hj : j = i
      · subst hj
        rw [hi] at e1; cases e1
        rw [List.getElem?_set_self hiσ] at e2
        cases e2
        exact ⟨u, r, .inl ⟨hk, by simp⟩⟩
      · rw [List.getElem?_set_ne (Ne.symm hj)] at e2
        obtain ⟨u', r', q⟩ := hl j y v' e1 e2 e3
        refine ⟨u', r', ?_⟩
        rcases q with ⟨k, e⟩ | ⟨k, c, e, z⟩
        · refine .inl ⟨k, ?_⟩
          have : y ≠ x := fun e => hj (nodup_ix hN e1 (e ▸ hi))
          simp [this, e]
        · exact .inr ⟨k, c, e, z.sameBut hs (cne y c e)⟩
    · obtain ⟨w', z⟩ := I.cell y c e
      exact ⟨w', z.sameBut hs (cne y c e)⟩
    · obtain ⟨e, n, ne, nf, d⟩ := I.pin p hp
      exact ⟨(hs.2 p.1 ne).trans e, n, ne, nf, d⟩
  · have hfn : X.fn x = true := by
      rcases hf with z | z
      · exact z
      · rw [z] at hk; cases hk
    obtain ⟨c, hc⟩ := I.ok.has x (.inl hk)
    obtain ⟨w', z⟩ := I.cell x c hc
    refine wpAny_storeName_cell I.ok.kind hk hc z (fun h' hc' hs => ?_)
    obtain ⟨oc, hoc, hocd⟩ := id z
    refine h { s with heap := h' } ⟨I.ok, I.os, I.bare, ⟨fun b o e n hb hx => ?_, fun b o e n hb hx => ?_, I.base.free, fun b o e hx => ?_, I.base.tups, I.base.frzs, I.base.tbls⟩, ⟨m, hn.sameBut hs (Ne.symm (cne x c hc)), fun j y v' e1 e2 e3 => ?_⟩, fun y c' e => ?_, I.free, I.freeC, fun p hp => ?_, tracked ⟨oc, hoc, I.freeC x c hc⟩ hs, by simpa using I.len⟩ ⟨c, hs, .inr hc⟩
    · exact (hs.2 b (Nat.ne_of_lt (Nat.lt_of_lt_of_le (Heap.lt_size e) (I.ok.cab x c hfn hc)))).trans (I.base.keep b o e n hb hx)
    · obtain ⟨sl, e1⟩ := I.base.slot b o e n hb hx
      exact ⟨sl, (hs.2 b (Nat.ne_of_lt (Nat.lt_of_lt_of_le (Heap.lt_size e) (I.ok.cab x c hfn hc)))).trans e1⟩
    · obtain ⟨o', e1⟩ := I.base.there b o e hx
      exact ⟨o', (hs.2 b (Nat.ne_of_lt (Nat.lt_of_lt_of_le (Heap.lt_size e) (I.ok.cab x c hfn hc)))).trans e1⟩
    · by_cases hj : j = i
      · subst hj
        rw [hi] at e1; cases e1
        rw [List.getElem?_set_self hiσ] at e2
        cases e2
        exact ⟨u, r, .inr ⟨.inl hk, c, hc, hc'⟩⟩
      · rw [List.getElem?_set_ne (Ne.symm hj)] at e2
        obtain ⟨u', r', q⟩ := hl j y v' e1 e2 e3
        refine ⟨u', r', ?_⟩
        rcases q with q | ⟨k, c', e, z'⟩
        · exact .inl q
        · refine .inr ⟨k, c', e, z'.sameBut hs ?_⟩
          rintro rfl
          exact hj (nodup_ix hN e1 (I.ok.inj _ _ _ e hc ▸ hi))
    · by_cases hcc : c' = c
      · subst hcc; exact ⟨_, hc'⟩
      · obtain ⟨w2, z2⟩ := I.cell y c' e
        exact ⟨w2, z2.sameBut hs hcc⟩
    · obtain ⟨e, n, ne, nf, d⟩ := I.pin p hp
      refine ⟨(hs.2 p.1 ?_).trans e, n, ne, nf, d⟩
      intro q
      rw [q, hoc] at e
      have q' : oc = p.2 := Option.some.inj e
      exact d w' (by rw [← q']; exact hocd)
theorem store_ok {M : Model} {A : Around} {E : Value → Shared → Prop} {i : Nat} {x : Str} {v : V} {u : Value} {Q : Unit → Shared → Prop} (I : Inv X pins σ H s) (hN : X.N.Nodup) (hi : X.N[i]? = some x) (hx : Loc X.env.scope x) (r : RelV v u)
    (h : ∀ s', Inv X pins (σ.set i (some v)) H s' → Q () s') (hf : X.fn x = true ∨ X.env.scope.names.lookup x = some .local := by first | exact .inl rfl | exact .inr rfl | assumption) : wpAny M A (storeName X.env x u) Q E s :=
  store_ok2 I hN hi hx r (fun s' I' _ => h s' I') hf
/-- behind a call or a block, the state as it is -/
theorem Inv.call' {s' : Shared} {ch : List Addr} (I : Inv X pins σ H s) (ho : s'.os = s.os) (u : Un (frs X.stack) ch H H' s.heap s'.heap) (hok : HOk X.prog X.w H' s'.heap) (hg : AllBare s'.gens)
    (hch : ∀ b ∈ ch, (b ∈ X.ex ∨ X.s_0.heap.objs.size ≤ b) ∧ b ≠ X.env.locals ∧ (∀ x c, X.env.cells.lookup x = some c → c ≠ b) ∧ ∀ p ∈ X.pn ++ pins, p.1 ≠ b) : Inv X pins σ H' s' := by
  obtain ⟨h', g', d', t', o'⟩ := s'
  have e : o' = s.os := ho
  subst e
  exact I.call (g' := g') (t' := t') (d' := d') u hok hg hch
end
/-! ### the judgements -/
/-- an exception: its class, its own dict's address (where it has one), the abstract heap behind it -/
noncomputable abbrev XK := Value → Option Addr → Hp → Prop
noncomputable abbrev St := List (Option V)
noncomputable abbrev VK := V → Hp → Prop
/-- an expression's reading; a test's; an argument list's -/
noncomputable abbrev TE := St → Hp → VK → Prop
noncomputable abbrev TT := St → Hp → (Bool → Hp → Prop) → Prop
noncomputable abbrev TA := St → Hp → (List V → Hp → Prop) → Prop
/-- what is wanted behind a statement -/
structure Ends where
  nx : St → Hp → Prop
  rt : VK
  bk : St → Hp → Prop := fun _ _ => False
  ct : St → Hp → Prop := fun _ _ => False
noncomputable abbrev TS := Ends → St → Hp → Prop
noncomputable def EP (X : Cx) (pins : List (Addr × Obj)) (σ : St) (Q : VK) (u : Value) (s' : Shared) : Prop := ∃ v H', Inv X pins σ H' s' ∧ RelV v u ∧ Q v H'
noncomputable def TP (X : Cx) (pins : List (Addr × Obj)) (σ : St) (Q : Bool → Hp → Prop) (b : Bool) (s' : Shared) : Prop := ∃ H', Inv X pins σ H' s' ∧ Q b H'
noncomputable def AP (X : Cx) (pins : List (Addr × Obj)) (σ : St) (Q : List V → Hp → Prop) (us : List Value) (s' : Shared) : Prop := ∃ vs H', Inv X pins σ H' s' ∧ Vals vs us ∧ Q vs H'
noncomputable def SP (X : Cx) (pins : List (Addr × Obj)) (D : Ends) (f : Flow) (s' : Shared) : Prop :=
  match f with
  | .next => ∃ σ' H', Inv X pins σ' H' s' ∧ D.nx σ' H'
  | .brk => ∃ σ' H', Inv X pins σ' H' s' ∧ D.bk σ' H'
  | .cont => ∃ σ' H', Inv X pins σ' H' s' ∧ D.ct σ' H'
  | .ret u => ∃ v σ' H', Inv X pins σ' H' s' ∧ RelV v u ∧ D.rt v H'
noncomputable def PE (X : Cx) (e : Expr) (t : TE) : Prop :=
  ∀ (pins : List (Addr × Obj)) (s : Shared) (σ : St) (H : Hp) (Q : VK), Inv X pins σ H s → t σ H Q → wpAny (model X.prog X.w) X.A (eval e X.env) (EP X pins σ Q) X.xe s
noncomputable def PT (X : Cx) (e : Expr) (t : TT) : Prop :=
  ∀ (pins : List (Addr × Obj)) (s : Shared) (σ : St) (H : Hp) (Q : Bool → Hp → Prop), Inv X pins σ H s → t σ H Q → wpAny (model X.prog X.w) X.A (isTrue e X.env (eval e X.env)) (TP X pins σ Q) X.xe s
/-- a test whatever its 'whole' is (and, or) -/
noncomputable def PW (X : Cx) (e : Expr) (t : TT) : Prop :=
  ∀ (whole : Sem Value) (pins : List (Addr × Obj)) (s : Shared) (σ : St) (H : Hp) (Q : Bool → Hp → Prop), Inv X pins σ H s → t σ H Q → wpAny (model X.prog X.w) X.A (isTrue e X.env whole) (TP X pins σ Q) X.xe s
theorem PW.pt {X : Cx} {e : Expr} {t : TT} (h : PW X e t) : PT X e t := h _
/-- an argument list (no star), from the left -/
noncomputable def PA (X : Cx) (es : List Expr) (t : TA) : Prop :=
  ∀ (pos : Pos) (pins : List (Addr × Obj)) (s : Shared) (σ : St) (H : Hp) (Q : List V → Hp → Prop), Inv X pins σ H s → t σ H Q → wpAny (model X.prog X.w) X.A (spliced (backTo pos (starEach es X.env))) (AP X pins σ Q) X.xe s
noncomputable def PS (X : Cx) (st : Stmt) (t : TS) : Prop :=
  ∀ (pins : List (Addr × Obj)) (s : Shared) (σ : St) (H : Hp) (D : Ends), Inv X pins σ H s → t D σ H → wpAny (model X.prog X.w) X.A (exec st X.env) (SP X pins D) X.xe s
noncomputable def PSs (X : Cx) (st : List Stmt) (t : TS) : Prop :=
  ∀ (pins : List (Addr × Obj)) (s : Shared) (σ : St) (H : Hp) (D : Ends), Inv X pins σ H s → t D σ H → wpAny (model X.prog X.w) X.A (execs st X.env) (SP X pins D) X.xe s
/-- weaken the end -/
theorem thn {α : Type} {t : Sem α} {Q Q' : α → Shared → Prop} {M : Model} {A : Around} {E : Value → Shared → Prop} {s : Shared} (h : wpAny M A t Q E s) (hQ : ∀ a s, Q a s → Q' a s) : wpAny M A t Q' E s := wpAny_mono h hQ fun _ _ x => x
end L2
namespace L2
open PySem PySem.Spec PyProof.Rows
section
variable {X : Cx}
/-! ### names and constants -/
noncomputable def tVar (i : Nat) : TE := fun σ H Q => ∃ v, σ[i]? = some (some v) ∧ Q v H
noncomputable def tC (v : V) : TE := fun _ H Q => Q v H
theorem pe_var {i : Nat} {x : Str} {pos : Pos} (hN : X.N[i]? = some x) (hv : Vis X.env.scope x) (hd : (x == ("__debug__" : Str)) = false := by decide) (hcd : (x == ("__classdict__" : Str)) = false := by decide) : PE X (.Name x pos) (tVar i) := by
  intro pins s σ H Q I h
  obtain ⟨v, e, h⟩ := h
  obtain ⟨m, hn, hl⟩ := I.loc
  obtain ⟨u, r, l⟩ := hl i x v hN e hv
  have fin : EP X pins σ Q u s := ⟨v, H, I, r, h⟩
  rcases l with ⟨hk, hm⟩ | ⟨hk, c, hc, hcell⟩
  · exact wpAny_Name (wpAny_loadName_local I.ok.kind hk hn hm fin) hd
  · rcases hk with hk | hk
    · exact wpAny_Name (wpAny_loadName_cell I.ok.kind hk hc hcell fin) hd
    · exact wpAny_Name (wpAny_loadName_free I.ok.kind hk hc hcell fin hcd) hd
theorem pe_int {i j pos} : PE X (.Constant (.int i) j pos) (tC (.int i)) := fun _ _ _ H _ I h => wpAny_Constant_int ⟨.int i, H, I.tok _, ⟨_, rfl⟩, h⟩
theorem pe_bl {b j pos} : PE X (.Constant (.bool b) j pos) (tC (.bl b)) := fun _ _ _ H _ I h => Constant_bool ⟨.bl b, H, I, rfl, h⟩
theorem pe_non {j pos} : PE X (.Constant .none j pos) (tC .non) := fun _ _ _ H _ I h => Constant_none ⟨.non, H, I, rfl, h⟩
/-- a global name of the def -/
noncomputable def Gl (X : Cx) (x : Str) : Prop := X.env.kindOf x = some .globalImplicit
theorem ld_glob {E : Value → Shared → Prop} {pins : List (Addr × Obj)} {s : Shared} {σ : St} {H : Hp} {x : Str} {u : Value} {pos : Pos} {Q : Value → Shared → Prop} (I : Inv X pins σ H s) (hg : Gl X x) (hm : X.mg x = some u) (h : Q u s)
    (hd : (x == ("__debug__" : Str)) = false := by decide) : wpAny (model X.prog X.w) X.A (eval (.Name x pos) X.env) Q E s :=
  Calls.Name_function_global I.ok.kind hg (Calls.loadGlobal_global (by rw [I.ok.glob]; exact I.mod.glob.keeps I.bk) hm h) hd
theorem ld_blt {E : Value → Shared → Prop} {pins : List (Addr × Obj)} {s : Shared} {σ : St} {H : Hp} {x : Str} {u : Value} {pos : Pos} {Q : Value → Shared → Prop} (I : Inv X pins σ H s) (hg : Gl X x) (hm : X.mg x = none) (hv : bootBuiltins x = some u) (h : Q u s)
    (hn : x ≠ "__name__" := by decide) (hd : (x == ("__debug__" : Str)) = false := by decide) : wpAny (model X.prog X.w) X.A (eval (.Name x pos) X.env) Q E s := by
  obtain ⟨mb, h1, h2⟩ := I.mod.blt
  exact Calls.Name_function_global I.ok.kind hg (Calls.loadGlobal_builtin (by rw [I.ok.glob]; exact I.mod.glob.keeps I.bk) hm (by rw [I.ok.blt]; exact h1.keeps I.bk) ((h2 x hn).trans hv) h) hd
/-- a module's constant, a class, a function, as a value -/
theorem pe_glob {x : Str} {v : V} {u : Value} {pos : Pos} (hg : Gl X x) (hm : X.mg x = some u) (r : RelV v u) (hd : (x == ("__debug__" : Str)) = false := by decide) : PE X (.Name x pos) (tC v) :=
  fun _ _ _ H _ I h => ld_glob I hg hm ⟨v, H, I, r, h⟩ hd
/-! ### arithmetic -/
variable {a b : Expr} {ta tb : TE} {pos : Pos}
/-! ### comparisons -/
noncomputable def PC (X : Cx) (op : CmpOp) (a b : Expr) (t : TE) : Prop :=
  ∀ (pins : List (Addr × Obj)) (s : Shared) (σ : St) (H : Hp) (Q : VK), Inv X pins σ H s → t σ H Q →
    wpAny (model X.prog X.w) X.A (eval a X.env) (fun v s₁ => wpAny (model X.prog X.w) X.A (eval b X.env) (fun u s₂ => wpAny (model X.prog X.w) X.A (compareOp op v u) (EP X pins σ Q) X.xe s₂) X.xe s₁) X.xe s
theorem nobehind (b : Expr) {op : CmpOp} (h : op ≠ .In) (h2 : op ≠ .NotIn) : behindInMarks op b = false := by
  have e1 : (op == CmpOp.In) = false := by cases op <;> first | rfl | exact absurd rfl h
  have e2 : (op == CmpOp.NotIn) = false := by cases op <;> first | rfl | exact absurd rfl h2
  cases b <;> simp [behindInMarks, e1, e2]
/-- is None -/
noncomputable def tIsN (ta : TE) : TE := fun σ H Q => ta σ H fun x H1 => Q (.bl (decide (x = .non))) H1
theorem RelV.none_iff {x : V} {v : Value} (r : RelV x v) : (v == Value.none) = decide (x = .non) := by
  cases x with
  | non => cases r; rfl
  | bl _ => cases r; rfl
  | int _ => obtain ⟨t, rfl⟩ := r; rfl
  | str _ => obtain ⟨t, rfl⟩ := r; rfl
  | byt _ => obtain ⟨t, rfl⟩ := r; rfl
  | flt _ => obtain ⟨t, rfl⟩ := r; rfl
  | ref _ => cases r; rfl
  | ty _ => cases r; rfl
theorem pc_isN {j pos'} (ha : PE X a ta) : PC X .Is a (.Constant .none j pos') (tIsN ta) := by
  intro pins s σ H Q I h
  refine thn (ha pins s σ H _ I h) fun v s1 hh_ => ?_
  obtain ⟨x, H1, I1, r1, q1⟩ := hh_
  exact Constant_none (is_none_gen ⟨.bl _, H1, I1, by rw [r1.none_iff]; rfl, q1⟩)
/-- a comparison as a value, as a test -/
noncomputable def tB (t : TE) : TT := fun σ H Q => t σ H fun x H1 => ∃ c, x = .bl c ∧ Q c H1
theorem pt_cmp {op : CmpOp} {t : TE} (h : PC X op a b t) (h1 : behindInMarks op b = false := by first | exact nobehind _ (by decide) (by decide) | rfl) : PT X (.Compare a [op] [b] pos) (tB t) := by
  intro pins s σ H Q I hw
  refine wpAny_isTrue_Compare1 (thn (h pins s σ H _ I hw) fun v s1 h1 => thn h1 fun u s2 h2 => thn h2 fun c s3 hh_ => ?_) h1
  obtain ⟨x, H1, I1, r1, q1⟩ := hh_
  obtain ⟨d, rfl, q⟩ := q1
  cases r1
  exact wpAny_truthy_bool ⟨H1, I1, q⟩
/-- an expression whose value is a bool, as a test -/
theorem pt_val {e : Expr} {t : TE} (h : PE X e t) (he : ∀ whole, isTrue e X.env whole = (do let v ← whole; standAt e.pos; holding [v] (truthy v)) := by intro _; rfl) : PT X e (tB t) := by
  intro pins s σ H Q I hw
  refine isTrue_plain (thn (h pins s σ H _ I hw) fun v s1 hh_ => ?_) (he _)
  obtain ⟨x, H1, I1, r1, q1⟩ := hh_
  obtain ⟨d, rfl, q⟩ := q1
  cases r1
  exact wpAny_truthy_bool ⟨H1, I1, q⟩
/-! ### and, or, not -/
variable {tA tB' : TT} {rest : List Expr}
noncomputable def tOr (t u : TT) : TT := fun σ H Q => t σ H fun c H1 => if c = true then Q true H1 else u σ H1 Q
noncomputable def tNot (t : TT) : TT := fun σ H Q => t σ H fun c H1 => Q (!c) H1
theorem pw_or1 (ha : PT X a tA) : PW X (.BoolOp .Or [a] pos) tA := by
  intro wh pins s σ H Q I h
  refine isTrue_or (thn (ha pins s σ H Q I h) fun c s1 e => ?_)
  cases c with
  | false => exact isTrue_or_nil e
  | true => exact e
theorem pw_or (ha : PT X a tA) (hb : PW X (.BoolOp .Or (b :: rest) pos) tB') : PW X (.BoolOp .Or (a :: b :: rest) pos) (tOr tA tB') := by
  intro wh pins s σ H Q I h
  refine isTrue_or (thn (ha pins s σ H _ I h) fun c s1 hh_ => ?_)
  obtain ⟨H1, I1, q1⟩ := hh_
  cases c with
  | true => exact ⟨H1, I1, q1⟩
  | false => exact hb wh pins s1 σ H1 Q I1 q1
theorem pt_not (ha : PT X a tA) : PT X (.UnaryOp .Not a pos) (tNot tA) := by
  intro pins s σ H Q I h
  exact isTrue_not (ha pins s σ H (fun c H1 => Q (!c) H1) I h)
/-- .. as values (bools) -/
noncomputable def tAndV (ta tb : TE) : TE := fun σ H Q => ta σ H fun x H1 => ∃ c, x = .bl c ∧ if c = true then tb σ H1 Q else Q (.bl false) H1
theorem pe_one {op} {t : TE} (h : PE X a t) : PE X (.BoolOp op [a] pos) t := fun pins s σ H Q I hw => BoolOp_one (h pins s σ H Q I hw)
theorem pe_and (ha : PE X a ta) (hb : PE X (.BoolOp .And (b :: rest) pos) tb) : PE X (.BoolOp .And (a :: b :: rest) pos) (tAndV ta tb) := by
  intro pins s σ H Q I h
  refine BoolOp_and (thn (ha pins s σ H _ I h) fun v s1 hh_ => ?_)
  obtain ⟨x, H1, I1, r1, q1⟩ := hh_
  obtain ⟨c, rfl, q1⟩ := q1
  cases r1
  refine wpAny_truthy_bool ?_
  cases c with
  | true => exact hb pins s1 σ H1 Q I1 q1
  | false => exact ⟨.bl false, H1, I1, rfl, q1⟩
/-- a if t else b -/
noncomputable def tIf (t : TT) (ta tb : TE) : TE := fun σ H Q => t σ H fun c H1 => if c = true then ta σ H1 Q else tb σ H1 Q
theorem pe_ifExp {c : Expr} (hc : PT X c tA) (ha : PE X a ta) (hb : PE X b tb) : PE X (.IfExp c a b pos) (tIf tA ta tb) := by
  intro pins s σ H Q I h
  refine wpAny_IfExp (thn (hc pins s σ H _ I h) fun d s1 hh_ => ?_)
  obtain ⟨H1, I1, q1⟩ := hh_
  cases d with
  | true => exact ha pins s1 σ H1 Q I1 q1
  | false => exact hb pins s1 σ H1 Q I1 q1
end
end L2
namespace L2
open PySem PySem.Spec PyProof.Rows
/-! ### a list, a tuple that is read: tracked, frozen, or an object of the module -/
noncomputable def SqL (K : PySem.W.Frag) (H : Hp) (a : Addr) (xs : List V) : Prop :=
  Rd H a (.lst xs) ∨
    ∃ (o : Obj) (its : Array Value) (n : Nat), K.lookup a = some o ∧ o.cls = .type "list" ∧ o.dict = none ∧ o.data = .seq its n ∧ its.size ≤ sizeLine ∧ Vals xs its.toList
noncomputable def SqT (K : PySem.W.Frag) (H : Hp) (a : Addr) (xs : List V) : Prop :=
  Rd H a (.tup xs) ∨
    ∃ (o : Obj) (its : Array Value) (n : Nat), K.lookup a = some o ∧ o.cls = .type "tuple" ∧ o.data = .seq its n ∧ its.size ≤ sizeLine ∧ Vals xs its.toList
noncomputable def absV : Value → Option V
  | .none => some .non
  | .bool b => some (.bl b)
  | .int i _ => some (.int i)
  | .str x _ => some (.str x)
  | .bytes b _ => some (.byt b)
  | .float b _ => some (.flt b)
  | .ref a => some (.ref a)
  | .type n => some (.ty n)
  | _ => none
theorem RelV.abs {x : V} {u : Value} (r : RelV x u) : absV u = some x := by
  cases x with
  | non => cases r; rfl
  | bl _ => cases r; rfl
  | int _ => obtain ⟨t, rfl⟩ := r; rfl
  | str _ => obtain ⟨t, rfl⟩ := r; rfl
  | byt _ => obtain ⟨t, rfl⟩ := r; rfl
  | flt _ => obtain ⟨t, rfl⟩ := r; rfl
  | ref _ => cases r; rfl
  | ty _ => cases r; rfl
theorem RelV.inj {x y : V} {u : Value} (r : RelV x u) (q : RelV y u) : x = y := Option.some.inj (r.abs.symm.trans q.abs)
theorem Vals.inj {xs ys : List V} {us : List Value} (h : Vals xs us) (h' : Vals ys us) : xs = ys := by
  induction h generalizing ys with
  | nil => cases h'; rfl
  | cons r t ih =>
    cases h' with
    | cons r' t' => rw [r.inj r', ih t']
section
variable {X : Cx} {pins : List (Addr × Obj)} {σ : St} {H : Hp} {s : Shared} {a : Addr} {xs ys : List V}
theorem SqL.of {K : PySem.W.Frag} (h : H a = some (.lst xs)) : SqL K H a xs := .inl (.inl h)
theorem SqT.of {K : PySem.W.Frag} (h : H a = some (.tup xs)) : SqT K H a xs := .inl (.inl h)
theorem Inv.list (I : Inv X pins σ H s) (h : SqL X.K H a xs) : ∃ its : List Value, Vals xs its ∧ PlainL s.heap a its.toArray ∧ xs.length ≤ sizeLine := by
  rcases h with h | ⟨o, its, n, hk, hc, hd, hs, hz, r⟩
  · obtain ⟨z, its, n, r, e⟩ := h.ok I.hok
    exact ⟨its, r, ⟨_, n, e, rfl, rfl, rfl⟩, z⟩
  · refine ⟨its.toList, r, ⟨o, n, I.kIn a o hk, hc, hd, by simpa using hs⟩, ?_⟩
    have e := r.length
    simp only [Array.length_toList] at e
    omega
theorem Inv.tuple (I : Inv X pins σ H s) (h : SqT X.K H a xs) : ∃ its : List Value, Vals xs its ∧ IsTup s.heap a its.toArray ∧ xs.length ≤ sizeLine := by
  rcases h with h | ⟨o, its, n, hk, hc, hs, hz, r⟩
  · obtain ⟨z, its, r, p⟩ := h.ok I.hok
    exact ⟨its, r, p, z⟩
  · refine ⟨its.toList, r, ⟨o, I.kIn a o hk, hc, n, by simpa using hs⟩, ?_⟩
    have e := r.length
    simp only [Array.length_toList] at e
    omega
theorem Inv.list_inj (I : Inv X pins σ H s) (h : SqL X.K H a xs) (h' : SqL X.K H a ys) : xs = ys := by
  obtain ⟨its, r, ⟨o, n, e, _, _, d⟩, _⟩ := I.list h
  obtain ⟨its', r', ⟨o', n', e', _, _, d'⟩, _⟩ := I.list h'
  rw [e] at e'; cases e'
  rw [d] at d'
  injection d' with d1 _
  have : its = its' := by simpa using congrArg Array.toList d1
  subst this
  exact r.inj r'
end
/-! ### another wish about exceptions -/
noncomputable abbrev Cx.wish (X : Cx) (E : Value → Shared → Prop) : Cx := { X with xe := E }
/-- no exception leaves -/
noncomputable abbrev Cx.nox (X : Cx) : Cx := X.wish fun _ _ => False
theorem Cx.Ok.wish {X : Cx} (ok : X.Ok) (E : Value → Shared → Prop) : (X.wish E).Ok :=
  ⟨ok.mod, ok.kind, ok.glob, ok.blt, ok.above, ok.inj, ok.has, ok.cab, ok.hd, ok.frames, ok.stk, ok.exf, ok.bs, ok.bsz, ok.noex, ok.exfs, ok.funs, ok.frf⟩
theorem Cx.Ok.unwish {X : Cx} {E : Value → Shared → Prop} (ok : (X.wish E).Ok) : X.Ok :=
  ⟨ok.mod, ok.kind, ok.glob, ok.blt, ok.above, ok.inj, ok.has, ok.cab, ok.hd, ok.frames, ok.stk, ok.exf, ok.bs, ok.bsz, ok.noex, ok.exfs, ok.funs, ok.frf⟩
section
variable {X : Cx} {pins : List (Addr × Obj)} {σ : St} {H : Hp} {s : Shared} {E : Value → Shared → Prop}
theorem Inv.wish (I : Inv X pins σ H s) (E : Value → Shared → Prop) : Inv (X.wish E) pins σ H s := ⟨I.ok.wish E, I.os, I.bare, I.base, I.loc, I.cell, I.free, I.freeC, I.pin, I.hok, I.len⟩
theorem Inv.unwish (I : Inv (X.wish E) pins σ H s) : Inv X pins σ H s := ⟨I.ok.unwish, I.os, I.bare, I.base, I.loc, I.cell, I.free, I.freeC, I.pin, I.hok, I.len⟩
theorem SP.unwish {D : Ends} {f : Flow} {s' : Shared} (h : SP (X.wish E) pins D f s') : SP X pins D f s' := by
  cases f with
  | next => obtain ⟨σ', H', I, q⟩ := h; exact ⟨σ', H', I.unwish, q⟩
  | brk => obtain ⟨σ', H', I, q⟩ := h; exact ⟨σ', H', I.unwish, q⟩
  | cont => obtain ⟨σ', H', I, q⟩ := h; exact ⟨σ', H', I.unwish, q⟩
  | ret u => obtain ⟨v, σ', H', I, r, q⟩ := h; exact ⟨v, σ', H', I.unwish, r, q⟩
theorem PSs.nox {st : List Stmt} {t : TS} (h : PSs X.nox st t) : PSs X st t := fun pins s σ H D I hw =>
  wpAny_mono (h pins s σ H D (I.wish _) hw) (fun _ _ q => q.unwish) fun _ _ z => False.elim z
end
/-! ### blocks and small statements -/
section
variable {X : Cx} {st : Stmt} {rest : List Stmt} {t u : TS} {e : Expr} {te : TE} {pos : Pos}
noncomputable def tNext : TS := fun D σ H => D.nx σ H
noncomputable def tSeq (t u : TS) : TS := fun D σ H => t { D with nx := u D } σ H
theorem pss_nil : PSs X [] tNext := fun _ _ σ H _ I h => wpAny_execs_nil ⟨σ, H, I, h⟩
theorem pss_cons (h1 : PS X st t) (h2 : PSs X rest u) : PSs X (st :: rest) (tSeq t u) := by
  intro pins s σ H D I h
  refine wpAny_execs_cons (thn (h1 pins s σ H { D with nx := u D } I h) fun f s1 q => ?_)
  cases f with
  | next =>
    obtain ⟨σ', H', I', q⟩ := q
    exact h2 pins s1 σ' H' D I' q
  | ret v => exact q
  | brk => exact q
  | cont => exact q
theorem pss_one (h1 : PS X st t) : PSs X [st] t := by
  intro pins s σ H D I h
  refine wpAny_execs_cons (thn (h1 pins s σ H D I h) fun f s1 q => ?_)
  cases f with
  | next => exact wpAny_execs_nil q
  | ret v => exact q
  | brk => exact q
  | cont => exact q
/-- in a def's body nothing is shown -/
theorem Inv.quiet {pins : List (Addr × Obj)} {σ : St} {H : Hp} {s : Shared} (I : Inv X pins σ H s) : interactive X.env = false := by simp [interactive, I.ok.kind]
/-- an expression whose value is dropped -/
noncomputable def tDrop (te : TE) : TS := fun D σ H => te σ H fun _ H1 => D.nx σ H1
theorem ps_expr (he : PE X e te) (hs : swapsWith e none pos.line X.env = pure false := by rfl) : PS X (.Expr e pos) (tDrop te) := by
  intro pins s σ H D I h
  exact wpAny_Expr_any (thn (he pins s σ H _ I h) fun v s1 ⟨x, H1, I1, r1, q1⟩ => ⟨σ, H1, I1, q1⟩) I.quiet hs
noncomputable def tRet (te : TE) : TS := fun D σ H => te σ H D.rt
theorem ps_ret (he : PE X e te) : PS X (.Return (some e) pos) (tRet te) := by
  intro pins s σ H D I h
  exact wpAny_Return_some (thn (he pins s σ H _ I h) fun v s1 ⟨x, H1, I1, r1, q1⟩ => ⟨x, σ, H1, I1, r1, q1⟩)
noncomputable def tIfS (c : TT) (t u : TS) : TS := fun D σ H => c σ H fun b H1 => if b = true then t D σ H1 else u D σ H1
theorem ps_if {c : Expr} {a b : List Stmt} {tc : TT} (hc : PT X c tc) (ha : PSs X a t) (hb : PSs X b u) : PS X (.If c a b pos) (tIfS tc t u) := by
  intro pins s σ H D I h
  refine wpAny_If (thn (hc pins s σ H _ I h) fun d s1 hh_ => ?_)
  obtain ⟨H1, I1, q1⟩ := hh_
  cases d with
  | true => exact ha pins s1 σ H1 D I1 q1
  | false => exact hb pins s1 σ H1 D I1 q1
/-- code that the proof never comes to -/
noncomputable def tNever : TS := fun _ _ _ => False
theorem ps_never : PS X st tNever := fun _ _ _ _ _ _ h => h.elim
end
/-! ### targets -/
noncomputable abbrev TG := V → St → Hp → (St → Hp → Prop) → Prop
noncomputable abbrev TGs := List V → St → Hp → (St → Hp → Prop) → Prop
noncomputable def PG (X : Cx) (target : Expr) (t : TG) : Prop :=
  ∀ (pins : List (Addr × Obj)) (s : Shared) (σ : St) (H : Hp) (v : V) (u : Value) (Q : St → Hp → Prop), Inv X pins σ H s → RelV v u → t v σ H Q →
    wpAny (model X.prog X.w) X.A (assign target X.env u) (fun _ s' => ∃ σ' H', Inv X pins σ' H' s' ∧ Q σ' H') X.xe s
/-- several targets, one after another -/
noncomputable def PGs (X : Cx) (ts : List Expr) (t : TGs) : Prop :=
  ∀ (pins : List (Addr × Obj)) (s : Shared) (σ : St) (H : Hp) (vs : List V) (us : List Value) (Q : St → Hp → Prop), Inv X pins σ H s → Vals vs us → t vs σ H Q →
    wpAny (model X.prog X.w) X.A (assignInOrder ((assignEach ts X.env).map (·.2)) us) (fun _ s' => ∃ σ' H', Inv X pins σ' H' s' ∧ Q σ' H') X.xe s
/-- o[i] = v, by values -/
noncomputable abbrev TSet := V → V → V → Hp → (Hp → Prop) → Prop
noncomputable def PSet (X : Cx) (t : TSet) : Prop :=
  ∀ (pins : List (Addr × Obj)) (s : Shared) (σ : St) (H : Hp) (o i v : V) (ov iv u : Value) (Q : Hp → Prop), Inv X pins σ H s → RelV o ov → RelV i iv → RelV v u → t o i v H Q →
    wpAny (model X.prog X.w) X.A (setItem ov iv u) (fun _ s' => ∃ H', Inv X pins σ H' s' ∧ Q H') X.xe s
/-- a op= b, by values -/
noncomputable abbrev TIp := V → V → Hp → VK → Prop
noncomputable def PIp (X : Cx) (op : Operator) (t : TIp) : Prop :=
  ∀ (pins : List (Addr × Obj)) (s : Shared) (σ : St) (H : Hp) (x y : V) (v u : Value) (Q : VK), Inv X pins σ H s → RelV x v → RelV y u → t x y H Q →
    wpAny (model X.prog X.w) X.A (inplaceOp op v u) (EP X pins σ Q) X.xe s
section
variable {X : Cx} {pos : Pos}
noncomputable def gName (i : Nat) : TG := fun v σ H Q => Q (σ.set i (some v)) H
theorem pg_name {i : Nat} {x : Str} (hN : X.N.Nodup) (hi : X.N[i]? = some x) (hx : Loc X.env.scope x) (hf : X.fn x = true ∨ X.env.scope.names.lookup x = some .local := by first | exact .inl rfl | exact .inr rfl | assumption) : PG X (.Name x pos) (gName i) := by
  intro pins s σ H v u Q I r h
  exact wpAny_assign_Name (store_ok I hN hi hx r (fun s' I' => ⟨_, H, I', h⟩) hf)
noncomputable def gNil : TGs := fun vs σ H Q => vs = [] ∧ Q σ H
noncomputable def gCons (t : TG) (u : TGs) : TGs := fun vs σ H Q => ∃ v r, vs = v :: r ∧ t v σ H fun σ' H' => u r σ' H' Q
theorem pgs_nil : PGs X [] gNil := by
  intro pins s σ H vs us Q I r h
  obtain ⟨e, h⟩ := h
  subst e
  cases r
  exact assignInOrder_nil ⟨σ, H, I, h⟩
theorem pgs_cons {e : Expr} {es : List Expr} {t : TG} {u : TGs} (h1 : PG X e t) (h2 : PGs X es u)
    (hs : (assignEach (e :: es) X.env).map (·.2) = assign e X.env :: (assignEach es X.env).map (·.2) := by rfl) : PGs X (e :: es) (gCons t u) := by
  intro pins s σ H vs us Q I r h
  obtain ⟨v, vr, e1, h⟩ := h
  subst e1
  cases r with
  | cons r rr =>
    rw [hs]
    refine assignInOrder_cons (thn (h1 pins s σ H _ _ _ I r h) fun _ s1 hh_ => ?_)
    obtain ⟨σ1, H1, I1, q1⟩ := hh_
    exact h2 pins s1 σ1 H1 _ _ Q I1 rr q1
/-- (a, b, ..) = a tuple of that length -/
noncomputable def gTup (K : PySem.W.Frag) (n : Nat) (t : TGs) : TG := fun v σ H Q => ∃ a xs, v = .ref a ∧ SqT K H a xs ∧ xs.length = n ∧ t xs σ H Q
theorem pg_tup {es : List Expr} {k : Nat} {t : TGs} {n : Nat} (hc : X.calm = true) (h : PGs X es t)
    (hn : (assignEach es X.env).length = n := by rfl) (hst : (assignEach es X.env).findIdx? (·.1) = none := by rfl) : PG X (.Tuple es k pos) (gTup X.K n t) := by
  intro pins s σ H v u Q I r hw
  obtain ⟨a, xs, e1, hq, hl, hw⟩ := hw
  subst e1
  cases r
  obtain ⟨its, rv, ht, hz⟩ := I.tuple hq
  refine assign_Tuple_tuple (I.ok.hd hc) ht (by simp [hn, ← hl, rv.length]) hst fun h' hx => ?_
  have I1 : Inv X pins σ H { s with heap := h' } := I.kept (t' := s.toks) fun b o e => hx b o (Nat.ne_of_lt (Heap.lt_size e)) e
  exact h pins _ σ H xs _ Q I1 (by simpa using rv) hw
/-- o[i] = .. -/
noncomputable def gSub (to ti : TE) (t : TSet) : TG := fun v σ H Q => to σ H fun o H1 => ti σ H1 fun i H2 => t o i v H2 fun H3 => Q σ H3
theorem pg_sub {o i : Expr} {to ti : TE} {t : TSet} (ho : PE X o to) (hi : PE X i ti) (hs : PSet X t)
    (ha : ∀ v, assign (.Subscript o i pos) X.env v = (do
      let ov ← holding [v] (eval o X.env)
      let iv ← holding [v, ov] (eval i X.env)
      standAt pos
      holding [v, ov, iv] (setItem ov iv v)
      release [v, ov, iv] []) := by intro _; rfl) : PG X (.Subscript o i pos) (gSub to ti t) := by
  intro pins s σ H v u Q I r h
  rw [ha]
  refine wpAny_bind (wpAny_holding (thn (ho pins s σ H _ I h) fun ov s1 hh_ => ?_))
  obtain ⟨x, H1, I1, r1, q1⟩ := hh_
  refine wpAny_bind (wpAny_holding (thn (hi pins s1 σ H1 _ I1 q1) fun iv s2 hh_ => ?_))
  obtain ⟨y, H2, I2, r2, q2⟩ := hh_
  refine wpAny_bind (wpAny_standAt (wpAny_bind (wpAny_holding (thn (hs pins s2 σ H2 x y v ov iv u _ I2 r1 r2 r q2) fun _ s3 hh_ => ?_))))
  obtain ⟨H3, I3, q3⟩ := hh_
  exact wpAny_release ⟨σ, H3, I3, q3⟩
/-- target = value -/
noncomputable def tAsg (te : TE) (g : TG) : TS := fun D σ H => te σ H fun x H1 => g x σ H1 D.nx
theorem ps_asg {tg e : Expr} {te : TE} {g : TG} (he : PE X e te) (hg : PG X tg g) (hs : swapsWithSole [tg] e pos.line X.env = pure false := by rfl) (hw : swappedStores [tg] e X.env = pure none := by rfl)
    (h1 : (assignEach [tg] X.env).map (·.2) = [assign tg X.env] := by rfl) : PS X (.Assign [tg] e pos) (tAsg te g) := by
  intro pins s σ H D I h
  refine wpAny_Assign_stores (thn (he pins s σ H _ I h) fun v s1 hh_ => ?_) hs hw
  obtain ⟨x, H1, I1, r1, q1⟩ := hh_
  rw [h1]
  exact thn (hg pins s1 σ H1 x v _ I1 r1 q1) fun _ s2 q => q
/-- name = value -/
theorem ps_set {i : Nat} {x : Str} {e : Expr} {te : TE} {pos' : Pos} (hN : X.N.Nodup) (hi : X.N[i]? = some x) (hx : Loc X.env.scope x) (he : PE X e te) (hs : swapsWith e (some (.Name x pos')) pos.line X.env = pure false := by rfl) (hf : X.fn x = true ∨ X.env.scope.names.lookup x = some .local := by first | exact .inl rfl | exact .inr rfl | assumption) :
    PS X (.Assign [.Name x pos'] e pos) (tAsg te (gName i)) := by
  intro pins s σ H D I h
  refine wpAny_Assign_Name (thn (he pins s σ H _ I h) fun v s1 hh_ => ?_) hs
  obtain ⟨y, H1, I1, r1, q1⟩ := hh_
  exact store_ok I1 hN hi hx r1 (fun s2 I2 => ⟨_, H1, I2, q1⟩) hf
/-- name op= e -/
noncomputable def tAug (i : Nat) (te : TE) (ti : TIp) : TS := fun D σ H => ∃ x, σ[i]? = some (some x) ∧ te σ H fun y H1 => ti x y H1 fun z H2 => D.nx (σ.set i (some z)) H2
theorem ps_aug {i : Nat} {x : Str} {e : Expr} {te : TE} {op : Operator} {ti : TIp} {pos' : Pos} (hN : X.N.Nodup) (hi : X.N[i]? = some x) (hx : Loc X.env.scope x) (he : PE X e te) (ho : PIp X op ti) (hf : X.fn x = true ∨ X.env.scope.names.lookup x = some .local := by first | exact .inl rfl | exact .inr rfl | assumption) :
    PS X (.AugAssign (.Name x pos') op e pos) (tAug i te ti) := by
  intro pins s σ H D I h
  obtain ⟨v, e1, h⟩ := h
  obtain ⟨m, hn, hl⟩ := I.loc
  have vis : Vis X.env.scope x := by rcases hx with k | k; exact .inl k; exact .inr (.inl k)
  obtain ⟨u, r, l⟩ := hl i x v hi e1 vis
  refine wpAny_AugAssign_Name ?_
  have go : wpAny (model X.prog X.w) X.A (eval e X.env) (fun w s₂ => wpAny (model X.prog X.w) X.A (inplaceOp op u w) (fun r s₃ => wpAny (model X.prog X.w) X.A (storeName X.env x r) (fun _ => SP X pins D .next) X.xe s₃) X.xe s₂) X.xe s := by
    refine thn (he pins s σ H _ I h) fun w s1 hh_ => ?_
    obtain ⟨y, H1, I1, r1, q1⟩ := hh_
    refine thn (ho pins s1 σ H1 v y u w _ I1 r r1 q1) fun z s2 hh_ => ?_
    obtain ⟨zv, H2, I2, r2, q2⟩ := hh_
    exact store_ok I2 hN hi hx r2 (fun s3 I3 => ⟨_, H2, I3, q2⟩) hf
  rcases l with ⟨hk, hm⟩ | ⟨hk, c, hc, hcell⟩
  · exact wpAny_loadName_local I.ok.kind hk hn hm go
  · rcases hk with hk | hk
    · exact wpAny_loadName_cell I.ok.kind hk hc hcell go
    · rcases hx with k | k
      · have : X.env.scope.names.lookup x = some .free := hk
        rw [k] at this; cases this
      · have : X.env.scope.names.lookup x = some .free := hk
        rw [k] at this; cases this
/-- ints -/
noncomputable def ipI (f : Int → Int → Int) : TIp := fun x y H Q => ∃ i j, x = .int i ∧ y = .int j ∧ Q (.int (f i j)) H
theorem ip_add : PIp X .Add (ipI fun i j => i + j) := by
  intro pins s σ H x y v u Q I r1 r2 h
  obtain ⟨i, j, e1, e2, q⟩ := h
  subst e1; subst e2
  obtain ⟨t, rfl⟩ := r1
  obtain ⟨t', rfl⟩ := r2
  exact iadd_int ⟨.int _, H, I.tok _, ⟨_, rfl⟩, q⟩
end
/-! ### while -/
section
variable {X : Cx} {pos : Pos}
/-- the invariant W with its measure -/
noncomputable def tWhile (c : TT) (tb : TS) : TS := fun D σ H => ∃ W : Nat → St → Hp → Prop, (∃ m, W m σ H) ∧ ∀ m σ H, W m σ H →
  c σ H fun b H1 => if b = true then ∃ N : St → Hp → Prop, (∀ σ' H', N σ' H' → ∃ m', m' < m ∧ W m' σ' H') ∧ tb { D with nx := N, ct := N, bk := D.nx } σ H1 else D.nx σ H1
theorem ps_while {c : Expr} {body : List Stmt} {tc : TT} {tb : TS} (hp : PassesOwn (model X.prog X.w) X.A X.env X.xe) (hc : PT X c tc) (hb : PSs X body tb) : PS X (.While c body [] pos) (tWhile tc tb) := by
  intro pins s σ H D I h
  obtain ⟨W, ⟨m0, w0⟩, turn⟩ := h
  refine wpAny_While (codeAny_whileLoop (fun n s' => ∃ σ' H', Inv X pins σ' H' s' ∧ W n σ' H') ?_ m0 ⟨σ, H, I, w0⟩)
  rintro n s1 ⟨σ1, H1, I1, w1⟩
  refine wpAny_passesOwn hp (thn (hc pins s1 σ1 H1 _ I1 (turn n σ1 H1 w1)) fun b s2 hh_ => ?_)
  obtain ⟨H2, I2, q2⟩ := hh_
  cases b with
  | true =>
    obtain ⟨N, hN, q2⟩ := q2
    rw [if_pos rfl]
    refine wpAny_passesOwn hp (thn (hb pins s2 σ1 H2 _ I2 q2) fun f s3 q3 => ?_)
    cases f with
    | next =>
      obtain ⟨σ3, H3, I3, n3⟩ := q3
      obtain ⟨m', hm, w3⟩ := hN σ3 H3 n3
      exact ⟨m', hm, σ3, H3, I3, w3⟩
    | cont =>
      obtain ⟨σ3, H3, I3, n3⟩ := q3
      obtain ⟨m', hm, w3⟩ := hN σ3 H3 n3
      exact ⟨m', hm, σ3, H3, I3, w3⟩
    | brk => exact q3
    | ret v => exact q3
  | false =>
    rw [if_neg Bool.false_ne_true]
    exact wpAny_execs_nil ⟨σ1, H2, I2, q2⟩
end
/-! ### what a loop or a comprehension walks -/
/-- at turn i: it yields x (the heap may grow), or it stops -/
structure It where
  go : Nat → Hp → Prop
  yld : Nat → Hp → V → Hp → Prop
  stop : Nat → Hp → Prop
/-- the iterator's own objects may turn: they are not the frame's, not pinned, younger than the entry (or a comprehension's own) -/
noncomputable def FpOk (X : Cx) (pins : List (Addr × Obj)) (H : Hp) (b : Addr) : Prop :=
  H b = none ∧ b ≠ X.env.locals ∧ b ∉ X.fs ∧ (b ∈ X.ex ∨ X.s_0.heap.objs.size ≤ b) ∧ (∀ x c, X.env.cells.lookup x = some c → c ≠ b) ∧ ∀ p ∈ X.pn ++ pins, p.1 ≠ b
theorem Inv.fpOk {X : Cx} {pins : List (Addr × Obj)} {σ : St} {H H' : Hp} {s : Shared} {b : Addr} (I : Inv X pins σ H s) (hb : s.heap.objs.size ≤ b) (hn : H' b = none) : FpOk X pins H' b := by
  refine ⟨hn, Nat.ne_of_gt (Nat.lt_of_lt_of_le I.lt hb), I.nofs hb, .inr (Nat.le_trans I.sz hb), fun x c e z => ?_, fun p hp z => ?_⟩
  · obtain ⟨v, q⟩ := I.cell x c e
    exact absurd (Nat.lt_of_lt_of_le q.lt (by rw [z]; exact hb)) (Nat.lt_irrefl _)
  · exact absurd (Nat.lt_of_lt_of_le (Heap.lt_size (I.pin p hp).1) (by rw [z]; exact hb)) (Nat.lt_irrefl _)
structure Turn (P : Program) (w : World) (K : PySem.W.Frag) (tg : Expr) (J : It) (fp : List Addr) (it : Addr) (tn : Nat → Heap → Prop) : Prop where
  mem : it ∈ fp
  obj : ∀ i h, tn i h → ∀ b ∈ fp, ∃ o, h.get? b = some o ∧ ∀ v, o.data ≠ .cell v
  keep : ∀ i h h', tn i h → (∀ b ∈ fp, ∀ o, h.get? b = some o → h'.get? b = some o) → tn i h'
  item : ∀ (X : Cx), X.prog = P → X.w = w → X.K = K → X.calm = true → ∀ (i : Nat) (pins : List (Addr × Obj)) (s : Shared) (σ : St) (H : Hp) (E : Value → Shared → Prop), Inv X pins σ H s → (∀ b ∈ fp, FpOk X pins H b) → tn i s.heap → J.go i H →
    wpAny (model P w) X.A (pyNext (.ref it)) (fun r s1 => ∃ u, r = some u ∧
      wpAny (model P w) X.A (letOwnedTupleGo tg (.ref it) u) (fun _ s2 => ∃ x H', Inv X pins σ H' s2 ∧ RelV x u ∧ J.yld i H x H' ∧ tn (i + 1) s2.heap ∧ ∀ b ∈ fp, H' b = none) E s1) E s
  done : ∀ (X : Cx), X.prog = P → X.w = w → X.K = K → X.calm = true → ∀ (i : Nat) (pins : List (Addr × Obj)) (s : Shared) (σ : St) (H : Hp) (E : Value → Shared → Prop), Inv X pins σ H s → (∀ b ∈ fp, FpOk X pins H b) → tn i s.heap → J.stop i H →
    wpAny (model P w) X.A (pyNext (.ref it)) (fun r s1 => r = none ∧ Inv X pins σ H s1) E s
  self : ∀ (A : Around) (i : Nat) (s : Shared) (Q : Value → Shared → Prop) (E : Value → Shared → Prop), tn i s.heap → Q (.ref it) s → wpAny (model P w) A (pyIter (.ref it)) Q E s
noncomputable abbrev TI := St → Hp → (It → Hp → Prop) → Prop
/-- an iterator has come -/
noncomputable def PIE (X : Cx) (pins : List (Addr × Obj)) (σ : St) (tg : Expr) (R : It → Hp → Prop) (itv : Value) (s2 : Shared) : Prop :=
  ∃ (it : Addr) (fp : List Addr) (tn : Nat → Heap → Prop) (J : It) (H' : Hp), itv = .ref it ∧ Inv X pins σ H' s2 ∧ Turn X.prog X.w X.K tg J fp it tn ∧ tn 0 s2.heap ∧ (∀ b ∈ fp, FpOk X pins H' b) ∧ R J H'
noncomputable def PI (X : Cx) (tg iter : Expr) (wi : TI) : Prop :=
  ∀ (pins : List (Addr × Obj)) (s : Shared) (σ : St) (H : Hp) (R : It → Hp → Prop), Inv X pins σ H s → wi σ H R →
    wpAny (model X.prog X.w) X.A (eval iter X.env) (fun v s1 => wpAny (model X.prog X.w) X.A (pyIter v) (PIE X pins σ tg R) X.xe s1) X.xe s
/-- the step ahead of the store is nothing for an iterator that keeps no tuple -/
theorem go_of {M : Model} {A : Around} {E : Value → Shared → Prop} {s : Shared} {tg : Expr} {it : Addr} {u : Value} {o : Obj} {n : String} {vs : Array Value} {Q : Unit → Shared → Prop} (ho : s.heap.get? it = some o) (hc : o.cls = .type n) (hd : o.data = .fields vs)
    (hn : ["enumerate", "zip", "dict_itemiterator", "dict_reverseitemiterator", "odict_iterator", "itertools.zip_longest", "itertools.pairwise"].contains n = false) (hQ : Q () s) : wpAny M A (letOwnedTupleGo tg (.ref it) u) Q E s := by
  unfold letOwnedTupleGo
  cases tg <;> first
    | exact wpAny_pure hQ
    | (cases u <;> first
        | exact wpAny_pure hQ
        | (refine wpAny_bind (wpAny_load ho ?_)
           rw [hc, hd]
           show wpAny M A (if (["enumerate", "zip", "dict_itemiterator", "dict_reverseitemiterator", "odict_iterator", "itertools.zip_longest", "itertools.pairwise"].contains n && vs[0]? == some (rawInt _)) = true then _ else _) Q E s
           rw [if_neg (by intro h; rw [hn, Bool.false_and] at h; cases h)]
           exact wpAny_pure hQ))
/-- the list at a, as it stands at each turn (a loop may append to it) -/
noncomputable def Itl (K : PySem.W.Frag) (a : Addr) : It :=
  ⟨fun i H => ∃ xs x, SqL K H a xs ∧ xs[i]? = some x, fun i H x H' => H' = H ∧ ∀ xs, SqL K H a xs → xs[i]? = some x, fun i H => ∃ xs, SqL K H a xs ∧ xs.length ≤ i⟩
/-- lo, lo + 1, .. (n of them) -/
noncomputable def Itr (lo : Int) (n : Nat) : It := ⟨fun i _ => i < n, fun i H x H' => H' = H ∧ x = .int (lo + i), fun i _ => n ≤ i⟩
theorem turn_list {P : Program} {w : World} {K : PySem.W.Frag} {tg : Expr} (a it : Addr) : Turn P w K tg (Itl K a) [it] it (fun i h => h.IsListIter it a i) where
  mem := by simp
  obj := fun i h st b hb => by
    have e : b = it := by simpa using hb
    subst e
    obtain ⟨o, e, c, d⟩ := st
    exact ⟨o, e, fun v z => by rw [d] at z; cases z⟩
  keep := fun i h h' st k => st.at fun o e => k it (by simp) o e
  item := by
    intro X hP hw hK hc i pins s σ H E I hf st hg
    subst hP hw hK
    obtain ⟨xs, x, hq, hx⟩ := hg
    obtain ⟨its, rv, p, hz⟩ := I.list hq
    obtain ⟨u, hu, ru⟩ := rv.get hx
    obtain ⟨f0, f1, f2, f3, f4, f5⟩ := hf it (by simp)
    refine wpAny_pyNext_list_item st p.isList (x := u) (by simpa using hu) fun h' st' sb => ?_
    have I1 : Inv X pins σ H { s with heap := h' } := I.turned (t' := s.toks) (fun b o hb e => (sb.2 b hb).trans e) f0 f1 f3 f4 f5
    obtain ⟨o, e, c, d⟩ := id st'
    exact ⟨u, rfl, go_of (s := { s with heap := h' }) e c d (by decide) ⟨x, H, I1, ru, ⟨rfl, fun ys hy => by rw [I.list_inj hy hq]; exact hx⟩, st', fun b hb => (hf b hb).1⟩⟩
  done := by
    intro X hP hw hK hc i pins s σ H E I hf st hg
    subst hP hw hK
    obtain ⟨xs, hq, hx⟩ := hg
    obtain ⟨its, rv, p, hz⟩ := I.list hq
    obtain ⟨f0, f1, f2, f3, f4, f5⟩ := hf it (by simp)
    have hl := rv.length
    exact wpAny_pyNext_list_end (I.ok.hd hc) st p.isList (by simp; omega) fun h' eb => ⟨rfl, I.turned (t' := s.toks) (fun b o hb e => eb b o hb e) f0 f1 f3 f4 f5⟩
  self := fun _ _ _ _ _ st h => wpAny_pyIter_listiter st h
theorem turn_range {P : Program} {w : World} {K : PySem.W.Frag} {tg : Expr} (it : Addr) (lo : Int) (n : Nat) : Turn P w K tg (Itr lo n) [it] it (fun i h => IsRangeIter h it (lo + (i : Nat) * 1) ((n : Int) - (i : Nat)) 1) where
  mem := by simp
  obj := fun i h st b hb => by
    have e : b = it := by simpa using hb
    subst e
    exact ⟨_, st, fun v z => by
      have z' : Data.fields _ = Data.cell v := z
      cases z'⟩
  keep := fun i h h' st k => k it (by simp) _ st
  item := by
    intro X hP hw hK hc i pins s σ H E I hf st hg
    subst hP hw hK
    obtain ⟨f0, f1, f2, f3, f4, f5⟩ := hf it (by simp)
    have W := Walks.range (prog := X.prog) (w := X.w) (I.ok.hd hc) it lo 1 n
    refine W.item i s _ _ hg st fun v h' tk hv st' kk => ?_
    obtain ⟨t, rfl⟩ := hv
    have I1 : Inv X pins σ H { s with heap := h', toks := tk } := I.turned (fun b o hb e => kk b o (by simpa using hb) e) f0 f1 f3 f4 f5
    refine ⟨_, rfl, go_of (s := { s with heap := h', toks := tk }) (n := "range_iterator") st' rfl rfl (by decide) ⟨.int (lo + i), H, I1, ⟨t, ?_⟩, ⟨rfl, rfl⟩, st', fun b hb => (hf b hb).1⟩⟩
    rw [Int.mul_one]
  done := by
    intro X hP hw hK hc i pins s σ H E I hf st hg
    subst hP hw hK
    obtain ⟨f0, f1, f2, f3, f4, f5⟩ := hf it (by simp)
    exact wpAny_pyNext_range_end (I.ok.hd hc) st (by have : n ≤ i := hg; omega) fun h' eb => ⟨rfl, I.turned (t' := s.toks) (fun b o hb e => eb b o hb e) f0 f1 f3 f4 f5⟩
  self := fun _ _ _ _ _ st h => wpAny_pyIter_rangeiter st h
end L2
namespace L2
open PySem PySem.Spec PyProof.Rows
section
variable {X : Cx} {tg : Expr}
noncomputable def iList (K : PySem.W.Frag) (tl : TE) : TI := fun σ H R => tl σ H fun x H1 => ∃ a, x = .ref a ∧ (∃ xs, SqL K H1 a xs) ∧ R (Itl K a) H1
theorem pi_list {l : Expr} {tl : TE} (hl : PE X l tl) : PI X tg l (iList X.K tl) := by
  intro pins s σ H R I h
  refine thn (hl pins s σ H _ I h) fun v s1 hh_ => ?_
  obtain ⟨x, H1, I1, r1, q1⟩ := hh_
  obtain ⟨a, e, ⟨xs, hq⟩, q⟩ := q1
  subst e
  cases r1
  obtain ⟨its, rv, p, hz⟩ := I1.list hq
  refine wpAny_pyIter_list p.isList ?_
  refine ⟨s1.heap.objs.size, [s1.heap.objs.size], _, _, H1, rfl, I1.kept (t' := s1.toks) fun b o e => Heap.get?_push_of_some _ e, turn_list a _, ⟨_, Heap.get?_push_size _ rfl, rfl, rfl⟩, fun b hb => ?_, q⟩
  have e : b = s1.heap.objs.size := by simpa using hb
  subst e
  exact I1.fpOk (Nat.le_refl _) (I1.hok.fresh (Nat.le_refl _))
/-- a range object just made, walked -/
theorem range_it {pins : List (Addr × Obj)} {σ : St} {H : Hp} {s : Shared} {R : It → Hp → Prop} {E : Value → Shared → Prop} {lo hi : Int} {t u v : Tok} {tk : Nat} (I : Inv X pins σ H s) (h1 : -(2 ^ 62) ≤ lo) (h2 : lo < 2 ^ 62) (h3 : -(2 ^ 62) ≤ hi) (h4 : hi < 2 ^ 62)
    (q : R (Itr lo (hi - lo).toNat) H) : wpAny (model X.prog X.w) X.A (pyIter (.ref s.heap.objs.size)) (PIE X pins σ tg R) E { s with heap := s.heap.push { cls := .type "range", data := .fields #[.int lo t, .int hi u, .int 1 v] }, toks := tk } := by
  refine wpAny_pyIter_range (IsRange.new ..) (small_one h1 h2 h3 h4) ?_
  have I1 : Inv X pins σ H { s with heap := s.heap.push { cls := .type "range", data := .fields #[.int lo t, .int hi u, .int 1 v] }, toks := tk } := I.kept fun b o e => Heap.get?_push_of_some _ e
  refine ⟨(s.heap.push { cls := .type "range", data := .fields #[.int lo t, .int hi u, .int 1 v] }).objs.size, [(s.heap.push { cls := .type "range", data := .fields #[.int lo t, .int hi u, .int 1 v] }).objs.size], _, _, H, rfl,
    I1.kept (t' := tk) fun b o e => Heap.get?_push_of_some _ e, turn_range _ lo (hi - lo).toNat, ?_, fun b hb => ?_, q⟩
  · have e1 : lo + ((0 : Nat) : Int) * 1 = lo := by simp
    have e2 : (((hi - lo).toNat : Nat) : Int) - ((0 : Nat) : Int) = Builtin.Range.rangeSize lo hi 1 := by rw [rangeSize_one]; split <;> omega
    show IsRangeIter _ _ (lo + ((0 : Nat) : Int) * 1) ((((hi - lo).toNat : Nat) : Int) - ((0 : Nat) : Int)) 1
    rw [e1, e2]
    exact Heap.get?_push_size _ rfl
  · have e : b = (s.heap.push { cls := .type "range", data := .fields #[.int lo t, .int hi u, .int 1 v] }).objs.size := by simpa using hb
    subst e
    exact I1.fpOk (Nat.le_refl _) (I1.hok.fresh (Nat.le_refl _))
noncomputable def iRng1 (ta : TA) : TI := fun σ H R => ta σ H fun vs H1 => ∃ j : Int, vs = [.int j] ∧ -(2 ^ 62) ≤ j ∧ j < 2 ^ 62 ∧ R (Itr 0 j.toNat) H1
noncomputable def iRng2 (ta : TA) : TI := fun σ H R => ta σ H fun vs H1 => ∃ i j : Int, vs = [.int i, .int j] ∧ (-(2 ^ 62) ≤ i ∧ i < 2 ^ 62 ∧ -(2 ^ 62) ≤ j ∧ j < 2 ^ 62) ∧ R (Itr i (j - i).toNat) H1
theorem pi_range1 {a : Expr} {ta : TA} {p pos : Pos} (hg : Gl X "range") (hm : X.mg "range" = none) (ha : PA X [a] ta) (hs : starEach [a] X.env = [(false, eval a X.env)] := by rfl) : PI X tg (.Call (.Name "range" p) [a] [] pos) (iRng1 ta) := by
  intro pins s σ H R I h
  refine Call_ (ld_blt I hg hm boot_range (PyProof.Rows.callWith_type1 (thn (ha pos pins s σ H _ I h) fun us s1 hh_ => ?_) hs rfl))
  obtain ⟨vs, H1, I1, r1, q1⟩ := hh_
  obtain ⟨j, e, q1, q2, q⟩ := q1
  subst e
  cases r1 with
  | cons r rr =>
    cases rr
    obtain ⟨t, rfl⟩ := r
    exact call_range_1 (range_it I1 (by omega) (by omega) q1 q2 (by simpa using q))
theorem pi_range2 {a b : Expr} {ta : TA} {p pos : Pos} (hg : Gl X "range") (hm : X.mg "range" = none) (ha : PA X [a, b] ta) (hs : starEach [a, b] X.env = [(false, eval a X.env), (false, eval b X.env)] := by rfl) (hs2 : starEach [b] X.env = [(false, eval b X.env)] := by rfl) :
    PI X tg (.Call (.Name "range" p) [a, b] [] pos) (iRng2 ta) := by
  intro pins s σ H R I h
  refine Call_ (ld_blt I hg hm boot_range (PyProof.Rows.callWith_type1 (thn (ha pos pins s σ H _ I h) fun us s1 hh_ => ?_) (by rw [hs, hs2]) (by rw [hs2]; rfl)))
  obtain ⟨vs, H1, I1, r1, q1⟩ := hh_
  obtain ⟨i, j, e, ⟨q1, q2, q3, q4⟩, q⟩ := q1
  subst e
  cases r1 with
  | cons r rr =>
    cases rr with
    | cons r' rr =>
      cases rr
      obtain ⟨t, rfl⟩ := r
      obtain ⟨t', rfl⟩ := r'
      exact call_range_2 (range_it I1 q1 q2 q3 q4 q)
/-! ### for -/
/-- W: the invariant by the turn and a measure; N: what the body is to reach -/
noncomputable def tFor (wi : TI) (g : TG) (tb : TS) : TS := fun D σ H => wi σ H fun J H1 => ∃ W : Nat → Nat → St → Hp → Prop, (∃ m, W 0 m σ H1) ∧ ∀ i m σ H, W i m σ H →
  (J.stop i H ∧ D.nx σ H) ∨ (J.go i H ∧ ∃ N : St → Hp → Prop, (∀ σ' H', N σ' H' → ∃ m', m' < m ∧ W (i + 1) m' σ' H') ∧ ∀ x H', J.yld i H x H' → g x σ H' fun σ2 H2 => tb { D with nx := N, ct := N, bk := D.nx } σ2 H2)
/-- the records at fp as they stand -/
noncomputable def pinsAt (fp : List Addr) (h : Heap) : List (Addr × Obj) := fp.filterMap fun b => (h.get? b).map fun o => (b, o)
theorem mem_pinsAt {fp : List Addr} {h : Heap} {b : Addr} {o : Obj} (hb : b ∈ fp) (e : h.get? b = some o) : (b, o) ∈ pinsAt fp h := List.mem_filterMap.mpr ⟨b, hb, by rw [e]; rfl⟩
theorem of_pinsAt {fp : List Addr} {h : Heap} {p : Addr × Obj} (hp : p ∈ pinsAt fp h) : p.1 ∈ fp ∧ h.get? p.1 = some p.2 := by
  obtain ⟨b, hb, e⟩ := List.mem_filterMap.mp hp
  cases q : h.get? b with
  | none => rw [q] at e; cases e
  | some o =>
    rw [q] at e
    have e' : (b, o) = p := Option.some.inj e
    subst e'
    exact ⟨hb, q⟩
theorem Inv.pinned {pins : List (Addr × Obj)} {σ : St} {H : Hp} {s : Shared} {fp : List Addr} (I : Inv X pins σ H s) (hf : ∀ b ∈ fp, FpOk X pins H b) (ho : ∀ b ∈ fp, ∃ o, s.heap.get? b = some o ∧ ∀ v, o.data ≠ .cell v) : Inv X (pins ++ pinsAt fp s.heap) σ H s :=
  I.pins_of fun p hp => (List.mem_append.mp hp).elim (fun z => I.pin p (List.mem_append_right _ z)) fun z => by
    obtain ⟨hb, e⟩ := of_pinsAt z
    obtain ⟨f0, f1, f2, _⟩ := hf p.1 hb
    obtain ⟨o, e', d⟩ := ho p.1 hb
    rw [e] at e'; cases e'
    exact ⟨e, f0, f1, f2, d⟩
theorem Inv.unpinned {pins pl : List (Addr × Obj)} {σ : St} {H : Hp} {s : Shared} (I : Inv X (pins ++ pl) σ H s) : Inv X pins σ H s := I.pins_of fun p hp => I.pin p (List.mem_append_right _ (List.mem_append_left _ hp))
theorem ps_for {iter : Expr} {body : List Stmt} {wi : TI} {g : TG} {tb : TS} {pos : Pos} (hp : PassesOwn (model X.prog X.w) X.A X.env X.xe) (hc : X.calm = true) (hi : PI X tg iter wi) (hg : PG X tg g) (hb : PSs X body tb)
    (hs : ∀ x, foldedSetIterable iter X.env x = pure x := by intro _; rfl) : PS X (.For tg iter body [] pos) (tFor wi g tb) := by
  intro pins s σ H D I h
  refine wpAny_For (thn (hi pins s σ H _ I h) fun v s1 h1 => thn h1 fun itv s2 h2 => ?_) hs
  obtain ⟨it, fp, tn, J, H2, e, I2, T, st2, f2, W, ⟨m0, w0⟩, turn⟩ := h2
  subst e
  -- what stays true of the iterator's objects through the loop
  have stat : ∀ {H' : Hp}, (∀ b ∈ fp, H' b = none) → ∀ b ∈ fp, FpOk X pins H' b := fun hn b hb => ⟨hn b hb, (f2 b hb).2⟩
  refine codeAny_forLoop_any (fun n s' => ∃ i σ' H', Inv X pins σ' H' s' ∧ tn i s'.heap ∧ (∀ b ∈ fp, H' b = none) ∧ W i n σ' H') ?_ m0 ⟨0, σ, H2, I2, st2, fun b hb => (f2 b hb).1, w0⟩
  rintro n s3 ⟨i, σ3, H3, I3, st3, fr3, w3⟩
  rcases turn i n σ3 H3 w3 with ⟨stop, qn⟩ | ⟨go, N, hN, step⟩
  · refine wpAny_passesOwn hp (thn (T.done X rfl rfl rfl hc i pins s3 σ3 H3 X.xe I3 (stat fr3) st3 stop) fun r s4 hh_ => ?_)
    obtain ⟨hr, I4⟩ := hh_
    subst hr
    exact wpAny_execs_nil ⟨σ3, H3, I4, qn⟩
  · refine wpAny_passesOwn hp (thn (T.item X rfl rfl rfl hc i pins s3 σ3 H3 X.xe I3 (stat fr3) st3 go) fun r s4 hh_ => ?_)
    obtain ⟨u, hr, h4⟩ := hh_
    subst hr
    refine wpAny_passesOwn hp (thn h4 fun _ s5 hh_ => ?_)
    obtain ⟨x, H5, I5, r5, y5, st5, fr5⟩ := hh_
    have I5' := I5.pinned (stat fr5) (T.obj _ _ st5)
    refine wpAny_passesOwn hp (thn (hg _ s5 σ3 H5 x u _ I5' r5 (step x H5 y5)) fun _ s6 hh_ => ?_)
    obtain ⟨σ6, H6, I6, q6⟩ := hh_
    refine wpAny_passesOwn hp (thn (hb _ s6 σ6 H6 _ I6 q6) fun f s7 q7 => ?_)
    have again : ∀ {σ7 : St} {H7 : Hp}, Inv X (pins ++ pinsAt fp s5.heap) σ7 H7 s7 → N σ7 H7 → ∃ m, m < n ∧ ∃ i σ' H', Inv X pins σ' H' s7 ∧ tn i s7.heap ∧ (∀ b ∈ fp, H' b = none) ∧ W i m σ' H' := fun {σ7 H7} I7 n7 => by
      obtain ⟨m', hm, w7⟩ := hN σ7 H7 n7
      refine ⟨m', hm, i + 1, σ7, H7, I7.unpinned, T.keep _ _ _ st5 fun b hb o e => (I7.pin (b, o) (List.mem_append_right _ (List.mem_append_right _ (mem_pinsAt hb e)))).1, fun b hb => ?_, w7⟩
      obtain ⟨o, e, d⟩ := T.obj _ _ st5 b hb
      exact (I7.pin (b, o) (List.mem_append_right _ (List.mem_append_right _ (mem_pinsAt hb e)))).2.1
    cases f with
    | next => obtain ⟨σ7, H7, I7, n7⟩ := q7; exact again I7 n7
    | cont => obtain ⟨σ7, H7, I7, n7⟩ := q7; exact again I7 n7
    | brk => obtain ⟨σ7, H7, I7, q7⟩ := q7; exact ⟨σ7, H7, I7.unpinned, q7⟩
    | ret v => obtain ⟨x7, σ7, H7, I7, r7, q7⟩ := q7; exact ⟨x7, σ7, H7, I7.unpinned, r7, q7⟩
end
/-! ### the forms one uses -/
/-- over a list that the body leaves as it is -/
theorem for_list {K : PySem.W.Frag} {a : Addr} {xs : List V} {g : TG} {tb : TS} {D : Ends} {σ : St} {H : Hp} (Pv : Nat → St → Hp → Prop) (h0 : Pv 0 σ H) (hl : ∀ i σ H, i ≤ xs.length → Pv i σ H → SqL K H a xs)
    (hs : ∀ i x σ H, xs[i]? = some x → Pv i σ H → g x σ H fun σ2 H2 => tb { D with nx := Pv (i + 1), ct := Pv (i + 1), bk := D.nx } σ2 H2) (hd : ∀ σ H, Pv xs.length σ H → D.nx σ H) :
    ∃ W : Nat → Nat → St → Hp → Prop, (∃ m, W 0 m σ H) ∧ ∀ i m σ H, W i m σ H →
      ((Itl K a).stop i H ∧ D.nx σ H) ∨ ((Itl K a).go i H ∧ ∃ N : St → Hp → Prop, (∀ σ' H', N σ' H' → ∃ m', m' < m ∧ W (i + 1) m' σ' H') ∧ ∀ x H', (Itl K a).yld i H x H' → g x σ H' fun σ2 H2 => tb { D with nx := N, ct := N, bk := D.nx } σ2 H2) := by
  refine ⟨fun i m σ H => m = xs.length - i ∧ i ≤ xs.length ∧ Pv i σ H, ⟨xs.length, by simp, Nat.zero_le _, h0⟩, ?_⟩
  rintro i m σ H ⟨rfl, hi, p⟩
  have q := hl i σ H hi p
  by_cases hlt : i < xs.length
  · refine .inr ⟨⟨xs, xs[i], q, by simp [hlt]⟩, Pv (i + 1), fun σ' H' p' => ⟨xs.length - (i + 1), by omega, rfl, hlt, p'⟩, fun x H' y => ?_⟩
    obtain ⟨e, y⟩ := y
    subst e
    exact hs i x σ _ (y xs q) p
  · have e : i = xs.length := by omega
    subst e
    exact .inl ⟨⟨xs, q, Nat.le_refl _⟩, hd σ H p⟩
theorem for_range {lo : Int} {n : Nat} {g : TG} {tb : TS} {D : Ends} {σ : St} {H : Hp} (Pv : Nat → St → Hp → Prop) (h0 : Pv 0 σ H)
    (hs : ∀ i σ H, i < n → Pv i σ H → g (.int (lo + i)) σ H fun σ2 H2 => tb { D with nx := Pv (i + 1), ct := Pv (i + 1), bk := D.nx } σ2 H2) (hd : ∀ σ H, Pv n σ H → D.nx σ H) :
    ∃ W : Nat → Nat → St → Hp → Prop, (∃ m, W 0 m σ H) ∧ ∀ i m σ H, W i m σ H →
      ((Itr lo n).stop i H ∧ D.nx σ H) ∨ ((Itr lo n).go i H ∧ ∃ N : St → Hp → Prop, (∀ σ' H', N σ' H' → ∃ m', m' < m ∧ W (i + 1) m' σ' H') ∧ ∀ x H', (Itr lo n).yld i H x H' → g x σ H' fun σ2 H2 => tb { D with nx := N, ct := N, bk := D.nx } σ2 H2) := by
  refine ⟨fun i m σ H => m = n - i ∧ i ≤ n ∧ Pv i σ H, ⟨n, by simp, Nat.zero_le _, h0⟩, ?_⟩
  rintro i m σ H ⟨rfl, hi, p⟩
  by_cases hlt : i < n
  · refine .inr ⟨hlt, Pv (i + 1), fun σ' H' p' => ⟨n - (i + 1), by omega, rfl, hlt, p'⟩, fun x H' y => ?_⟩
    obtain ⟨e, y⟩ := y
    subst e y
    exact hs i σ _ hlt p
  · have e : i = n := by omega
    subst e
    exact .inl ⟨Nat.le_refl _, hd σ H p⟩
end L2
namespace L2
open PySem PySem.Spec PyProof.Rows
noncomputable abbrev R2 := V → V → Hp → VK → Prop
/-- a two-place operation on values: f is binaryOp op, inplaceOp op or compareOp op -/
noncomputable def OpR (X : Cx) (f : Value → Value → Sem Value) (r : R2) : Prop :=
  ∀ (pins : List (Addr × Obj)) (s : Shared) (σ : St) (H : Hp) (x y : V) (v u : Value) (Q : VK), Inv X pins σ H s → RelV x v → RelV y u → r x y H Q →
    wpAny (model X.prog X.w) X.A (f v u) (EP X pins σ Q) X.xe s
/-- a call of a value that is known (a builtin, a type) with values -/
noncomputable def CallR (X : Cx) (f : Value) (r : List V → Hp → VK → Prop) : Prop :=
  ∀ (pins : List (Addr × Obj)) (s : Shared) (σ : St) (H : Hp) (xs : List V) (us : List Value) (Q : VK), Inv X pins σ H s → Vals xs us → r xs H Q →
    wpAny (model X.prog X.w) X.A (call f us) (EP X pins σ Q) X.xe s
noncomputable def tOp (r : R2) (ta tb : TE) : TE := fun σ H Q => ta σ H fun x H1 => tb σ H1 fun y H2 => r x y H2 Q
/-- ints in, under C, and a value out -/
noncomputable def rI (C : Int → Int → Prop) (g : Int → Int → V) : R2 := fun x y H Q => ∃ i j, x = .int i ∧ y = .int j ∧ C i j ∧ Q (g i j) H
noncomputable def rI0 (g : Int → Int → V) : R2 := fun x y H Q => ∃ i j, x = .int i ∧ y = .int j ∧ Q (g i j) H
section
variable {X : Cx} {a b c : Expr} {ta tb tc : TE} {pos : Pos}
theorem binT (ha : PE X a ta) (hb : PE X b tb) {pins : List (Addr × Obj)} {s : Shared} {σ : St} {H : Hp} {R : V → V → Hp → Prop} (I : Inv X pins σ H s)
    (h : ta σ H fun x H1 => tb σ H1 fun y H2 => R x y H2) {Q : Value → Shared → Prop} {f : Value → Value → Sem Value}
    (hf : ∀ v u s2 x y H2, Inv X pins σ H2 s2 → RelV x v → RelV y u → R x y H2 → wpAny (model X.prog X.w) X.A (f v u) Q X.xe s2) :
    wpAny (model X.prog X.w) X.A (eval a X.env) (fun v s₁ => wpAny (model X.prog X.w) X.A (eval b X.env) (fun u s₂ => wpAny (model X.prog X.w) X.A (f v u) Q X.xe s₂) X.xe s₁) X.xe s := by
  refine thn (ha pins s σ H _ I h) fun v s1 hh_ => ?_
  obtain ⟨x, H1, I1, r1, q1⟩ := hh_
  refine thn (hb pins s1 σ H1 _ I1 q1) fun u s2 hh_ => ?_
  obtain ⟨y, H2, I2, r2, q2⟩ := hh_
  exact hf v u s2 x y H2 I2 r1 r2 q2
theorem pe_op {op : Operator} {r : R2} (ho : OpR X (binaryOp op) r) (ha : PE X a ta) (hb : PE X b tb) : PE X (.BinOp a op b pos) (tOp r ta tb) := by
  intro pins s σ H Q I h
  exact wpAny_BinOp (binT ha hb I h fun v u s2 x y H2 I2 rx ry q => ho pins s2 σ H2 x y v u Q I2 rx ry q)
/-! ### ints -/
theorem opI {f : Value → Value → Sem Value} {C : Int → Int → Prop} {g : Int → Int → Int}
    (rule : ∀ (i j : Int) (t u : Tok) (s : Shared) (Q : Value → Shared → Prop) (E : Value → Shared → Prop), C i j → Q (.int (g i j) s.toks) { s with toks := s.toks + 1 } → wpAny (model X.prog X.w) X.A (f (.int i t) (.int j u)) Q E s) :
    OpR X f (rI C fun i j => .int (g i j)) := by
  intro pins s σ H x y v u Q I rx ry h
  obtain ⟨i, j, rfl, rfl, hc, q⟩ := h
  obtain ⟨t, rfl⟩ := rx
  obtain ⟨t', rfl⟩ := ry
  exact rule i j t t' s _ _ hc ⟨.int (g i j), H, I.tok _, ⟨_, rfl⟩, q⟩
theorem opI0 {f : Value → Value → Sem Value} {g : Int → Int → Int}
    (rule : ∀ (i j : Int) (t u : Tok) (s : Shared) (Q : Value → Shared → Prop) (E : Value → Shared → Prop), Q (.int (g i j) s.toks) { s with toks := s.toks + 1 } → wpAny (model X.prog X.w) X.A (f (.int i t) (.int j u)) Q E s) :
    OpR X f (rI0 fun i j => .int (g i j)) := by
  intro pins s σ H x y v u Q I rx ry h
  obtain ⟨i, j, rfl, rfl, q⟩ := h
  obtain ⟨t, rfl⟩ := rx
  obtain ⟨t', rfl⟩ := ry
  exact rule i j t t' s _ _ ⟨.int (g i j), H, I.tok _, ⟨_, rfl⟩, q⟩
theorem opB0 {f : Value → Value → Sem Value} {g : Int → Int → Bool}
    (rule : ∀ (i j : Int) (t u : Tok) (s : Shared) (Q : Value → Shared → Prop) (E : Value → Shared → Prop), Q (.bool (g i j)) s → wpAny (model X.prog X.w) X.A (f (.int i t) (.int j u)) Q E s) :
    OpR X f (rI0 fun i j => .bl (g i j)) := by
  intro pins s σ H x y v u Q I rx ry h
  obtain ⟨i, j, rfl, rfl, q⟩ := h
  obtain ⟨t, rfl⟩ := rx
  obtain ⟨t', rfl⟩ := ry
  exact rule i j t t' s _ _ ⟨.bl (g i j), H, I, rfl, q⟩
noncomputable def CMul (i j : Int) : Prop := (-(2 ^ 64) < i ∧ i < 2 ^ 64) ∨ (-(2 ^ 64) < j ∧ j < 2 ^ 64)
theorem CMul.ok {i j : Int} (h : CMul i j) : IntMulOk i j := by
  rcases h with ⟨h1, h2⟩ | ⟨h1, h2⟩
  · exact .of_left (intBits_le_64 h1 h2)
  · exact .of_right (intBits_le_64 h1 h2)
theorem op_add : OpR X (binaryOp .Add) (rI0 fun i j => .int (i + j)) := opI0 fun _ _ _ _ _ _ _ q => add_int q
theorem op_sub : OpR X (binaryOp .Sub) (rI0 fun i j => .int (i - j)) := opI0 fun _ _ _ _ _ _ _ q => sub_int q
theorem op_mul : OpR X (binaryOp .Mult) (rI CMul fun i j => .int (i * j)) := opI fun _ _ _ _ _ _ _ hc q => mul_int q hc.ok
/-- % by a positive divisor of any size -/
theorem op_mod : OpR X (binaryOp .Mod) (rI (fun _ j => 0 < j) fun i j => .int (i % j)) := opI fun i j _ _ _ _ _ hc q => by
  have h1 : (0 : Int) < j := hc
  exact mod_int' (by omega) (by rw [Int.fmod_eq_emod_of_nonneg i (by omega)]; exact q)
/-! ### bools among ints: n += (a < b) -/
end
/-! ### comparisons -/
noncomputable def isI : V → Bool
  | .int _ => true
  | _ => false
theorem isI_int : ∀ {x : V}, isI x = true → ∃ i, x = .int i
  | .int i, _ => ⟨i, rfl⟩
noncomputable def scal (x y : V) : Bool := isI x && isI y
noncomputable def rEq : R2 := fun x y H Q => scal x y = true ∧ Q (.bl (decide (x = y))) H
noncomputable def rNe : R2 := fun x y H Q => scal x y = true ∧ Q (.bl (!decide (x = y))) H
theorem dec_int {i j : Int} : decide (V.int i = V.int j) = (i == j) := by
  rw [Bool.eq_iff_iff]
  simp
section
variable {X : Cx} {a b c : Expr} {ta tb tc : TE} {pos : Pos}
theorem fin_bl {pins : List (Addr × Obj)} {σ : St} {H : Hp} {s : Shared} {Q : VK} {k k' : Bool} (I : Inv X pins σ H s) (q : Q (.bl k) H) (e : k = k') : EP X pins σ Q (.bool k') s := by
  subst e
  exact ⟨.bl k, H, I, rfl, q⟩
theorem op_eq : OpR X (compareOp .Eq) rEq := by
  intro pins s σ H x y v u Q I rx ry h
  obtain ⟨hs, q⟩ := h
  obtain ⟨h1, h2⟩ := Bool.and_eq_true_iff.mp hs
  obtain ⟨i, rfl⟩ := isI_int h1
  obtain ⟨j, rfl⟩ := isI_int h2
  obtain ⟨t, rfl⟩ := rx
  obtain ⟨t', rfl⟩ := ry
  exact eq_int (fin_bl I q dec_int)
theorem op_ne : OpR X (compareOp .NotEq) rNe := by
  intro pins s σ H x y v u Q I rx ry h
  obtain ⟨hs, q⟩ := h
  obtain ⟨h1, h2⟩ := Bool.and_eq_true_iff.mp hs
  obtain ⟨i, rfl⟩ := isI_int h1
  obtain ⟨j, rfl⟩ := isI_int h2
  obtain ⟨t, rfl⟩ := rx
  obtain ⟨t', rfl⟩ := ry
  exact ne_int (fin_bl I q (congrArg not dec_int))
theorem op_lt : OpR X (compareOp .Lt) (rI0 fun i j => .bl (decide (i < j))) := opB0 fun _ _ _ _ _ _ _ q => lt_int q
theorem op_le : OpR X (compareOp .LtE) (rI0 fun i j => .bl (decide (i ≤ j))) := opB0 fun _ _ _ _ _ _ _ q => le_int q
theorem op_gt : OpR X (compareOp .Gt) (rI0 fun i j => .bl (decide (j < i))) := opB0 fun _ _ _ _ _ _ _ q => gt_int q
theorem op_ge : OpR X (compareOp .GtE) (rI0 fun i j => .bl (decide (j ≤ i))) := opB0 fun _ _ _ _ _ _ _ q => ge_int q
theorem nomark (b : Expr) {op : CmpOp} (h : op ≠ .In := by decide) (h2 : op ≠ .NotIn := by decide) : behindInMarks op b = false := by
  have e1 : (op == CmpOp.In) = false := by cases op <;> first | rfl | exact absurd rfl h
  have e2 : (op == CmpOp.NotIn) = false := by cases op <;> first | rfl | exact absurd rfl h2
  cases b <;> simp [behindInMarks, e1, e2]
/-- a comparison as a value; hm: nomark b, or (for in, not in) by with_unfolding_all rfl -/
theorem pe_cmpR {op : CmpOp} {r : R2} (ho : OpR X (compareOp op) r) (ha : PE X a ta) (hb : PE X b tb) (hm : behindInMarks op b = false) : PE X (.Compare a [op] [b] pos) (tOp r ta tb) := by
  intro pins s σ H Q I h
  exact wpAny_Compare1 (binT ha hb I h fun v u s2 x y H2 I2 rx ry q => ho pins s2 σ H2 x y v u Q I2 rx ry q) hm
/-- a reading of a value as a test -/
noncomputable def tTest (t : TE) : TT := fun σ H Q => t σ H fun x H' => ∃ k, x = .bl k ∧ Q k H'
theorem pt_cmpR {op : CmpOp} {r : R2} (ho : OpR X (compareOp op) r) (ha : PE X a ta) (hb : PE X b tb) (hm : behindInMarks op b = false) : PT X (.Compare a [op] [b] pos) (tTest (tOp r ta tb)) := by
  intro pins s σ H Q I h
  refine wpAny_isTrue_Compare1 (thn (ha pins s σ H _ I h) fun v s1 ⟨x, H1, I1, r1, q1⟩ => thn (hb pins s1 σ H1 _ I1 q1) fun u s2 ⟨y, H2, I2, r2, q2⟩ =>
    thn (ho pins s2 σ H2 x y v u _ I2 r1 r2 q2) fun c s3 hh_ => ?_) hm
  obtain ⟨z, H3, I3, r3, k, e, q3⟩ := hh_
  subst e
  cases r3
  exact wpAny_truthy_bool ⟨H3, I3, q3⟩
/-- a op1 b op2 c -/
noncomputable def tChain (r r' : R2) (ta tb tc : TE) : TE := fun σ H Q => ta σ H fun x H1 => tb σ H1 fun y H2 => r x y H2 fun z H3 => ∃ k, z = .bl k ∧
  (if k = true then tc σ H3 fun w' H4 => r' y w' H4 Q else Q (.bl false) H3)
theorem pe_chain {op op' : CmpOp} {r r' : R2} (ho : OpR X (compareOp op) r) (ho' : OpR X (compareOp op') r') (ha : PE X a ta) (hb : PE X b tb) (hc : PE X c tc)
    (hm : lastMarks [op, op'] [b, c] = false := by with_unfolding_all rfl) : PE X (.Compare a [op, op'] [b, c] pos) (tChain r r' ta tb tc) := by
  intro pins s σ H Q I h
  refine Compare_chain (thn (ha pins s σ H _ I h) fun v s1 ⟨x, H1, I1, r1, q1⟩ => chain_link (thn (hb pins s1 σ H1 _ I1 q1) fun u s2 ⟨y, H2, I2, r2, q2⟩ =>
    thn (ho pins s2 σ H2 x y v u _ I2 r1 r2 q2) fun d s3 hh_ => ?_)) hm
  obtain ⟨z, H3, I3, r3, k, e, q3⟩ := hh_
  subst e
  cases r3
  refine wpAny_truthy_bool ?_
  cases k with
  | false => exact ite_ff ⟨.bl false, H3, I3, rfl, q3⟩
  | true => exact ite_tt (chain_last (thn (hc pins s3 σ H3 _ I3 q3) fun w' s4 ⟨z', H4, I4, r4, q4⟩ => ho' pins s4 σ H4 y z' u w' Q I4 r2 r4 q4))
/-! ### truth -/
theorem line63 : (sizeLine : Nat) < 2 ^ 63 := by rw [sizeLine_eq]; decide
/-! ### strs and bytes -/
/-! ### scalar builtins, by CallR -/
theorem vals1 {x : V} {us : List Value} (r : Vals [x] us) : ∃ u, us = [u] ∧ RelV x u := by
  cases r with
  | cons r1 r2 => cases r2; exact ⟨_, rfl, r1⟩
end
end L2
namespace L2
open PySem PySem.Spec PyProof.Rows
/-! ### an instance, its attributes a map -/
structure ObjM (h : Heap) (x dx C : Addr) (mA : Str → Option Value) : Prop where
  obj : h.get? x = some (PySem.W.instObj C dx)
  ns : h.Ns1 dx mA
  ne : dx ≠ x
theorem lookIn_ns {h : Heap} {dx : Addr} {mA : Str → Option Value} (n : h.Ns1 dx mA) : ∃ od, h.get? dx = some od ∧ ∀ name, PySem.W.lookIn name od = some (mA name) := by
  obtain ⟨o, es, ep, ho, hd, hk, _, hm⟩ := n
  refine ⟨o, ho, fun name => ?_⟩
  have e := hm name
  unfold nsFind findBy at e
  rw [← Array.find?_toList] at e
  unfold PySem.W.lookIn
  rw [hd]
  dsimp only
  split
  · rename_i y q
    rw [q] at e
    exact congrArg some e
  · rename_i q
    rw [q] at e
    have a : es.toList.any (·.refKey) = false := by
      rw [List.any_eq_false]
      intro y hy
      obtain ⟨z, t, hkey⟩ := hk y (Array.mem_toList_iff.mp hy)
      simp [DictEntry.refKey, hkey]
    have a' : ¬ es.toList.any (·.refKey) = true := by rw [a]; exact Bool.false_ne_true
    rw [if_neg a']
    exact congrArg some e
theorem ObjM.look {h : Heap} {x dx C : Addr} {mA : Str → Option Value} (I : ObjM h x dx C mA) : ∃ od, PySem.W.InstAt h x (PySem.W.instObj C dx) C (some od) ∧ ∀ name, PySem.W.lookIn name od = some (mA name) :=
  let ⟨od, ho, hl⟩ := lookIn_ns I.ns
  ⟨od, ⟨I.obj, rfl, rfl, ho⟩, hl⟩
section
variable {prog : Program} {w : World} {A : Around} {E : Value → Shared → Prop} {s : Shared} {K : PySem.W.Frag} {x dx C f : Addr} {mA : Str → Option Value} {name : Str} {v : Value}
theorem get_map {expr : Bool} {Q : Value → Shared → Prop} (X : K.In s.heap) (I : ObjM s.heap x dx C mA) (hg : PySem.W.plainGet K C name = true) (hh : PySem.W.hasDictIn K C = true)
    (ha : PySem.W.findIn K (.ref C) name = some none) (hv : mA name = some v) (hv' : PySem.W.handedIn v = true) (h : Q v { s with toks := s.toks + 1 }) :
    wpAny (model prog w) A (getAttr (.ref x) name expr) Q E s := by
  obtain ⟨od, J, hl⟩ := I.look
  exact PySem.W.get_value X J (PySem.W.plainGet_of hg).1 (PySem.W.findObj_own hh ha rfl (by rw [hl, hv])) hv' h
theorem get_meth {pl : Sem Bool} {Q : Value × List Value → Shared → Prop} (X : K.In s.heap) (I : ObjM s.heap x dx C mA) (hg : PySem.W.plainGet K C name = true)
    (hf : PySem.W.findIn K (.ref C) name = some (some (.ref f))) (ht : PySem.W.isFn K (.ref f) = true) (hv : mA name = none) (h : Q (.ref f, [.ref x]) s) :
    wpAny (model prog w) A (getMethod (.ref x) name pl) Q E s := by
  obtain ⟨od, J, hl⟩ := I.look
  exact PySem.W.method_fn X J (PySem.W.plainGet_of hg).1 (PySem.W.plainGet_of hg).2 hf (beq_iff_eq.mp ht) (by show (PySem.W.lookIn name od).map (·.isSome) = some false; rw [hl, hv]; rfl) h
theorem set_map {ns : List Str} {Q : Unit → Shared → Prop} (X : K.In s.heap) (I : ObjM s.heap x dx C mA)
    (hs : PySem.W.findIn K (.ref C) "__setattr__" = some (some (.builtin "object.__setattr__"))) (hp : PySem.W.plainOver K C = true) (ht : PySem.W.takerIn K C name = some none) (hh : PySem.W.hasDictIn K C = true)
    (hw : PySem.Within mA ns) (hsz : ns.length ≤ sizeLine)
    (h : ∀ h', ObjM h' x dx C (fun y => if y = name then some v else mA y) → Heap.SameBut dx s.heap h' → Q () { s with heap := h', toks := s.toks + 2 }) :
    wpAny (model prog w) A (setAttr (.ref x) name v) Q E s := by
  obtain ⟨od, J, hl⟩ := I.look
  refine PySem.W.set_plain X J hs (PySem.W.osa_open (s := { s with toks := s.toks + 1 }) (r := none) X J hp ht fun b => ?_)
  obtain ⟨cd, hc, hd'⟩ := PySem.W.any_some hh
  have hx : s.heap.get? x = some ⟨.ref C, some dx, .plain, #[]⟩ := I.obj
  refine wpAny_bind (wpAny_pure (wpAny_bind (wpAny_bind (wpAny_loadPart hx (wpAny_bind (PySem.W.Looks.here (s := { s with toks := s.toks + 1 }) (PySem.W.looks_clsIn X hc) ?_))))))
  rw [hd']
  refine wpAny_pure (a := some dx) (wpAny_bind (wpAny_pure (wpAny_bind ?_)))
  refine wpAny_nsSet1 (s := { s with toks := s.toks + 1 }) I.ns fun h' hn2 hs2 => ?_
  obtain ⟨oD, esD, epD, hoD, hdD, hcD⟩ := hn2.count (PySem.Within.cons name v hw)
  refine wpAny_bind (wpAny_lookBehind hoD (by rw [hdD]; exact pastItsLine_dict (Nat.le_trans hcD (by rw [List.length_cons]; omega))) ?_)
  exact wpAny_pure (h _ ⟨(hs2.2 _ (Ne.symm I.ne)).trans I.obj, hn2, I.ne⟩ hs2)
/-- C(..): the dict at the heap's end, the instance behind it; then its __init__ -/
theorem make_map {R : Result → Shared → Prop} {vs : List Value} {kw : List (Str × Value)} (X : K.In s.heap) (hm : PySem.W.makesIn K C = true)
    (hi : PySem.W.findIn K (.ref C) "__init__" = some (some (.ref f))) (hf : PySem.W.typeIn K (.ref f) = some (.type "function"))
    (h : codeAny (model prog w) (A.under (.builtin "type.__call__" ⟨.ref C :: vs, kw⟩)) (.call (.ref f) ⟨.ref (s.heap.objs.size + 1) :: vs, kw⟩) (PySem.W.InitBack (s.heap.objs.size + 1) R)
      { s with heap := (s.heap.push PySem.W.emptyDict).push (PySem.W.instObj C s.heap.objs.size) }) :
    codeAny (model prog w) A (.call (.ref C) ⟨vs, kw⟩) R s := by
  obtain ⟨hh, g, d, t, os⟩ := s
  exact PySem.W.make_core (PySem.W.makes_of X hm) (PySem.W.looks_findIn X hi) (fun self => PySem.W.bind_fn X self hf) (.inl rfl) h
end
/-! ### the attributes as a list of pairs -/
noncomputable def putF (f : Str) (v : V) : List (Str × V) → List (Str × V)
  | [] => [(f, v)]
  | (g, x) :: r => if g = f then (g, v) :: r else (g, x) :: putF f v r
theorem lookup_putF (f g : Str) (v : V) : ∀ fs : List (Str × V), (putF f v fs).lookup g = if g = f then some v else fs.lookup g
  | [] => by
    show List.lookup g [(f, v)] = _
    by_cases h : g = f
    · have hb : (g == f) = true := beq_iff_eq.mpr h
      simp only [List.lookup, hb, if_pos h]
    · have hb : (g == f) = false := beq_eq_false_iff_ne.mpr h
      simp only [List.lookup, hb, if_neg h]
  | (k, x) :: r => by
    have ih := lookup_putF f g v r
    rw [show putF f v ((k, x) :: r) = (if k = f then (k, v) :: r else (k, x) :: putF f v r) from rfl]
    by_cases hk : k = f
    · rw [if_pos hk]
      by_cases h : g = k
      · have hb : (g == k) = true := beq_iff_eq.mpr h
        simp only [List.lookup, hb, if_pos (h.trans hk)]
      · have hb : (g == k) = false := beq_eq_false_iff_ne.mpr h
        simp only [List.lookup, hb, if_neg (fun e : g = f => h (e.trans hk.symm))]
    · rw [if_neg hk]
      by_cases h : g = k
      · have hb : (g == k) = true := beq_iff_eq.mpr h
        simp only [List.lookup, hb, if_neg (fun e : g = f => hk (h.symm.trans e))]
      · have hb : (g == k) = false := beq_eq_false_iff_ne.mpr h
        simp only [List.lookup, hb]
        exact ih
theorem keys_putF (f : Str) (v : V) : ∀ fs : List (Str × V), f ∈ (putF f v fs).map (·.1) ∧ ∀ g, g ∈ fs.map (·.1) → g ∈ (putF f v fs).map (·.1)
  | [] => ⟨by simp [putF], fun g h => by simp at h⟩
  | (k, x) :: r => by
    obtain ⟨i1, i2⟩ := keys_putF f v r
    rw [show putF f v ((k, x) :: r) = (if k = f then (k, v) :: r else (k, x) :: putF f v r) from rfl]
    by_cases hk : k = f
    · rw [if_pos hk]
      subst hk
      exact ⟨by simp, fun g h => by simpa using h⟩
    · rw [if_neg hk]
      refine ⟨?_, fun g h => ?_⟩
      · rw [List.map_cons]
        exact List.mem_cons_of_mem _ i1
      · rw [List.map_cons] at h ⊢
        rcases List.mem_cons.mp h with e | e
        · exact List.mem_cons.mpr (.inl e)
        · exact List.mem_cons_of_mem _ (i2 g e)
theorem length_putF (f : Str) (v : V) : ∀ fs : List (Str × V), (putF f v fs).length ≤ fs.length + 1
  | [] => by simp [putF]
  | (k, x) :: r => by
    have ih := length_putF f v r
    rw [show putF f v ((k, x) :: r) = (if k = f then (k, v) :: r else (k, x) :: putF f v r) from rfl]
    by_cases hk : k = f
    · rw [if_pos hk, List.length_cons, List.length_cons]; omega
    · rw [if_neg hk, List.length_cons, List.length_cons]; omega
theorem RelO.some_of {v : V} {o : Option Value} (r : RelO (some v) o) : ∃ u, o = some u ∧ RelV v u := by
  cases o with
  | none => exact (show False from r).elim
  | some u => exact ⟨u, rfl, r⟩
theorem RelO.none_of {o : Option Value} (r : RelO none o) : o = none := by
  cases o with
  | none => rfl
  | some u => exact (show False from r).elim
theorem handed_of {v : V} {u : Value} (r : RelV v u) : PySem.W.handedIn u = true := by
  cases v with
  | non => cases (show u = Value.none from r); rfl
  | bl b => cases (show u = Value.bool b from r); rfl
  | int i => obtain ⟨t, e⟩ := (show ∃ t, u = Value.int i t from r); cases e; rfl
  | str x => obtain ⟨t, e⟩ := (show ∃ t, u = Value.str x t from r); cases e; rfl
  | byt b => obtain ⟨t, e⟩ := (show ∃ t, u = Value.bytes b t from r); cases e; rfl
  | flt b => obtain ⟨t, e⟩ := (show ∃ t, u = Value.float b t from r); cases e; rfl
  | ref a => cases (show u = Value.ref a from r); rfl
  | ty n => cases (show u = Value.type n from r); rfl
section
variable {P : Program} {w : World} {H H' : Hp} {h h' : Heap} {a C dx : Addr} {fs fs' : List (Str × V)}
theorem ins_get (hok : HOk P w H h) (e : H a = some (.ins C dx fs)) : ∃ mA, ObjM h a dx C mA ∧ (∀ f, RelO (fs.lookup f) (mA f)) ∧ PySem.Within mA (fs.map (·.1)) ∧ fs.length ≤ 1000 ∧ H dx = some (.own a) := by
  obtain ⟨d, z, ne, ob, mA, n, r, q⟩ := (show ObjOk P w H h a (.ins C dx fs) from hok a _ e)
  exact ⟨mA, ⟨ob, n, ne⟩, r, q, z, d⟩
end
/-! ### what of the text a class must have -/
structure Cls (K : PySem.W.Frag) (C : Addr) : Prop where
  pg : PySem.W.plainGet K C Str.empty = true
  hd : PySem.W.hasDictIn K C = true
  po : PySem.W.plainOver K C = true
  sa : PySem.W.findIn K (.ref C) "__setattr__" = some (some (.builtin "object.__setattr__"))
theorem Cls.get {K : PySem.W.Frag} {C : Addr} (c : Cls K C) (f : Str) : PySem.W.plainGet K C f = true := c.pg
/-- no class of it has the name -/
noncomputable def NoAttr (K : PySem.W.Frag) (C : Addr) (f : Str) : Prop := PySem.W.findIn K (.ref C) f = some none
theorem NoAttr.taker {K : PySem.W.Frag} {C : Addr} {f : Str} (n : NoAttr K C f) : PySem.W.takerIn K C f = some none := by
  unfold PySem.W.takerIn
  rw [show PySem.W.findIn K (.ref C) f = some none from n]
  rfl
/-- a method: a plain def of the class or of one above it -/
structure Meth (K : PySem.W.Frag) (C : Addr) (m : Str) (f : Addr) : Prop where
  at_ : PySem.W.findIn K (.ref C) m = some (some (.ref f))
  fn : PySem.W.isFn K (.ref f) = true
  kp : PySem.W.keepIn K (.ref f) = true
section
variable {X : Cx} {pins : List (Addr × Obj)} {σ : St} {H : Hp} {s : Shared} {a C dx : Addr} {fs : List (Str × V)} {f : Str} {v : V} {A : Around} {E : Value → Shared → Prop}
theorem getattr_ok {b : Bool} {Q : Value → Shared → Prop} (I : Inv X pins σ H s) (e : H a = some (.ins C dx fs)) (c : Cls X.K C) (n : NoAttr X.K C f) (l : fs.lookup f = some v)
    (h : ∀ u s', Inv X pins σ H s' → RelV v u → Q u s') : wpAny (model X.prog X.w) A (getAttr (.ref a) f b) Q E s := by
  obtain ⟨mA, O, r, _, _, _⟩ := ins_get I.hok e
  obtain ⟨u, hu, ru⟩ := RelO.some_of (v := v) (o := mA f) (by rw [← l]; exact r f)
  exact get_map I.kIn O (c.get f) c.hd n hu (handed_of ru) (h u _ (I.tok _) ru)
theorem getmeth_ok {m : Str} {g : Addr} {pl : Sem Bool} {Q : Value × List Value → Shared → Prop} (I : Inv X pins σ H s) (e : H a = some (.ins C dx fs)) (c : Cls X.K C) (k : Meth X.K C m g) (l : fs.lookup m = none)
    (h : Q (.ref g, [.ref a]) s) : wpAny (model X.prog X.w) A (getMethod (.ref a) m pl) Q E s := by
  obtain ⟨mA, O, r, _, _, _⟩ := ins_get I.hok e
  have hn : mA m = none := RelO.none_of (by rw [← l]; exact r m)
  exact get_meth I.kIn O (c.get m) k.at_ k.fn hn h
theorem setattr_ok {y : V} {u : Value} {Q : Unit → Shared → Prop} (I : Inv X pins σ H s) (e : H a = some (.ins C dx fs)) (c : Cls X.K C) (n : NoAttr X.K C f) (hl : fs.length < 1000) (ry : RelV y u)
    (h : ∀ s', Inv X pins σ (upd H a (.ins C dx (putF f y fs))) s' → Q () s') : wpAny (model X.prog X.w) A (setAttr (.ref a) f u) Q E s := by
  obtain ⟨mA, O, r, wi, _, ho⟩ := ins_get I.hok e
  have hz : (fs.map (·.1)).length ≤ sizeLine := by rw [List.length_map, sizeLine_eq]; omega
  refine set_map I.kIn O c.sa c.po n.taker c.hd wi hz fun h' O' sb => h _ ?_
  have hd : ∃ o, h'.get? dx = some o := let ⟨o, _, _, e', _⟩ := O'.ns; ⟨o, e'⟩
  refine I.write (x := a) (e := dx) (by rw [e]; exact True.intro) (.inr ho) (fun b q hb z => (sb.2 b hb).trans z) hd ?_
  refine ⟨by rw [upd_ne O.ne]; exact ho, ?_, O.ne, O'.obj, _, O'.ns, fun g => ?_, fun g hg => ?_⟩
  · have := length_putF f y fs; omega
  · show RelO ((putF f y fs).lookup g) (if g = f then some u else mA g)
    rw [lookup_putF]
    by_cases q : g = f
    · rw [if_pos q, if_pos q]; exact ry
    · rw [if_neg q, if_neg q]; exact r g
  · by_cases q : g = f
    · rw [q]; exact (keys_putF f y fs).1
    · refine (keys_putF f y fs).2 g (wi g fun z => hg ?_)
      show (if g = f then some u else mA g) = none
      rw [if_neg q]; exact z
/-- a new instance, tracked, without attributes -/
theorem Inv.made (I : Inv X pins σ H s) : Inv X pins σ (upd (upd H s.heap.objs.size (.own (s.heap.objs.size + 1))) (s.heap.objs.size + 1) (.ins C s.heap.objs.size []))
    { s with heap := (s.heap.push PySem.W.emptyDict).push (PySem.W.instObj C s.heap.objs.size) } := by
  have e1 : (s.heap.push PySem.W.emptyDict).get? s.heap.objs.size = some PySem.W.emptyDict := Heap.get?_push_size s.heap rfl
  have e2 : ((s.heap.push PySem.W.emptyDict).push (PySem.W.instObj C s.heap.objs.size)).get? (s.heap.objs.size + 1) = some (PySem.W.instObj C s.heap.objs.size) := by
    have := Heap.get?_push_size (s.heap.push PySem.W.emptyDict) (o := PySem.W.instObj C s.heap.objs.size) rfl
    rwa [Heap.size_push] at this
  have e3 : (s.heap.push PySem.W.emptyDict).Ns s.heap.objs.size (fun _ => none) := ⟨PySem.W.emptyDict, #[], _, e1, rfl, (fun e he => absurd he (by simp)), fun _ => rfl⟩
  have I1 := I.laid (a := s.heap.objs.size) (o := .own (s.heap.objs.size + 1)) (h' := s.heap.push PySem.W.emptyDict) (t' := s.toks) (fun b u q => Heap.get?_push_of_some _ q) (Nat.le_refl _) ⟨_, e1⟩
  refine I1.laid (a := s.heap.objs.size + 1) (o := .ins C s.heap.objs.size []) (t' := s.toks) (fun b u q => Heap.get?_push_of_some _ q) (Nat.le_of_eq (Heap.size_push _ _)) ?_
  have ne : s.heap.objs.size ≠ s.heap.objs.size + 1 := Nat.ne_of_lt (Nat.lt_succ_self _)
  refine ⟨by rw [upd_ne ne, upd_same], Nat.zero_le _, ne, e2, fun _ => none, (Heap.Ns1.of_empty e3).at fun o q => Heap.get?_push_of_some _ q, fun _ => True.intro, fun y hy => absurd rfl hy⟩
/-- e.f where nothing but the object is asked: through attributeBase (super) and the last hold -/
theorem attr_of {prog : Program} {w : World} {env : Env} {e : Expr} {f : Str} {pos : Pos} {s : Shared} {Q : Value → Shared → Prop} (hb : attributeBase e f env (eval e env) = eval e env)
    (h : wpAny (model prog w) A (eval e env) (fun o s₁ => wpAny (model prog w) A (getAttr o f true) Q E s₁) E s) : wpAny (model prog w) A (eval (.Attribute e f pos) env) Q E s :=
  Attribute_any_ h (by rw [arm_eval_Attribute, hb])
end
/-! ### readings and rules -/
/-- e.f, an attribute of the instance -/
noncomputable def tFld (K : PySem.W.Frag) (ta : TE) (f : Str) : TE := fun σ H Q => ta σ H fun x H1 => ∃ a C dx fs v, x = .ref a ∧ H1 a = some (.ins C dx fs) ∧ Cls K C ∧ NoAttr K C f ∧ fs.lookup f = some v ∧ Q v H1
/-- e.f = value -/
noncomputable def sFld (K : PySem.W.Frag) (ta tv : TE) (f : Str) : TS := fun D σ H => tv σ H fun y H1 => ta σ H1 fun x H2 => ∃ a C dx fs, x = .ref a ∧ H2 a = some (.ins C dx fs) ∧ Cls K C ∧ NoAttr K C f ∧ fs.length < 1000 ∧
  D.nx σ (upd H2 a (.ins C dx (putF f y fs)))
/-- an augmented operator on two values -/
noncomputable def InOp (X : Cx) (op : Operator) (rd : V → V → Hp → VK → Prop) : Prop :=
  ∀ (pins : List (Addr × Obj)) (s : Shared) (σ : St) (H : Hp) (x y : V) (u v : Value) (Q : VK), Inv X pins σ H s → RelV x u → RelV y v → rd x y H Q → wpAny (model X.prog X.w) X.A (inplaceOp op u v) (EP X pins σ Q) X.xe s
/-- e.f op= value -/
noncomputable def sFldAug (K : PySem.W.Frag) (ta tv : TE) (rd : V → V → Hp → VK → Prop) (f : Str) : TS := fun D σ H => ta σ H fun x H1 => ∃ a C dx fs v, x = .ref a ∧ H1 a = some (.ins C dx fs) ∧ Cls K C ∧ NoAttr K C f ∧ fs.lookup f = some v ∧
  tv σ H1 fun y H2 => rd v y H2 fun z H3 => ∃ dx' fs', H3 a = some (.ins C dx' fs') ∧ fs'.length < 1000 ∧ D.nx σ (upd H3 a (.ins C dx' (putF f z fs')))
section
variable {X : Cx} {o e value : Expr} {f : Str} {pos pos' tpos : Pos} {ta tv : TE}
theorem pe_fld (he : PE X e ta) (hb : attributeBase e f X.env (eval e X.env) = eval e X.env) : PE X (.Attribute e f pos) (tFld X.K ta f) := by
  intro pins s σ H Q I h
  refine attr_of hb (thn (he pins s σ H _ I h) fun u s1 hh_ => ?_)
  obtain ⟨x, H1, I1, rx, a, C, dx, fs, v, ex, ea, c, n, l, q⟩ := hh_
  subst ex
  obtain rfl : u = Value.ref a := rx
  exact getattr_ok I1 ea c n l fun u' s2 I2 ru => ⟨v, H1, I2, ru, q⟩
theorem ps_fld (ha : PE X o ta) (hv : PE X value tv) (hs : swapsWith value (some (.Attribute o f pos')) pos.line X.env = pure false) : PS X (.Assign [.Attribute o f pos'] value pos) (sFld X.K ta tv f) := by
  intro pins s σ H D I h
  refine plainObj_wpAny_Assign_Attribute (thn (hv pins s σ H _ I h) fun u s1 ⟨y, H1, I1, ry, q⟩ => thn (ha pins s1 σ H1 _ I1 q) fun ov s2 hh_ => ?_) hs
  obtain ⟨x, H2, I2, rx, a, C, dx, fs, ex, ea, c, n, l, q2⟩ := hh_
  subst ex
  obtain rfl : ov = Value.ref a := rx
  exact setattr_ok I2 ea c n l ry fun s3 I3 => ⟨σ, _, I3, q2⟩
theorem ps_fldaug {op : Operator} {rd : V → V → Hp → VK → Prop} (ha : PE X o ta) (hv : PE X value tv) (hop : InOp X op rd) : PS X (.AugAssign (.Attribute o f tpos) op value pos) (sFldAug X.K ta tv rd f) := by
  intro pins s σ H D I h
  refine wpAny_AugAssign_AttributeAny (thn (ha pins s σ H _ I h) fun ov s1 hh_ => ?_)
  obtain ⟨x, H1, I1, rx, a, C, dx, fs, v, ex, ea, c, n, l, q⟩ := hh_
  subst ex
  obtain rfl : ov = Value.ref a := rx
  refine getattr_ok I1 ea c n l fun u s2 I2 ru => thn (hv pins s2 σ H1 _ I2 q) fun w3 s3 ⟨y, H2, I3, ry, q3⟩ => thn (hop pins s3 σ H2 v y u w3 _ I3 ru ry q3) fun w4 s4 hh_ => ?_
  obtain ⟨z, H3, I4, rz, dx', fs', ea', l', q4⟩ := hh_
  exact setattr_ok I4 ea' c n l' rz fun s5 I5 => ⟨σ, _, I5, q4⟩
noncomputable def rAdd : V → V → Hp → VK → Prop := fun x y H Q => ∃ i j, x = .int i ∧ y = .int j ∧ Q (.int (i + j)) H
theorem in_add : InOp X .Add rAdd := by
  rintro pins s σ H x y u v Q I rx ry ⟨i, j, rfl, rfl, q⟩
  obtain ⟨t, rfl⟩ := (show ∃ t, u = Value.int i t from rx)
  obtain ⟨t', rfl⟩ := (show ∃ t', v = Value.int j t' from ry)
  exact PyProof.Rows.iadd_int ⟨.int (i + j), H, I.tok _, ⟨_, rfl⟩, q⟩
end
/-! ### isinstance -/
section
variable {X : Cx} {pins : List (Addr × Obj)} {σ : St} {H : Hp} {s : Shared} {A : Around} {E : Value → Shared → Prop} {Q : Value → Shared → Prop} {c : Value} {b : Bool}
end
end L2
namespace L2
open PySem PySem.Spec PyProof.Rows
/-! ### room -/
structure Room (k : Nat) (A : Around) : Prop where
  hd : A.handled = none
  dp : A.depth + 3 * k + 5 < recursionLimit
  un : A.units + 16 * k + 200 < cLine
theorem Room.mono {j k : Nat} {A : Around} (r : Room k A) (h : j ≤ k) : Room j A := ⟨r.hd, by have := r.dp; omega, by have := r.un; omega⟩
theorem Room.deeper {k : Nat} {A : Around} (r : Room (k + 1) A) (env : Env) : Room k (A.deeper env) :=
  ⟨r.hd, by have := r.dp; show A.depth + 1 + 3 * k + 5 < _; omega, by have := r.un; show A.units + 3 + 16 * k + 200 < _; omega⟩
theorem Room.in1 {k : Nat} {A : Around} (r : Room (k + 1) A) : Room k A.in1 :=
  ⟨r.hd, by have := r.dp; show A.depth + 3 * k + 5 < _; omega, by have := r.un; show A.units + 1 + 16 * k + 200 < _; omega⟩
theorem make_depth {A : Around} {C : Addr} {us : List Value} {kw : List (Str × Value)} : (A.under (.builtin "type.__call__" ⟨.ref C :: us, kw⟩)).depth = A.depth + 1 := by
  first | rfl | simp [Around.under, Code.weight, Code.isCreation, Code.isGuard, Code.isCaller, Code.frames, Code.isFrame, guardIds]
theorem make_units {A : Around} {C : Addr} {us : List Value} {kw : List (Str × Value)} : (A.under (.builtin "type.__call__" ⟨.ref C :: us, kw⟩)).units = A.units + 1 := by
  first | rfl | simp [Around.under, Code.cUnits, Code.frames, Code.isFrame]
theorem Room.make {k : Nat} {A : Around} (r : Room (k + 1) A) (C : Addr) (us : List Value) (kw : List (Str × Value)) : Room k (A.under (.builtin "type.__call__" ⟨.ref C :: us, kw⟩)) :=
  ⟨r.hd, by have := r.dp; rw [make_depth]; omega, by have := r.un; rw [make_units]; omega⟩
theorem Room.depth {k : Nat} {A : Around} (r : Room k A) : A.depth < recursionLimit := by have := r.dp; omega
theorem Room.units {k : Nat} {A : Around} (r : Room k A) : A.units + 64 < cLine := by have := r.un; omega
/-! ### argument lists and displays -/
noncomputable def tNil : TA := fun _ H Q => Q [] H
noncomputable def tCons (ta : TE) (tr : TA) : TA := fun σ H Q => ta σ H fun x H1 => tr σ H1 fun xs H2 => Q (x :: xs) H2
section
variable {X : Cx} {e : Expr} {es : List Expr} {te : TE} {t : TA} {pos : Pos}
theorem pa_nil : PA X [] tNil := fun _ _ _ _ H Q I h => Calls.spliced_nil ⟨[], H, I, .nil, h⟩
theorem pa_cons (ha : PE X e te) (hr : PA X es t) (hs : starEach (e :: es) X.env = (false, eval e X.env) :: starEach es X.env := by rfl) : PA X (e :: es) (tCons te t) := by
  intro pos pins s σ H Q I h
  rw [hs]
  show wpAny _ _ (spliced ((false, eval e X.env) :: backTo pos (starEach es X.env))) _ _ s
  refine Calls.spliced_cons (thn (ha pins s σ H _ I h) fun u s1 hh_ => ?_)
  obtain ⟨x, H1, I1, r1, q1⟩ := hh_
  exact thn (hr pos pins s1 σ H1 _ I1 q1) fun us s2 ⟨xs, H2, I2, r2, q2⟩ => ⟨x :: xs, H2, I2, .cons r1 r2, q2⟩
/-- a tuple, a list of written items -/
noncomputable def tTup (t : TA) : TE := fun σ H Q => t σ H fun xs H1 => xs.length ≤ sizeLine ∧ ∀ p, H1 p = none → Q (.ref p) (upd H1 p (.tup xs))
noncomputable def tLst (t : TA) : TE := fun σ H Q => t σ H fun xs H1 => xs.length ≤ sizeLine ∧ ∀ p, H1 p = none → Q (.ref p) (upd H1 p (.lst xs))
theorem pe_tup {x1} (h : PA X es t) : PE X (.Tuple es x1 pos) (tTup t) := by
  intro pins s σ H Q I hq
  refine wpAny_Tuple_spliced (thn (h pos pins s σ H _ I hq) fun us s1 ⟨xs, H1, I1, r, z, q⟩ => ⟨by rw [← r.length]; exact z, ?_⟩)
  have hf : H1 s1.heap.objs.size = none := I1.hok.fresh (Nat.le_refl _)
  refine ⟨.ref s1.heap.objs.size, upd H1 s1.heap.objs.size (.tup xs), I1.laid (t' := s1.toks) (fun b u e => Heap.get?_push_of_some _ e) (Nat.le_refl _) ?_, rfl, q _ hf⟩
  exact ⟨z, us, r, ⟨_, Heap.get?_push_size _ rfl, rfl, _, rfl⟩⟩
theorem pe_lst (h : PA X es t) : PE X (.List es pos) (tLst t) := by
  intro pins s σ H Q I hq
  refine wpAny_List_spliced (thn (h pos pins s σ H _ I hq) fun us s1 ⟨xs, H1, I1, r, z, q⟩ => ⟨by rw [← r.length]; exact z, ?_⟩)
  have hf : H1 s1.heap.objs.size = none := I1.hok.fresh (Nat.le_refl _)
  refine ⟨.ref s1.heap.objs.size, upd H1 s1.heap.objs.size (.lst xs), I1.laid (t' := s1.toks) (fun b u e => Heap.get?_push_of_some _ e) (Nat.le_refl _) ?_, rfl, q _ hf⟩
  exact ⟨z, us, 0, r, Heap.get?_push_size _ rfl⟩
end
/-! ### what a def promises -/
/-- a def's promise: the bound arguments in the parameters' order, the heap, the wanted end, the wanted exception -/
noncomputable abbrev Sp := List V → Hp → VK → XK → Prop
/-- how an exception lies behind a call (file 08 gives it): the callers' frames, abstract heap and state ahead of the call, the wish, the exception, the state -/
noncomputable abbrev CXT := List Env → Hp → Shared → XK → Value → Shared → Prop
/-- the state at a call -/
structure Env0 (P : Program) (w : World) (K : PySem.W.Frag) (mg : Str → Option Value) (base : Heap) (A : Around) (outer : List Env) (s : Shared) (H : Hp) : Prop where
  frames : A.frames = some outer
  mod : Mod K mg base
  bs : ∀ b o, base.get? b = some o → s.heap.get? b = some o ∧ H b = none
  bsz : base.objs.size ≤ s.heap.objs.size
  funs : s.heap.FunFrames base outer
  frf : ∀ b ∈ frs outer, H b = none
  hok : HOk P w H s.heap
  bare : AllBare s.gens
/-- a call's end -/
noncomputable def CE (outer : List Env) (P : Program) (w : World) (H : Hp) (s : Shared) (Q : VK) (u : Value) (s' : Shared) : Prop :=
  ∃ v H', s'.os = s.os ∧ AllBare s'.gens ∧ Un (frs outer) [] H H' s.heap s'.heap ∧ HOk P w H' s'.heap ∧ RelV v u ∧ Q v H'
noncomputable def CR (CX : CXT) (outer : List Env) (P : Program) (w : World) (H : Hp) (s : Shared) (Q : VK) (E : XK) (r : Result) (s' : Shared) : Prop :=
  match r with
  | .ok (.ret u) => CE outer P w H s Q u s'
  | .ok _ => False
  | .error e => CX outer H s E e s'
structure FnOk (P : Program) (w : World) (K : PySem.W.Frag) (mg : Str → Option Value) (base : Heap) (CX : CXT) (k : Nat) (f : Addr) (fd : FuncData) (ps : List Str) (sp : Sp) : Prop where
  len : ∀ vs H Q E, sp vs H Q E → vs.length = ps.length
  run : ∀ (A : Around) (outer : List Env) (s : Shared) (H : Hp) (args : Args) (us : List Value) (vs : List V) (Q : VK) (E : XK), Room k A → Env0 P w K mg base A outer s H → BindsTo s fd args (ps.zip us) → Vals vs us → sp vs H Q E →
    codeAny (model P w) A (.call (.ref f) args) (CR CX outer P w H s Q E) s
theorem Env0.make {P : Program} {w : World} {K : PySem.W.Frag} {mg : Str → Option Value} {base : Heap} {A : Around} {outer : List Env} {s : Shared} {H : Hp} (e : Env0 P w K mg base A outer s H) (C : Addr) (us : List Value) (kw : List (Str × Value)) :
    Env0 P w K mg base (A.under (.builtin "type.__call__" ⟨.ref C :: us, kw⟩)) outer s H := ⟨by first | exact e.frames | (simpa [Around.under, Code.envs, Code.isFrame, pushEnvs] using e.frames), e.mod, e.bs, e.bsz, e.funs, e.frf, e.hok, e.bare⟩
section
variable {X : Cx} {pins : List (Addr × Obj)} {σ : St} {H : Hp} {s s' : Shared}
/-- from a body: what a callee wants -/
theorem Inv.env0 (I : Inv X pins σ H s) : Env0 X.prog X.w X.K X.mg X.base X.A X.stack s H :=
  ⟨I.ok.frames, I.ok.mod, I.bs, Nat.le_trans I.ok.bsz I.sz, I.stack, I.stkFree, I.hok, I.bare⟩
/-- behind a call -/
theorem Inv.after {Q : VK} {u : Value} (I : Inv X pins σ H s) (h : CE X.stack X.prog X.w H s Q u s') : EP X pins σ Q u s' := by
  obtain ⟨v, H', os, bare, un, hok, r, q⟩ := h
  obtain ⟨hh, g, d, t, os'⟩ := s'
  obtain rfl : os' = s.os := os
  exact ⟨v, H', I.call (h' := hh) (g' := g) (d' := d) (t' := t) (ch := []) un hok bare (fun b z => absurd z (by simp)), r, q⟩
end
/-! ### calls -/
/-- f(..): the written arguments, then the defaults dvs; E: what is wanted of an exception -/
noncomputable def tCall (sp : Sp) (dvs : List V) (E : XK) (t : TA) : TE := fun σ H Q => t σ H fun vs H1 => sp (vs ++ dvs) H1 Q E
/-- o.m(..) of an instance of the class at C -/
noncomputable def tMeth (C : Addr) (m : Str) (sp : Sp) (dvs : List V) (E : XK) (ta : TE) (t : TA) : TE := fun σ H Q => ta σ H fun x H1 => ∃ a dx fs, x = .ref a ∧ H1 a = some (.ins C dx fs) ∧ fs.lookup m = none ∧
  t σ H1 fun vs H2 => sp (x :: (vs ++ dvs)) H2 Q E
/-- C(..): a new instance and its dict, then __init__ -/
noncomputable def tMake (C : Addr) (sp : Sp) (dvs : List V) (E : XK) (t : TA) : TE := fun σ H Q => t σ H fun vs H1 => ∀ x dx, H1 x = none → H1 dx = none → dx ≠ x →
  sp (.ref x :: (vs ++ dvs)) (upd (upd H1 dx (.own x)) x (.ins C dx [])) (fun v H2 => v = .non ∧ Q (.ref x) H2) E
/-- how the parameters are bound: us the positional arguments, kw the keywords' values by name, ds the defaults that fill up -/
noncomputable def Binds (K : PySem.W.Frag) (fd : FuncData) (ps : List Str) (ds : List Value) : Prop :=
  ∀ (s : Shared) (us : List Value), K.In s.heap → (us ++ ds).length = ps.length → BindsTo s fd ⟨us, []⟩ (ps.zip (us ++ ds))
/-- every parameter is given -/
theorem Binds.all {K : PySem.W.Frag} {fd : FuncData} {ps : List Str} (h : ∀ us : List Value, us.length = ps.length → bindArgs fd ⟨us, []⟩ = pure (ps.zip us)) : Binds K fd ps [] := fun s us _ hl => by
  rw [List.append_nil] at hl ⊢
  exact .of_eq (h us hl)
/-- an exception of a callee reaches what this body wants of exceptions -/
noncomputable def Passes (CX : CXT) (X : Cx) (E : XK) : Prop := ∀ (pins : List (Addr × Obj)) (σ : St) (H : Hp) (s : Shared) (e : Value) (s' : Shared), Inv X pins σ H s → CX X.stack H s E e s' → X.xe e s'
section
variable {X : Cx} {CX : CXT} {k : Nat} {f C : Addr} {fd : FuncData} {ps : List Str} {sp : Sp} {dvs : List V} {ds : List Value} {E : XK} {x m : Str} {p pos apos : Pos} {e o : Expr} {es : List Expr} {ta : TE} {t : TA}
/-- the callee runs -/
theorem run_fn {pins : List (Addr × Obj)} {σ : St} {H : Hp} {s : Shared} {Q : VK} {us : List Value} {vs : List V} (F : FnOk X.prog X.w X.K X.mg X.base CX k f fd ps sp) (hr : Room k X.A) (hb : Binds X.K fd ps ds) (hd : Vals dvs ds) (hx : Passes CX X E)
    (I : Inv X pins σ H s) (r : Vals vs us) (h : sp (vs ++ dvs) H Q E) : wpAny (model X.prog X.w) X.A (call (.ref f) us) (EP X pins σ Q) X.xe s := by
  have r2 : Vals (vs ++ dvs) (us ++ ds) := r.append hd
  have hl : (us ++ ds).length = ps.length := by rw [← r2.length]; exact F.len _ _ _ _ h
  refine wpAny_call (codeAny_mono (F.run X.A X.stack s H ⟨us, []⟩ (us ++ ds) (vs ++ dvs) Q E hr I.env0 (hb s us I.kIn hl) r2 h) fun r s' hq => ?_)
  cases r with
  | error e => exact hx pins σ H s e s' I hq
  | ok fl =>
    cases fl with
    | ret u => exact I.after hq
    | next => exact False.elim hq
    | brk => exact False.elim hq
    | cont => exact False.elim hq
theorem pe_call (F : FnOk X.prog X.w X.K X.mg X.base CX k f fd ps sp) (hr : Room k X.A) (hg : Gl X x) (hm : X.mg x = some (.ref f)) (hk : PySem.W.keepIn X.K (.ref f) = true) (hb : Binds X.K fd ps ds) (hd : Vals dvs ds) (hx : Passes CX X E)
    (ha : PA X (e :: es) t) (hdb : (x == ("__debug__" : Str)) = false := by decide) (he : starEach (e :: es) X.env = (false, eval e X.env) :: starEach es X.env := by rfl) (hpl : (backTo pos (starEach es X.env)).any (·.1) = false := by rfl) :
    PE X (.Call (.Name x p) (e :: es) [] pos) (tCall sp dvs E t) := by
  intro pins s σ H Q I h
  refine wpAny_Call_Name_kw (ld_glob I hg hm ?_ hdb)
  refine PySem.W.callWith_K (h₀ := X.base) I.ok.mod.kin hk (thn (ha pos pins s σ H _ I h) fun us s1 ⟨vs, H1, I1, r, q⟩ => ⟨I1.kIn, ?_⟩) he hpl
  exact run_fn F hr hb hd hx I1 r q
/-- o.m(e, ..) -/
theorem pe_meth {pl : Sem Bool} (he : PE X o ta) (c : Cls X.K C) (hm : Meth X.K C m f) (F : FnOk X.prog X.w X.K X.mg X.base CX k f fd ps sp) (hr : Room k X.A) (hb : Binds X.K fd ps ds) (hd : Vals dvs ds) (hx : Passes CX X E) (ha : PA X (e :: es) t)
    (hst : starEach (e :: es) X.env = (false, eval e X.env) :: starEach es X.env := by rfl) (hpl : (backTo pos (starEach es X.env)).any (·.1) = false := by rfl)
    (ht : eval (.Call (.Attribute o m apos) (e :: es) [] pos) X.env = (do
      let ov ← eval o X.env
      standAt apos.atName
      let (f, first) ← holding [ov] (getMethod ov m pl)
      callWith pos f first (backTo pos (starEach (e :: es) X.env)) (backToKw pos (keywordEach [] X.env))) := by rfl) :
    PE X (.Call (.Attribute o m apos) (e :: es) [] pos) (tMeth C m sp dvs E ta t) := by
  intro pins s σ H Q I h
  refine PySem.W.methodCall_KW (pl := pl) (thn (he pins s σ H _ I h) fun u s1 hh_ => ?_) ht
  obtain ⟨x, H1, I1, rx, a, dx, fs, ex, ea, l, q⟩ := hh_
  subst ex
  obtain rfl : u = Value.ref a := rx
  refine getmeth_ok I1 ea c hm l ?_
  refine PySem.W.callWith_K (first := [.ref a]) (h₀ := X.base) I.ok.mod.kin hm.kp (thn (ha pos pins s1 σ H1 _ I1 q) fun us s2 ⟨vs, H2, I2, r, q2⟩ => ⟨I2.kIn, ?_⟩) hst hpl
  exact run_fn (us := .ref a :: us) (vs := .ref a :: vs) F hr hb hd hx I2 (.cons rfl r) q2
/-- o.m() -/
theorem pe_meth0 {pl : Sem Bool} (he : PE X o ta) (c : Cls X.K C) (hm : Meth X.K C m f) (F : FnOk X.prog X.w X.K X.mg X.base CX k f fd ps sp) (hr : Room k X.A) (hb : Binds X.K fd ps ds) (hd : Vals dvs ds) (hx : Passes CX X E)
    (ht : eval (.Call (.Attribute o m apos) [] [] pos) X.env = (do
      let ov ← eval o X.env
      standAt apos.atName
      let (f, first) ← holding [ov] (getMethod ov m pl)
      callWith pos f first (backTo pos (starEach [] X.env)) (backToKw pos (keywordEach [] X.env))) := by rfl) :
    PE X (.Call (.Attribute o m apos) [] [] pos) (tMeth C m sp dvs E ta tNil) := by
  intro pins s σ H Q I h
  refine PySem.W.methodCall_KW (pl := pl) (thn (he pins s σ H _ I h) fun u s1 hh_ => ?_) ht
  obtain ⟨x, H1, I1, rx, a, dx, fs, ex, ea, l, q⟩ := hh_
  subst ex
  obtain rfl : u = Value.ref a := rx
  refine getmeth_ok I1 ea c hm l ?_
  exact PySem.W.callWith_K0 (first := [.ref a]) I1.kIn hm.kp (run_fn (us := [.ref a]) (vs := [.ref a]) F hr hb hd hx I1 (.cons rfl .nil) q)
/-- what a class must have to be made -/
structure Mk (K : PySem.W.Frag) (C f : Addr) : Prop where
  makes : PySem.W.makesIn K C = true
  init : PySem.W.findIn K (.ref C) "__init__" = some (some (.ref f))
  fn : PySem.W.isFn K (.ref f) = true
  kp : PySem.W.keepIn K (.ref C) = true
theorem run_make {pins : List (Addr × Obj)} {σ : St} {H : Hp} {s : Shared} {Q : VK} {us : List Value} {vs : List V} (M : Mk X.K C f) (F : FnOk X.prog X.w X.K X.mg X.base CX k f fd ps sp) (hr : Room (k + 1) X.A) (hb : Binds X.K fd ps ds) (hd : Vals dvs ds)
    (hx : Passes CX X E) (I : Inv X pins σ H s) (r : Vals vs us)
    (h : ∀ x dx, H x = none → H dx = none → dx ≠ x → sp (.ref x :: (vs ++ dvs)) (upd (upd H dx (.own x)) x (.ins C dx [])) (fun v H2 => v = .non ∧ Q (.ref x) H2) E) :
    wpAny (model X.prog X.w) X.A (call (.ref C) us) (EP X pins σ Q) X.xe s := by
  have hq := h (s.heap.objs.size + 1) s.heap.objs.size (I.hok.fresh (Nat.le_succ _)) (I.hok.fresh (Nat.le_refl _)) (Nat.ne_of_lt (Nat.lt_succ_self _))
  have I2 := Inv.made (C := C) I
  have r2 : Vals (V.ref (s.heap.objs.size + 1) :: (vs ++ dvs)) (Value.ref (s.heap.objs.size + 1) :: (us ++ ds)) := .cons rfl (r.append hd)
  have hl : (Value.ref (s.heap.objs.size + 1) :: us ++ ds).length = ps.length := by
    have e := r2.length
    rw [F.len _ _ _ _ hq] at e
    exact e.symm
  refine wpAny_call (make_map (f := f) I.kIn M.makes M.init (beq_iff_eq.mp M.fn) (codeAny_mono (F.run _ X.stack _ _ ⟨Value.ref (s.heap.objs.size + 1) :: us, []⟩ (Value.ref (s.heap.objs.size + 1) :: (us ++ ds)) _ _ E (hr.make C us [])
    (I2.env0.make C us []) (hb _ (Value.ref (s.heap.objs.size + 1) :: us) I2.kIn hl) r2 hq) fun r s' hq' => ?_))
  cases r with
  | error e => exact hx pins σ _ _ e s' I2 hq'
  | ok fl =>
    cases fl with
    | ret u =>
      obtain ⟨v, H', I3, rv, ev, q3⟩ := I2.after hq'
      subst ev
      exact ⟨rv, ⟨V.ref (s.heap.objs.size + 1), H', I3, rfl, q3⟩⟩
    | next => exact False.elim hq'
    | brk => exact False.elim hq'
    | cont => exact False.elim hq'
theorem pe_make (M : Mk X.K C f) (F : FnOk X.prog X.w X.K X.mg X.base CX k f fd ps sp) (hr : Room (k + 1) X.A) (hg : Gl X x) (hm : X.mg x = some (.ref C)) (hb : Binds X.K fd ps ds) (hd : Vals dvs ds) (hx : Passes CX X E)
    (ha : PA X (e :: es) t) (hdb : (x == ("__debug__" : Str)) = false := by decide) (he : starEach (e :: es) X.env = (false, eval e X.env) :: starEach es X.env := by rfl) (hpl : (backTo pos (starEach es X.env)).any (·.1) = false := by rfl) :
    PE X (.Call (.Name x p) (e :: es) [] pos) (tMake C sp dvs E t) := by
  intro pins s σ H Q I h
  refine wpAny_Call_Name_kw (ld_glob I hg hm ?_ hdb)
  refine PySem.W.callWith_K (h₀ := X.base) I.ok.mod.kin M.kp (thn (ha pos pins s σ H _ I h) fun us s1 ⟨vs, H1, I1, r, q⟩ => ⟨I1.kIn, ?_⟩) he hpl
  exact run_make M F hr hb hd hx I1 r q
theorem pe_make0 (M : Mk X.K C f) (F : FnOk X.prog X.w X.K X.mg X.base CX k f fd ps sp) (hr : Room (k + 1) X.A) (hg : Gl X x) (hm : X.mg x = some (.ref C)) (hb : Binds X.K fd ps ds) (hd : Vals dvs ds) (hx : Passes CX X E)
    (hdb : (x == ("__debug__" : Str)) = false := by decide) : PE X (.Call (.Name x p) [] [] pos) (tMake C sp dvs E tNil) := by
  intro pins s σ H Q I h
  refine wpAny_Call_Name_kw (ld_glob I hg hm ?_ hdb)
  exact PySem.W.callWith_K0 I.kIn M.kp (run_make (us := []) M F hr hb hd hx I .nil h)
end
/-! ### keywords -/
section
variable {X : Cx} {CX : CXT} {k : Nat} {f C : Addr} {fd : FuncData} {ps ks : List Str} {sp : Sp} {E : XK} {x m : Str} {p pos apos kpos : Pos} {e o : Expr} {es : List Expr} {kws : List Keyword} {te ta : TE} {t tk : TA} {nm : Option Str}
variable {g : List Value → List Value → List Value} {gV : List V → List V → List V}
end
/-! ### a def's body keeps its promise -/
/-- names: the parameters first -/
structure FnScope (N P : List Str) (sc : Scope) : Prop where
  kind : sc.kind = .function
  co : sc.isCoroutine = false
  gen : sc.isGenerator = false
  nd : N.Nodup
  pre : N.take P.length = P
  par : ∀ x ∈ P, sc.names.lookup x = some .local ∨ sc.names.lookup x = some .cell
  nofree : ∀ y ∈ sc.names, y.2 ≠ .free
theorem bindL_out {kindOf : Str → Option NameKind} {x : Str} : ∀ {binds : List (Str × Value)} {m : Str → Option Value}, (∀ v, (x, v) ∉ binds) → bindL kindOf binds m x = m x
  | [], _, _ => rfl
  | (n, v) :: r, m, h => by
    unfold bindL
    rw [bindL_out fun w hw => h w (List.mem_cons_of_mem _ hw)]
    split
    · have : x ≠ n := by rintro rfl; exact h v List.mem_cons_self
      simp [this]
    · rfl
theorem bindC_out {kindOf : Str → Option NameKind} {x : Str} : ∀ {binds : List (Str × Value)} {m : Str → Option Value}, (∀ v, (x, v) ∉ binds) → bindC kindOf binds m x = m x
  | [], _, _ => rfl
  | (n, v) :: r, m, h => by
    unfold bindC
    rw [bindC_out fun w hw => h w (List.mem_cons_of_mem _ hw)]
    split
    · rfl
    · have : x ≠ n := by rintro rfl; exact h v List.mem_cons_self
      simp [this]
theorem bindL_get {kindOf : Str → Option NameKind} {x : Str} {v : Value} : ∀ {P : List Str} {vs : List Value} {i : Nat} {m : Str → Option Value}, P.Nodup → P[i]? = some x → vs[i]? = some v → kindOf x = some .local →
    bindL kindOf (P.zip vs) m x = some v
  | [], _, _, _, _, h, _, _ => by simp at h
  | _ :: _, [], _, _, _, _, h, _ => by simp at h
  | p :: P, w :: vs, 0, m, nd, h1, h2, hk => by
    simp at h1 h2; subst h1; subst h2
    show bindL kindOf ((p, w) :: P.zip vs) m p = _
    unfold bindL
    rw [bindL_out fun v hv => (List.nodup_cons.mp nd).1 (List.of_mem_zip hv).1, if_pos hk]
    simp
  | p :: P, w :: vs, i + 1, m, nd, h1, h2, hk => by
    show bindL kindOf ((p, w) :: P.zip vs) m x = _
    unfold bindL
    exact bindL_get (i := i) (List.nodup_cons.mp nd).2 (by simpa using h1) (by simpa using h2) hk
theorem bindC_get {kindOf : Str → Option NameKind} {x : Str} {v : Value} : ∀ {P : List Str} {vs : List Value} {i : Nat} {m : Str → Option Value}, P.Nodup → P[i]? = some x → vs[i]? = some v → kindOf x ≠ some .local →
    bindC kindOf (P.zip vs) m x = some v
  | [], _, _, _, _, h, _, _ => by simp at h
  | _ :: _, [], _, _, _, _, h, _ => by simp at h
  | p :: P, w :: vs, 0, m, nd, h1, h2, hk => by
    simp at h1 h2; subst h1; subst h2
    show bindC kindOf ((p, w) :: P.zip vs) m p = _
    unfold bindC
    rw [bindC_out fun v hv => (List.nodup_cons.mp nd).1 (List.of_mem_zip hv).1, if_neg hk]
    simp
  | p :: P, w :: vs, i + 1, m, nd, h1, h2, hk => by
    show bindC kindOf ((p, w) :: P.zip vs) m x = _
    unfold bindC
    exact bindC_get (i := i) (List.nodup_cons.mp nd).2 (by simpa using h1) (by simpa using h2) hk
/-- the names' values at the entry -/
noncomputable def start (N : List Str) (vs : List V) : St := vs.map some ++ List.replicate (N.length - vs.length) none
/-- the context of a def's body, at its entry; an exception leaves the frame, then lies as CX says -/
noncomputable def cxOf (CX : CXT) (P : Program) (w : World) (K : PySem.W.Frag) (mg : Str → Option Value) (base : Heap) (N : List Str) (qual : Str) (scope : Scope) (f : Addr) (cd : Value) (A : Around) (outer : List Env) (s : Shared) (H : Hp) (E : XK) : Cx where
  prog := P
  w := w
  K := K
  mg := mg
  base := base
  A := A.deeper (envOfC qual scope s.heap.objs.size f cd)
  N := N
  s_0 := s
  H_0 := H
  env := envOfC qual scope s.heap.objs.size f cd
  outer := outer
  stack := envOfC qual scope s.heap.objs.size f cd :: outer
  ex := []
  calm := true
  fn := fun _ => true
  pn := []
  xe := fun e s' => wpAny (model P w) (A.deeper (envOfC qual scope s.heap.objs.size f cd)) (leaving (envOfC qual scope s.heap.objs.size f cd) e) (fun _ s'' => CX outer H s E e s'') (fun e' s'' => CX outer H s E e' s'') s'
theorem cell_has {sc : Scope} {n : Nat} {x : Str} (h : sc.names.lookup x = some .cell) : ∃ c, (cellsFrom n sc.names []).lookup x = some c := by
  have q := PySem.W.cellsFrom_some sc.names n [] (.inl h)
  exact Option.isSome_iff_exists.mp q
theorem inv_start {CX : CXT} {P : Program} {w : World} {K : PySem.W.Frag} {mg : Str → Option Value} {base : Heap} {N ps : List Str} {qual : Str} {scope : Scope} {f : Addr} {cd : Value} {A : Around} {outer : List Env} {s s1 : Shared} {H : Hp} {E : XK} {us : List Value} {vs : List V}
    (S : FnScope N ps scope) (hd : A.handled = none) (e0 : Env0 P w K mg base A outer s H) (hl : vs.length = ps.length) (r : Vals vs us)
    (x : InCallC s s.heap.objs.size (bindL (envOfC qual scope s.heap.objs.size f cd).kindOf (ps.zip us) fun _ => none) (cellsFrom (s.heap.objs.size + 1) scope.names []) (bindC (envOfC qual scope s.heap.objs.size f cd).kindOf (ps.zip us) fun _ => none) s1) :
    Inv (cxOf CX P w K mg base N qual scope f cd A outer s H E) [] (start N vs) H s1 := by
  have hpl : ps.length ≤ N.length := by have := congrArg List.length S.pre; rw [List.length_take] at this; omega
  obtain ⟨h1, tk, rfl, hk⟩ := x.done
  have noA : ∀ b : Addr, b ∉ (cxOf CX P w K mg base N qual scope f cd A outer s H E).ex := fun b z => absurd (show b ∈ ([] : List Addr) from z) (by simp)
  refine ⟨⟨e0.mod, S.kind, rfl, rfl, Nat.le_refl _, fun y z c h1 h2 => ?_, fun y hy => ?_, fun y c _ h => ?_, fun _ => hd, Around.frames_deeper e0.frames, .inr ⟨rfl, rfl⟩, fun b z => absurd z (noA b), e0.bs, e0.bsz, fun b _ _ => noA b, fun b z => absurd z (noA b), e0.funs, e0.frf⟩,
    rfl, e0.bare, Un.kept hk, ⟨_, x.toInCall.ns, fun i y v h1 h2 h3 => ?_⟩, fun y c h => ⟨_, x.cell y c h⟩, e0.hok.fresh (Nat.le_refl _), fun y c h => ?_, fun p hp => absurd (show p ∈ ([] : List (Addr × Obj)) from hp) (by simp), e0.hok.kept hk, ?_⟩
  · exact name_of_addr x.apart (PySem.mem_of_lookup h1) (PySem.mem_of_lookup h2)
  · have hy : scope.names.lookup y = some .cell ∨ scope.names.lookup y = some .free := hy
    rcases hy with hy | hy
    · exact cell_has hy
    · exact absurd rfl (S.nofree _ (PySem.mem_of_lookup hy))
  · exact Nat.le_of_lt (x.above y c (PySem.mem_of_lookup h))
  · have hi : i < vs.length := by
      unfold start at h2
      by_cases hi : i < vs.length
      · exact hi
      · rw [List.getElem?_append_right (by simpa using hi)] at h2
        rw [List.getElem?_replicate] at h2
        split at h2 <;> cases h2
    have ha : vs[i]? = some v := by
      unfold start at h2
      rw [List.getElem?_append_left (by simpa using hi), List.getElem?_map] at h2
      cases e : vs[i]? with
      | none => rw [e] at h2; cases h2
      | some a => rw [e] at h2; cases h2; rfl
    obtain ⟨u, hu, rv⟩ := r.get ha
    have hp : ps[i]? = some y := by
      rw [← S.pre, List.getElem?_take_of_lt (by omega)]; exact h1
    have ndP : ps.Nodup := by rw [← S.pre]; exact S.nd.sublist (List.take_sublist _ _)
    refine ⟨u, rv, ?_⟩
    rcases S.par y (List.mem_of_getElem? hp) with k | k
    · exact .inl ⟨k, bindL_get ndP hp hu k⟩
    · obtain ⟨c, e⟩ := cell_has (n := s.heap.objs.size + 1) k
      refine .inr ⟨.inl k, c, e, ?_⟩
      have q := x.cell y c e
      rw [bindC_get ndP hp hu (by show scope.names.lookup y ≠ _; rw [k]; decide)] at q
      exact q
  · exact e0.hok.fresh (Nat.le_of_lt (x.above y c (PySem.mem_of_lookup h)))
  · unfold start
    show _ = N.length
    rw [List.length_append, List.length_map, List.length_replicate]
    omega
/-- THE RULE: a def (or a method) of the text, by its body. The body's reading t is chosen for each entry; it is run at the parameters' values -/
theorem fn_of {CX : CXT} {P : Program} {w : World} {K : PySem.W.Frag} {mg : Str → Option Value} {base : Heap} {k : Nat} {f : Addr} {name qual : Str} {params : Arguments} {body : List Stmt} {scope : Scope} {dV kV doc pm cdv ct oc : Value} {an od : Option Addr}
    {osl : Array (Option Value)} {N ps : List Str} {sp : Sp} (lk : K.lookup f = some ⟨oc, od, .func (PySem.W.fnOf name qual params body scope dV kV doc pm an cdv ct), osl⟩) (hcd : PySem.W.codeIn K cdv qual = true) (S : FnScope N ps scope)
    (len : ∀ vs H Q E, sp vs H Q E → vs.length = ps.length)
    (hbody : ∀ (A : Around) (outer : List Env) (s : Shared) (H : Hp) (vs : List V) (Q : VK) (E : XK), Room k (A.deeper (envOfC qual scope s.heap.objs.size f cdv)) → sp vs H Q E →
      ∃ t, PSs (cxOf CX P w K mg base N qual scope f cdv A outer s H E) body t ∧ t { nx := fun _ H' => Q .non H', rt := Q } (start N vs) H) :
    FnOk P w K mg base CX (k + 1) f (PySem.W.fnOf name qual params body scope dV kV doc pm an cdv ct) ps sp := by
  refine ⟨len, fun A outer s H args us vs Q E hr e0 hb r hsp => ?_⟩
  have hl := len _ _ _ _ hsp
  have KX : K.In s.heap := e0.mod.kin.keeps fun b o e => (e0.bs b o e).1
  have lim : s.heap.NoLimit := e0.mod.nolimit.keeps fun b o e => (e0.bs b o e).1
  have hkind : ∀ y ∈ ps.zip us, scope.names.lookup y.1 = some .local ∨ (scope.names.lookup y.1 = some .cell ∧ ((cellsFrom (s.heap.objs.size + 1) scope.names []).lookup y.1).isSome = true) := fun ⟨n, v⟩ hy => by
    rcases S.par n (List.of_mem_zip hy).1 with q | q
    · exact .inl q
    · exact .inr ⟨q, PySem.W.cellsFrom_some _ _ _ (.inl q)⟩
  refine codeAny_call_function hr.depth (KX _ _ lk) rfl S.co S.gen rfl (PySem.W.codeRec_of KX hcd) (hb _ _ _ _ ?_)
  refine wpAny_newFunctionEnv_cells S.kind hkind fun env he s1 x => ?_
  subst he
  refine ⟨lim.keeps x.toInCall.keep, codeAny_func ?_⟩
  obtain ⟨t, ht, hq⟩ := hbody A outer s H vs Q E (hr.deeper _) hsp
  have I : Inv (cxOf CX P w K mg base N qual scope f cdv A outer s H E) [] (start N vs) H s1 := inv_start S hr.hd e0 hl r x
  refine wpAny_mono (ht [] s1 (start N vs) H _ I hq) (fun fl s' hs => ?_) fun e s' hs => hs
  have fin : ∀ {σ' : St} {H' : Hp} {v : V} {u : Value}, Inv (cxOf CX P w K mg base N qual scope f cdv A outer s H E) [] σ' H' s' → RelV v u → Q v H' → CE outer P w H s Q u s' :=
    fun {σ' H' v u} J rv q => ⟨v, H', J.os, J.bare, J.base, J.hok, rv, q⟩
  cases fl with
  | ret u =>
    obtain ⟨v, σ', H', J, rv, q⟩ := hs
    exact fin J rv q
  | next =>
    obtain ⟨σ', H', J, q⟩ := hs
    exact fin (v := V.non) (u := Value.none) J rfl q
  | brk =>
    obtain ⟨_, _, _, q⟩ := hs
    exact False.elim q
  | cont =>
    obtain ⟨_, _, _, q⟩ := hs
    exact False.elim q
end L2
namespace L2
open PySem PySem.Spec PyProof.Rows
section
variable {X : Cx} {x : Str} {p pos : Pos} {e : Expr} {es : List Expr} {t : TA} {id T : String} {r : List V → Hp → VK → Prop}
noncomputable def tCB (r : List V → Hp → VK → Prop) (t : TA) : TE := fun σ H Q => t σ H fun vs H1 => r vs H1 Q
/-- f(e, ..), f a built-in function -/
theorem pe_callB (hc : CallR X (.builtin id) r) (hg : Gl X x) (hm : X.mg x = none) (hv : bootBuiltins x = some (.builtin id)) (ha : PA X (e :: es) t) (hn : x ≠ "__name__" := by decide) (hdb : (x == ("__debug__" : Str)) = false := by decide)
    (he : starEach (e :: es) X.env = (false, eval e X.env) :: starEach es X.env := by rfl) (hpl : (backTo pos (starEach es X.env)).any (·.1) = false := by rfl) : PE X (.Call (.Name x p) (e :: es) [] pos) (tCB r t) := by
  intro pins s σ H Q I h
  refine wpAny_Call_Name_kw (ld_blt I hg hm hv ?_ hn hdb)
  exact PyProof.Rows.callWith_builtin1 (thn (ha pos pins s σ H _ I h) fun us s1 ⟨vs, H1, I1, r1, q1⟩ => hc pins s1 σ H1 vs us Q I1 r1 q1) he hpl
/-- T(e, ..), T a built-in type -/
theorem pe_callTy (hc : CallR X (.type T) r) (hg : Gl X x) (hm : X.mg x = none) (hv : bootBuiltins x = some (.type T)) (ha : PA X (e :: es) t) (hn : x ≠ "__name__" := by decide) (hdb : (x == ("__debug__" : Str)) = false := by decide)
    (he : starEach (e :: es) X.env = (false, eval e X.env) :: starEach es X.env := by rfl) (hpl : (backTo pos (starEach es X.env)).any (·.1) = false := by rfl) : PE X (.Call (.Name x p) (e :: es) [] pos) (tCB r t) := by
  intro pins s σ H Q I h
  refine wpAny_Call_Name_kw (ld_blt I hg hm hv ?_ hn hdb)
  exact PyProof.Rows.callWith_type1 (thn (ha pos pins s σ H _ I h) fun us s1 ⟨vs, H1, I1, r1, q1⟩ => hc pins s1 σ H1 vs us Q I1 r1 q1) he hpl
end
end L2
namespace HT
open PySem PyProof.Rows
/-- t < u of tuples of ints -/
noncomputable def lexLt : List Int → List Int → Bool
  | [], [] => false
  | [], _ :: _ => true
  | _ :: _, [] => false
  | x :: xs, y :: ys => if x = y then lexLt xs ys else decide (x < y)
theorem lexLt_cons (x y : Int) (xs ys : List Int) : lexLt (x :: xs) (y :: ys) = if x = y then lexLt xs ys else decide (x < y) := rfl
theorem eqAt_int (A : Around) (s : Shared) (a : Int) (t : Tok) (c : Int) (u : Tok) : ∃ e, SeqAt.EqAt A s (.int a t) (.int c u) e ∧ (e = true ↔ a = c) :=
  ⟨(a == c), SeqAt.EqAt.int_int a t c u, by simp⟩
theorem rcLt_int (A : Around) (s : Shared) (a : Int) (t : Tok) (c : Int) (u : Tok) (prog : Program) (w : World) (E : Value → Shared → Prop) (Q : Value → Shared → Prop) (h : Q (.bool (decide (a < c))) s) :
    wpAny (model prog w) A (richCompare .Lt (.int a t) (.int c u)) Q E s :=
  (PyProof.Rows.lt_int h : wpAny (model prog w) A (compareOp .Lt (.int a t) (.int c u)) Q E s)
section
open PySem.SeqAt
open PySem.AutoSeq1 (wpAny_loadPart')
open PySem.MeetsSeq PySem.MeetsSeq2 PySem.MeetsSeq3
end
section
variable {prog : Program} {w : World} {A : Around} {E : Value → Shared → Prop} {s : Shared}
/-! ### t[a:b], not the whole -/
/-- a slice's bound as a place among n (d where it is left out) -/
noncomputable def sIx (n d : Nat) : Option Int → Nat
  | none => d
  | some v => if v < 0 then (v + (n : Int)).toNat else min v.toNat n
theorem sIx_nat (n d k : Nat) : sIx n d (some (k : Int)) = min k n := by
  show (if (k : Int) < 0 then ((k : Int) + (n : Int)).toNat else min (k : Int).toNat n) = min k n
  rw [if_neg (by omega), Int.toNat_natCast]
end
end HT
namespace L2
open PySem PySem.Spec PyProof.Rows
/-! ### the parts of a slice -/
noncomputable abbrev TO := St → Hp → (Option Int → Hp → Prop) → Prop
/-- a slice's part (left out, or an int) -/
noncomputable def PO (X : Cx) (e : Option Expr) (t : TO) : Prop :=
  ∀ (pins : List (Addr × Obj)) (s : Shared) (σ : St) (H : Hp) (Q : Option Int → Hp → Prop), Inv X pins σ H s → t σ H Q →
    wpAny (model X.prog X.w) X.A (evalPart e X.env) (fun u s' => ∃ o H', Inv X pins σ H' s' ∧ IsPart u o ∧ Q o H') X.xe s
noncomputable def tPart (t : TE) : TO := fun σ H Q => t σ H fun x H1 => ∃ i, x = .int i ∧ Q (some i) H1
theorem intsAre_of {ns : List Int} : ∀ {us : List Value}, Vals (ns.map V.int) us → IntsAre us ns := by
  induction ns with
  | nil => intro us r; rw [List.map_nil] at r; cases r; exact .nil
  | cons n ns ih =>
    intro us r
    rw [List.map_cons] at r
    cases r with
    | cons r1 r2 =>
      obtain ⟨t, e⟩ := r1
      subst e
      exact .cons n t (ih r2)
section
variable {X : Cx} {e : Expr} {te : TE} {lo hi : Option Expr} {tl th : TO} {pos p2 : Pos}
theorem po_some (h : PE X e te) : PO X (some e) (tPart te) := by
  intro pins s σ H Q I hw
  rw [evalPart_some]
  refine thn (h pins s σ H _ I hw) fun u s1 hh_ => ?_
  obtain ⟨x, H1, I1, r1, q1⟩ := hh_
  obtain ⟨i, rfl, q⟩ := q1
  obtain ⟨t, rfl⟩ := r1
  exact ⟨some i, H1, I1, .int i t, q⟩
/-- what a slice of a value is, by values: the slice object stands at sl -/
noncomputable def SlR (X : Cx) (r : V → Option Int → Option Int → Hp → VK → Prop) : Prop :=
  ∀ (pins : List (Addr × Obj)) (s : Shared) (σ : St) (H : Hp) (x : V) (v vl vu : Value) (lo hi : Option Int) (sl : Addr) (Q : VK), Inv X pins σ H s → RelV x v → s.heap.IsSliceOf sl vl vu .none → IsPart vl lo → IsPart vu hi → r x lo hi H Q →
    ∃ T id, typeLookup (.type T) "__getitem__" = pure (some (.builtin id)) ∧ s.TypeIs v T ∧ wpAny (model X.prog X.w) X.A (getItem v (.ref sl)) (EP X pins σ Q) X.xe s
noncomputable def tSl (r : V → Option Int → Option Int → Hp → VK → Prop) (te : TE) (tl th : TO) : TE := fun σ H Q => te σ H fun x H1 => tl σ H1 fun l H2 => th σ H2 fun u H3 => r x l u H3 Q
/-- a[lo:hi], any a -/
theorem pe_slice {r : V → Option Int → Option Int → Hp → VK → Prop} (hr : SlR X r) (he : PE X e te) (hl : PO X lo tl) (hu : PO X hi th) : PE X (.Subscript e (.Slice lo hi none p2) pos) (tSl r te tl th) := by
  intro pins s σ H Q I h
  refine Subscript_ (thn (he pins s σ H _ I h) fun v s1 hh_ => ?_)
  obtain ⟨x, H1, I1, r1, q1⟩ := hh_
  refine wpAny_Slice (thn (hl pins s1 σ H1 _ I1 q1) fun vl s2 ⟨l, H2, I2, pl, q2⟩ => thn (hu pins s2 σ H2 _ I2 q2) fun vu s3 hh_ => ?_)
  obtain ⟨u, H3, I3, pu, q3⟩ := hh_
  rw [evalPart_none]
  refine wpAny_pure ?_
  have I4 : Inv X pins σ H3 { s3 with heap := s3.heap.push { cls := .type "slice", data := .fields #[vl, vu, .none] } } := I3.kept (t' := s3.toks) fun b ob q => Heap.get?_push_of_some _ q
  obtain ⟨T, id, hT, ht, hg⟩ := hr pins { s3 with heap := s3.heap.push { cls := .type "slice", data := .fields #[vl, vu, .none] } } σ H3 x v vl vu l u s3.heap.objs.size Q I4 r1 (Heap.IsSliceOf.new ..) pl pu q3
  show wpAny (model X.prog X.w) X.A (subscriptTail e (.Slice lo hi none p2) v (.ref s3.heap.objs.size)) (EP X pins σ Q) X.xe { s3 with heap := s3.heap.push { cls := .type "slice", data := .fields #[vl, vu, .none] } }
  exact tail_any (ops := [.ref s3.heap.objs.size, v]) ht hT hg (by with_unfolding_all rfl)
/-- the items of xs[lo:hi] -/
noncomputable def cutV (xs : List V) (lo hi : Option Int) : List V := (xs.drop (HT.sIx xs.length 0 lo)).take (HT.sIx xs.length xs.length hi - HT.sIx xs.length 0 lo)
theorem cutV_length (xs : List V) (lo hi : Option Int) : (cutV xs lo hi).length ≤ xs.length := by
  unfold cutV
  rw [List.length_take, List.length_drop]
  omega
/-! ### t < u, t + u -/
end
end L2
namespace L2
open PySem PySem.Spec PyProof.Rows
/-! ### places -/
/-- the place that an index of any sign means -/
noncomputable def ixN (n : Nat) (i : Int) : Option Nat := if 0 ≤ i then (if i < n then some i.toNat else none) else if -(n : Int) ≤ i then some (i + n).toNat else none
noncomputable def atI {α : Type} (xs : List α) (i : Int) : Option α := (ixN xs.length i).bind fun j => xs[j]?
theorem ixN_seq {n : Nat} {i : Int} {j : Nat} (h : ixN n i = some j) : seqIndex? i n = some j ∧ j < n ∧ -(n : Int) ≤ i ∧ i < n := by
  unfold ixN at h
  by_cases h0 : 0 ≤ i
  · rw [if_pos h0] at h
    by_cases h1 : i < n
    · rw [if_pos h1] at h
      have e : i.toNat = j := Option.some.inj h
      exact ⟨by rw [seqIndex_of h0 h1, e], by omega, by omega, h1⟩
    · rw [if_neg h1] at h; cases h
  · rw [if_neg h0] at h
    by_cases h1 : -(n : Int) ≤ i
    · rw [if_pos h1] at h
      have e : (i + n).toNat = j := Option.some.inj h
      exact ⟨by rw [seqIndex_neg (by omega) h1, e], by omega, h1, by omega⟩
    · rw [if_neg h1] at h; cases h
theorem atI_get {α : Type} {xs : List α} {i : Int} {v : α} (h : atI xs i = some v) : ∃ j, seqIndex? i xs.length = some j ∧ xs[j]? = some v ∧ j < xs.length ∧ -(xs.length : Int) ≤ i ∧ i < xs.length := by
  unfold atI at h
  cases e : ixN xs.length i with
  | none => rw [e] at h; cases h
  | some j =>
    rw [e] at h
    obtain ⟨h1, h2, h3, h4⟩ := ixN_seq e
    exact ⟨j, h1, h, h2, h3, h4⟩
theorem atI_nat {α : Type} {xs : List α} {j : Nat} {v : α} (h : xs[j]? = some v) : atI xs (j : Int) = some v := by
  have hj : j < xs.length := (List.getElem?_eq_some_iff.mp h).1
  have e : ixN xs.length (j : Int) = some j := by
    unfold ixN
    rw [if_pos (by omega), if_pos (by omega)]; simp
  unfold atI; rw [e]; exact h
/-! ### what may be subscripted -/
/-- what stands as an index of a plain subscript -/
noncomputable def PlainIx (b : Expr) : Prop := ∀ o i, subscripted b false o i = operate [o, i] (getItem o i)
/-- a subscript by values -/
noncomputable def IxR (X : Cx) (r : R2) : Prop :=
  ∀ (value slice : Expr) (pins : List (Addr × Obj)) (s : Shared) (σ : St) (H : Hp) (x y : V) (v u : Value) (Q : VK), Inv X pins σ H s → RelV x v → RelV y u → r x y H Q →
    subscripted slice false v u = operate [v, u] (getItem v u) → wpAny (model X.prog X.w) X.A (subscriptTail value slice v u) (EP X pins σ Q) X.xe s
/-- a call of a builtin's method by values: the receiver, the arguments -/
noncomputable def MtR (X : Cx) (id : String) (r : V → List V → Hp → VK → Prop) : Prop :=
  ∀ (pins : List (Addr × Obj)) (s : Shared) (σ : St) (H : Hp) (x : V) (xs : List V) (v : Value) (us : List Value) (Q : VK), Inv X pins σ H s → RelV x v → Vals xs us → r x xs H Q →
    wpAny (model X.prog X.w) X.A (call (.builtin id) (v :: us)) (EP X pins σ Q) X.xe s
section
variable {X : Cx} {a b : Expr} {ta tb : TE} {pos : Pos}
/-- a[b] -/
theorem pe_ix {r : R2} (hr : IxR X r) (ha : PE X a ta) (hb : PE X b tb) (hs : PlainIx b) : PE X (.Subscript a b pos) (tOp r ta tb) := by
  intro pins s σ H Q I h
  exact Subscript_ (binT ha hb I h fun v u s2 x y H2 I2 rx ry q => hr a b pins s2 σ H2 x y v u Q I2 rx ry q (hs _ _))
noncomputable def rIxL (K : PySem.W.Frag) : R2 := fun x y H Q => ∃ p xs i v, x = .ref p ∧ y = .int i ∧ SqL K H p xs ∧ atI xs i = some v ∧ Q v H
theorem ix_list : IxR X (rIxL X.K) := by
  intro value slice pins s σ H x y v u Q I rx ry h hs
  obtain ⟨p, xs, i, z, rfl, rfl, hq, he, q⟩ := h
  cases rx
  obtain ⟨t, rfl⟩ := ry
  obtain ⟨its, r, pl, hz⟩ := I.list hq
  obtain ⟨j, h1, h2, h3, h4, h5⟩ := atI_get he
  obtain ⟨w, ew, rw'⟩ := r.get h2
  have hl := r.length
  have hn := line63
  have fin : EP X pins σ Q w s := ⟨z, H, I, rw', q⟩
  by_cases h0 : 0 ≤ i
  · have hj : i.toNat = j := by
      rw [seqIndex_of h0 h5] at h1
      exact Option.some.inj h1
    exact item_listR pl.isList h0 (by omega) (by rw [hj]; simpa using ew) fin hs
  · have hj : (i + (its.toArray.size : Int)).toNat = j := by
      rw [seqIndex_neg (by omega) h4] at h1
      rw [List.size_toArray, ← hl]
      exact Option.some.inj h1
    exact subscriptTail_builtinR (x := w) pl.isList.typeIs slot_list_getitem.lookup
      (wpAny_getItem_list_neg (Q := fun r s' => r = w ∧ EP X pins σ Q r s') pl.isList (by omega) (by rw [List.size_toArray] <;> omega) (by omega) (by rw [hj]; simpa using ew) ⟨rfl, fin⟩) hs
/-! ### xs[i] = v, any sign -/
/-- the list's object behind a store -/
theorem mapSeq_set (its : List Value) (n j : Nat) (u : Value) : Obj.mapSeq (·.setIfInBounds j u) { cls := .type "list", data := .seq its.toArray n } = { cls := .type "list", data := .seq (its.set j u).toArray n } := by
  simp [Obj.mapSeq]
theorem Inv.lst {pins : List (Addr × Obj)} {σ : St} {H : Hp} {s : Shared} {p : Addr} {xs : List V} (I : Inv X pins σ H s) (h : H p = some (.lst xs)) :
    ∃ (its : List Value) (n : Nat), Vals xs its ∧ s.heap.get? p = some { cls := .type "list", data := .seq its.toArray n } ∧ xs.length ≤ sizeLine := by
  obtain ⟨z, its, n, r, e⟩ := I.hok p _ h
  exact ⟨its, n, r, e, z⟩
/-- the list at p is written by an update of its object -/
theorem Inv.lstUpd {pins : List (Addr × Obj)} {σ : St} {H : Hp} {s : Shared} {p : Addr} {xs ys : List V} {its its' : List Value} {n n' : Nat} {f : Obj → Obj} (I : Inv X pins σ H s) (h : H p = some (.lst xs))
    (ho : s.heap.get? p = some { cls := .type "list", data := .seq its.toArray n }) (hf : f { cls := .type "list", data := .seq its.toArray n } = { cls := .type "list", data := .seq its'.toArray n' }) (r : Vals ys its') (hz : ys.length ≤ sizeLine) (t : Nat) :
    Inv X pins σ (upd H p (.lst ys)) { s with heap := s.heap.update p f, toks := t } := by
  have e : (s.heap.update p f).get? p = some { cls := .type "list", data := .seq its'.toArray n' } := by
    rw [Heap.get?_update_self f ho (by rw [hf] <;> rfl), hf]
  refine I.write (x := p) (e := p) (by rw [h]; trivial) (.inl rfl) (fun b u hb q => (Heap.get?_update_other _ _ (Ne.symm hb)).trans q) ⟨_, e⟩ ?_
  exact ⟨hz, its', n', r, e⟩
noncomputable def rSetL : V → V → V → Hp → (Hp → Prop) → Prop := fun o i v H Q => ∃ p xs k j, o = .ref p ∧ i = .int k ∧ H p = some (.lst xs) ∧ ixN xs.length k = some j ∧ Q (upd H p (.lst (xs.set j v)))
theorem set_list : PSet X rSetL := by
  intro pins s σ H o i v ov iv u Q I ro ri rv h
  obtain ⟨p, xs, k, j, rfl, rfl, hp, hj, q⟩ := h
  cases ro
  obtain ⟨t, rfl⟩ := ri
  obtain ⟨its, n, r, ho, hz⟩ := I.lst hp
  obtain ⟨h1, h2, h3, h4⟩ := ixN_seq hj
  have hl := r.length
  have hn := line63
  have I' : Inv X pins σ (upd H p (.lst (xs.set j v))) { s with heap := s.heap.update p (Obj.mapSeq (·.setIfInBounds j u)) } :=
    I.lstUpd hp ho (mapSeq_set its n j u) (r.set rv j) (by rw [List.length_set]; exact hz) s.toks
  by_cases h0 : 0 ≤ k
  · have hk : k.toNat = j := by
      rw [seqIndex_of h0 h4] at h1
      exact Option.some.inj h1
    exact PySem.W.ki_setAt ho h0 (by omega) (by rw [List.size_toArray, ← hl]; exact h4) (by rw [hk]; exact ⟨_, I', q⟩)
  · have hk : (k + (its.toArray.size : Int)).toNat = j := by
      rw [seqIndex_neg (by omega) h3] at h1
      rw [List.size_toArray, ← hl]
      exact Option.some.inj h1
    exact PySem.W.ki_setBack ho (by omega) (by rw [List.size_toArray, ← hl]; exact h3) (by omega) (by rw [hk]; exact ⟨_, I', q⟩)
/-! ### slices -/
theorem slice_bounds (lo hi : Option Int) (n : Nat) : (sliceBounds lo hi none n).1 = ((HT.sIx n 0 lo : Nat) : Int) ∧ (sliceBounds lo hi none n).2.1 = ((HT.sIx n n hi : Nat) : Int) ∧ (sliceBounds lo hi none n).2.2 = 1 := by
  refine ⟨?_, ?_, rfl⟩
  · cases lo with
    | none => simp [sliceBounds, HT.sIx]
    | some i =>
      simp only [sliceBounds, HT.sIx, Option.getD_none, show (1 : Int) > 0 by decide, if_true]
      by_cases h : i < 0
      · simp only [h, if_true] <;> omega
      · simp only [h, if_false] <;> omega
  · cases hi with
    | none => simp [sliceBounds, HT.sIx]
    | some i =>
      simp only [sliceBounds, HT.sIx, Option.getD_none, show (1 : Int) > 0 by decide, if_true]
      by_cases h : i < 0
      · simp only [h, if_true] <;> omega
      · simp only [h, if_false] <;> omega
theorem slicePick_cut (its : List Value) (lo hi : Option Int) : slicePick its.toArray lo hi none = ((its.drop (HT.sIx its.length 0 lo)).take (HT.sIx its.length its.length hi - HT.sIx its.length 0 lo)).toArray := by
  obtain ⟨h1, h2, h3⟩ := slice_bounds lo hi its.toArray.size
  unfold slicePick
  rw [h1, h2, h3]
  simp only [sliceRange_one, pick_run, List.size_toArray] <;> rfl
/-- xs[lo:hi] of a list: a new list -/
noncomputable def rSlL (K : PySem.W.Frag) : V → Option Int → Option Int → Hp → VK → Prop := fun x lo hi H Q => ∃ a xs, x = .ref a ∧ SqL K H a xs ∧ ∀ p, H p = none → Q (.ref p) (upd H p (.lst (cutV xs lo hi)))
theorem sl_list : SlR X (rSlL X.K) := by
  intro pins s σ H x v vl vu lo hi sl Q I rx hs pl pu h
  obtain ⟨a, xs, rfl, hx, q⟩ := h
  cases rx
  obtain ⟨its, r, ht, hz⟩ := I.list hx
  have hlen := r.length
  refine ⟨"list", _, slot_list_getitem.lookup, ht.isList.typeIs, ?_⟩
  refine wpAny_getItem_list_slice ht.isList hs pl pu .none (by simp) ?_ (by rw [List.size_toArray] <;> omega)
  rw [slicePick_cut, ← hlen]
  refine ⟨.ref s.heap.objs.size, _, I.laid (t' := s.toks) (o := .lst (cutV xs lo hi)) (fun b ob q => Heap.get?_push_of_some _ q) (Nat.le_refl _) ?_, rfl, q _ (I.hok.fresh (Nat.le_refl _))⟩
  exact ⟨Nat.le_trans (cutV_length xs lo hi) hz, _, 0, (r.drop (HT.sIx xs.length 0 lo)).take (HT.sIx xs.length xs.length hi - HT.sIx xs.length 0 lo), Heap.get?_push_size _ rfl⟩
/-! ### in, not in: flat items -/
noncomputable def flatV : V → Bool
  | .non => true
  | .bl _ => true
  | .int _ => true
  | .str _ => true
  | _ => false
/-- == of flat values -/
noncomputable def eqV : V → V → Bool
  | .non, .non => true
  | .bl a, .bl b => a == b
  | .bl a, .int b => (if a then 1 else 0) == b
  | .int a, .bl b => a == (if b then 1 else 0)
  | .int a, .int b => a == b
  | .str a, .str b => a == b
  | _, _ => false
theorem eqAt_V {A : Around} {s : Shared} {y x : V} {u v : Value} (ry : RelV y u) (rx : RelV x v) (fy : flatV y = true) (fx : flatV x = true) : SeqAt.EqAt A s u v (eqV y x) := by
  cases y with
  | non =>
    cases ry
    cases x with
    | non => cases rx; exact SeqAt.EqAt.same _
    | bl b => cases rx; exact SeqAt.EqAt.none_bool b
    | int b => obtain ⟨t, rfl⟩ := rx; exact SeqAt.EqAt.none_int b t
    | str b => obtain ⟨t, rfl⟩ := rx; exact SeqAt.EqAt.none_str b t
    | _ => exact absurd (show false = true from fx) Bool.false_ne_true
  | bl a =>
    cases ry
    cases x with
    | non => cases rx; exact SeqAt.EqAt.bool_none a
    | bl b => cases rx; exact SeqAt.EqAt.bool_bool a b
    | int b => obtain ⟨t, rfl⟩ := rx; exact SeqAt.EqAt.bool_int a b t
    | str b => obtain ⟨t, rfl⟩ := rx; exact SeqAt.EqAt.bool_str a b t
    | _ => exact absurd (show false = true from fx) Bool.false_ne_true
  | int a =>
    obtain ⟨t', rfl⟩ := ry
    cases x with
    | non => cases rx; exact SeqAt.EqAt.int_none a t'
    | bl b => cases rx; exact SeqAt.EqAt.int_bool a t' b
    | int b => obtain ⟨t, rfl⟩ := rx; exact SeqAt.EqAt.int_int a t' b t
    | str b => obtain ⟨t, rfl⟩ := rx; exact SeqAt.EqAt.int_str a t' b t
    | _ => exact absurd (show false = true from fx) Bool.false_ne_true
  | str a =>
    obtain ⟨t', rfl⟩ := ry
    cases x with
    | non => cases rx; exact SeqAt.EqAt.str_none a t'
    | bl b => cases rx; exact SeqAt.EqAt.str_bool a t' b
    | int b => obtain ⟨t, rfl⟩ := rx; exact SeqAt.EqAt.str_int a t' b t
    | str b => obtain ⟨t, rfl⟩ := rx; exact SeqAt.EqAt.str_str a t' b t
    | _ => exact absurd (show false = true from fx) Bool.false_ne_true
  | _ => exact absurd (show false = true from fy) Bool.false_ne_true
/-- the items' answers, read off the values (a value's own answer does not lean on its token) -/
noncomputable def eqU (x : V) (u : Value) : Bool := match u with
  | .none => eqV .non x
  | .bool b => eqV (.bl b) x
  | .int i _ => eqV (.int i) x
  | .str z _ => eqV (.str z) x
  | _ => false
theorem eqU_of {x y : V} {u : Value} (r : RelV y u) (f : flatV y = true) : eqU x u = eqV y x := by
  cases y with
  | non => cases r; rfl
  | bl b => cases r; rfl
  | int i => obtain ⟨t, rfl⟩ := r; rfl
  | str z => obtain ⟨t, rfl⟩ := r; rfl
  | _ => exact absurd (show false = true from f) Bool.false_ne_true
theorem any_eqU {x : V} {xs : List V} {us : List Value} (h : Vals xs us) (f : xs.all flatV = true) : us.any (eqU x) = xs.any fun y => eqV y x := by
  induction h with
  | nil => rfl
  | cons r t ih =>
    rw [List.all_cons, Bool.and_eq_true] at f
    rw [List.any_cons, List.any_cons, eqU_of r f.1, ih f.2]
theorem mem_eqAt {A : Around} {s : Shared} {x : V} {v : Value} (rx : RelV x v) (fx : flatV x = true) : ∀ {xs : List V} {us : List Value}, Vals xs us → xs.all flatV = true → ∀ u ∈ us, SeqAt.EqAt A s u v (eqU x u)
  | _, _, .nil, _ => fun u hu => by cases hu
  | y :: xs, u :: us, .cons r t, f => fun u' hu => by
    rw [List.all_cons, Bool.and_eq_true] at f
    rcases List.mem_cons.mp hu with rfl | hu
    · rw [eqU_of r f.1]; exact eqAt_V r rx f.1 fx
    · exact mem_eqAt rx fx t f.2 u' hu
noncomputable def inV (x : V) (xs : List V) : Bool := xs.any fun y => eqV y x
/-- x in a list or tuple of flat items -/
noncomputable def rIn (K : PySem.W.Frag) (neg : Bool) : R2 := fun x y H Q => ∃ p xs, y = .ref p ∧ (SqL K H p xs ∨ SqT K H p xs) ∧ flatV x = true ∧ xs.all flatV = true ∧ Q (.bl (if neg then !inV x xs else inV x xs)) H
theorem op_in_seq : OpR X (compareOp .In) (rIn X.K false) := by
  intro pins s σ H x y v u Q I rx ry h
  obtain ⟨p, xs, rfl, hq, fx, fs, q⟩ := h
  cases ry
  rcases hq with hq | hq
  · obtain ⟨its, r, pl, hz⟩ := I.list hq
    refine SeqAt.in_listAt (eqU x) pl.isList (fun w hw => mem_eqAt rx fx r fs w (by simpa using hw)) ⟨.bl _, H, I, rfl, ?_⟩
    rw [show its.toArray.any (eqU x) = its.any (eqU x) by simp, any_eqU r fs]
    exact q
  · obtain ⟨its, r, pl, hz⟩ := I.tuple hq
    refine SeqAt.in_tupleAt (eqU x) pl (fun w hw => mem_eqAt rx fx r fs w (by simpa using hw)) ⟨.bl _, H, I, rfl, ?_⟩
    rw [show its.toArray.any (eqU x) = its.any (eqU x) by simp, any_eqU r fs]
    exact q
/-! ### len, list(x), tuple(x) of any list or tuple that is read -/
theorem call_len_seq : CallR X (.builtin "len") (fun xs H Q => ∃ p ys, xs = [.ref p] ∧ (SqL X.K H p ys ∨ SqT X.K H p ys) ∧ Q (.int ys.length) H) := by
  intro pins s σ H xs us Q I r h
  obtain ⟨p, ys, rfl, hq, q⟩ := h
  obtain ⟨u, rfl, rx⟩ := vals1 r
  cases rx
  have hn := line63
  rcases hq with hq | hq
  · obtain ⟨its, r', pl, hz⟩ := I.list hq
    have hlen := r'.length
    exact Calls.call_len_list pl.isList (by simp only [List.size_toArray] <;> omega) ⟨.int ys.length, H, I.tok _, ⟨s.toks + 1, by rw [List.size_toArray, hlen]⟩, q⟩
  · obtain ⟨its, r', pl, hz⟩ := I.tuple hq
    have hlen := r'.length
    exact len_tuple pl (by simp only [List.size_toArray] <;> omega) ⟨.int ys.length, H, I.tok _, ⟨s.toks + 1, by rw [List.size_toArray, hlen]⟩, q⟩
theorem call_list_of : CallR X (.type "list") (fun xs H Q => ∃ p ys, xs = [.ref p] ∧ (SqL X.K H p ys ∨ SqT X.K H p ys) ∧ ∀ l, H l = none → Q (.ref l) (upd H l (.lst ys))) := by
  intro pins s σ H xs us Q I r h
  obtain ⟨p, ys, rfl, hq, q⟩ := h
  obtain ⟨u, rfl, rx⟩ := vals1 r
  cases rx
  have fin : ∀ (its : List Value), Vals ys its → ys.length ≤ sizeLine → ∀ (h' : Heap) (c' : Nat), (∀ b o', s.heap.get? b = some o' → h'.get? b = some o') →
      h'.get? s.heap.objs.size = some { cls := .type "list", dict := none, data := .seq its.toArray c', slots := #[] } → EP X pins σ Q (.ref s.heap.objs.size) { s with heap := h' } := fun its r' hz h' c' kp e =>
    ⟨.ref s.heap.objs.size, _, I.laid (t' := s.toks) kp (Nat.le_refl _) (show ObjOk X.prog X.w _ h' _ (.lst ys) from ⟨hz, its, c', r', e⟩), rfl, q _ (I.hok.fresh (Nat.le_refl _))⟩
  rcases hq with hq | hq
  · obtain ⟨its, r', pl, hz⟩ := I.list hq
    have hlen := r'.length
    obtain ⟨o, ho, hc, n, hd⟩ := pl.isList
    exact call_list_seq p (.inl rfl) ho hc hd (fun h' c' kp e => fin its r' hz h' c' kp e) (by simp only [List.size_toArray] <;> omega)
  · obtain ⟨its, r', pl, hz⟩ := I.tuple hq
    have hlen := r'.length
    obtain ⟨o, ho, hc, n, hd⟩ := pl
    exact call_list_seq p (.inr rfl) ho hc hd (fun h' c' kp e => fin its r' hz h' c' kp e) (by simp only [List.size_toArray] <;> omega)
/-! ### the call of a builtin's method: o.m(..) -/
/-- the value is of that builtin type -/
noncomputable def tyV (K : PySem.W.Frag) (T : String) (x : V) (H : Hp) : Prop := match x with
  | .ref p => (T = "list" ∧ ∃ xs, SqL K H p xs) ∨ False
  | _ => False
theorem tyV_is {pins : List (Addr × Obj)} {σ : St} {H : Hp} {s : Shared} {T : String} {x : V} {v : Value} (I : Inv X pins σ H s) (r : RelV x v) (ty : tyV X.K T x H) :
    s.TypeIs v T ∧ ∀ a, v = .ref a → ∃ ob, s.heap.get? a = some ob ∧ ob.dict = none := by
  cases x with
  | ref p =>
    cases r
    rcases ty with ⟨rfl, xs, hq⟩ | ty
    · obtain ⟨its, _, pl, _⟩ := I.list hq
      refine ⟨pl.isList.typeIs, fun a e => ?_⟩
      cases e
      obtain ⟨o, n, e, c, hd, _⟩ := pl
      exact ⟨o, e, hd⟩
    · exact False.elim ty
  | _ => exact False.elim ty
noncomputable def tBM (K : PySem.W.Frag) (T : String) (r : V → List V → Hp → VK → Prop) (to : TE) (t : TA) : TE := fun σ H Q => to σ H fun x H1 => tyV K T x H1 ∧ t σ H1 fun xs H2 => r x xs H2 Q
variable {o e : Expr} {es : List Expr} {to : TE} {t : TA} {name : Str} {apos cpos : Pos} {T id : String} {r : V → List V → Hp → VK → Prop}
theorem pe_bm (pa : PlainAttrs T) (slot : Slot T name id) (hty : typeOf (.builtin id) = pure (.type "method_descriptor")) (hm : MtR X id r) (ho : PE X o to) (ha : PA X (e :: es) t)
    (hbase : attributeBase o name X.env (eval o X.env) = eval o X.env := by rfl)
    (hfew : ((backTo cpos (starEach (e :: es) X.env)).all (fun x => !x.1) && (backToKw cpos (keywordEach [] X.env)).all (fun x => x.1.isSome)
      && decide ((e :: es).length + ([] : List Keyword).length + (if ([] : List Keyword).isEmpty then 0 else 1) < 30)) = true := by rfl)
    (hline : (apos.endLine == cpos.line) = true := by rfl) (hs : starEach (e :: es) X.env = (false, eval e X.env) :: starEach es X.env := by rfl) (hplain : (backTo cpos (starEach es X.env)).any (·.1) = false := by rfl) :
    PE X (.Call (.Attribute o name apos) (e :: es) [] cpos) (tBM X.K T r to t) := by
  intro pins s σ H Q I h
  refine wpAny_Call_method_late hbase hfew hline rfl (thn (ho pins s σ H _ I h) fun v s1 hh_ => ?_)
  obtain ⟨x, H1, I1, r1, ty, q1⟩ := hh_
  obtain ⟨h1, h2⟩ := tyV_is I1 r1 ty
  refine ⟨T, id, pa, slot, hty, h1, h2, ?_⟩
  have hA := ha cpos pins s1 σ H1 _ I1 q1
  rw [hs] at hA ⊢
  refine Calls.callWith_builtin (by show (false || (backTo cpos (starEach es X.env)).any (·.1)) = false; rw [hplain] <;> rfl) (Calls.evalArgs_plain ?_)
  exact thn hA fun us s2 ⟨vs, H2, I2, r2, q2⟩ => hm pins s2 σ H2 x vs v us Q I2 r1 r2 q2
/- xs.append(e), list.index on a module's tuple .. are MtR facts of 06m -/
end
end L2
namespace L2
open PySem PySem.Spec PyProof.Rows
noncomputable def MtM (X : Cx) (id : String) (r : V → List V → Hp → VK → Prop) : Prop :=
  ∀ (pins : List (Addr × Obj)) (s : Shared) (σ : St) (H : Hp) (x : V) (xs : List V) (v : Value) (us : List Value) (Q : VK), Inv X pins σ H s → RelV x v → Vals xs us → r x xs H Q →
    wpAny (model X.prog X.w) X.A (call (.builtin id) (v :: us)) (EP X pins σ Q) X.xe s
/-! ### lists of values -/
theorem Vals.one {x : V} {us : List Value} (h : Vals [x] us) : ∃ u, us = [u] ∧ RelV x u := by
  cases h with
  | cons r t =>
    cases t
    exact ⟨_, rfl, r⟩
section
variable {X : Cx} {pins : List (Addr × Obj)} {σ : St} {H : Hp} {s : Shared} {l b : Addr} {xs ys zs : List V}
/-! ### the two steps: a tracked list is rewritten, a new list is laid -/
theorem Inv.lset {its its' : List Value} {n : Nat} {f : Array Value → Array Value} {t' : Nat} (I : Inv X pins σ H s) (hH : H l = some (.lst xs))
    (e : s.heap.get? l = some { cls := .type "list", data := .seq its.toArray n }) (hf : f its.toArray = its'.toArray) (hv : Vals ys its') (hz : ys.length ≤ sizeLine) :
    Inv X pins σ (upd H l (.lst ys)) { s with heap := s.heap.update l (Obj.mapSeq f), toks := t' } := by
  have q := PySem.IsL.update e f
  rw [hf] at q
  refine I.write (x := l) (e := l) (by rw [hH]; exact trivial) (.inl rfl) (fun b' u hb hu => (Heap.get?_update_other s.heap (Obj.mapSeq f) (Ne.symm hb)).trans hu) ⟨_, q⟩ ?_
  exact ⟨hz, its', _, hv, q⟩
theorem Inv.lnew {its : List Value} {t' : Nat} (I : Inv X pins σ H s) (hv : Vals ys its) (hz : ys.length ≤ sizeLine) :
    Inv X pins σ (upd H s.heap.objs.size (.lst ys)) { s with heap := s.heap.push { cls := .type "list", data := .seq its.toArray }, toks := t' } :=
  I.laid (fun _ _ q => Heap.get?_push_of_some _ q) (Nat.le_refl _) ⟨hz, its, 0, hv, Heap.get?_push_size _ rfl⟩
theorem Inv.fresh (I : Inv X pins σ H s) : H s.heap.objs.size = none := I.hok.fresh (Nat.le_refl _)
theorem Inv.lstM (I : Inv X pins σ H s) (hH : H l = some (.lst xs)) : xs.length ≤ sizeLine ∧ ∃ (its : List Value) (n : Nat), Vals xs its ∧ xs.length = its.length ∧ s.heap.get? l = some { cls := .type "list", data := .seq its.toArray n } := by
  obtain ⟨z, its, n, r, e⟩ := I.hok l _ hH
  exact ⟨z, its, n, r, r.length, e⟩
theorem notLongL {n : Nat} (h : n ≤ sizeLine) : Builtin.List.listTooLong n = false := by
  unfold Builtin.List.listTooLong
  exact decide_eq_false (by omega)
end
section
variable {X : Cx}
/-! ### methods -/
noncomputable def rAppend : V → List V → Hp → VK → Prop := fun x vs H Q => ∃ l xs y, x = .ref l ∧ vs = [y] ∧ H l = some (.lst xs) ∧ xs.length < sizeLine ∧ Q .non (upd H l (.lst (xs ++ [y])))
theorem mt_append : MtM X "list.append" rAppend := by
  intro pins s σ H x vs v us Q I rx rv h
  obtain ⟨l, xs, y, rfl, rfl, hH, hz, q⟩ := h
  cases rx
  obtain ⟨u, rfl, ru⟩ := rv.one
  obtain ⟨z, its, n, r, hl, e⟩ := I.lstM hH
  refine call_meets F.slot_list_append ⟨_, e, rfl⟩ F.entry_list_append (F.args_list_append_2 _ _) (PySem.list_append l its.toArray n u (by rw [List.size_toArray]; omega)) ⟨e, ?_⟩
  refine ⟨.non, _, I.lset (its' := its ++ [u]) hH e (by simp) (r.append (.cons ru .nil)) ?_, rfl, q⟩
  rw [List.length_append, List.length_singleton]
  omega
noncomputable def rExtend : V → List V → Hp → VK → Prop := fun x vs H Q => ∃ l b xs zs, x = .ref l ∧ vs = [.ref b] ∧ H l = some (.lst xs) ∧ H b = some (.lst zs) ∧ xs.length + zs.length ≤ sizeLine ∧ Q .non (upd H l (.lst (xs ++ zs)))
theorem mt_extend : MtM X "list.extend" rExtend := by
  intro pins s σ H x vs v us Q I rx rv h
  obtain ⟨l, b, xs, zs, rfl, rfl, hH, hB, hz, q⟩ := h
  cases rx
  obtain ⟨u, rfl, ru⟩ := rv.one
  cases ru
  obtain ⟨z, its, n, r, hl, e⟩ := I.lstM hH
  obtain ⟨z2, its2, n2, r2, hl2, e2⟩ := I.lstM hB
  have hsz : its.toArray.size + its2.toArray.size ≤ sizeLine := by rw [List.size_toArray, List.size_toArray]; omega
  have hlong : ¬ (!its.toArray.isEmpty && Builtin.List.listTooLong (its.toArray.size + its2.toArray.size)) = true := by
    rw [notLongL hsz, Bool.and_false]
    exact Bool.false_ne_true
  refine call_meets F.slot_list_extend ⟨_, e, rfl⟩ F.entry_list_extend (F.args_list_extend_2 _ _)
    (AutoSeq1.list_extend_list_list_0 l its.toArray n b its2.toArray n2 hlong (by rw [List.size_toArray]; omega) (by omega)) ⟨e, e2, ?_⟩
  refine ⟨.non, _, I.lset (its' := its ++ its2) hH e (by simp) (r.append r2) ?_, rfl, q⟩
  rw [List.length_append]
  omega
/-! ### list + list, list += list, list * int -/
noncomputable def rCat : R2 := fun x y H Q => ∃ l b xs zs, x = .ref l ∧ y = .ref b ∧ H l = some (.lst xs) ∧ H b = some (.lst zs) ∧ xs.length + zs.length ≤ sizeLine ∧ ∀ p, H p = none → Q (.ref p) (upd H p (.lst (xs ++ zs)))
theorem op_cat : OpR X (binaryOp .Add) rCat := by
  intro pins s σ H x y v u Q I rx ry h
  obtain ⟨l, b, xs, zs, rfl, rfl, hH, hB, hz, q⟩ := h
  cases rx
  cases ry
  obtain ⟨z, its, n, r, hl, e⟩ := I.lstM hH
  obtain ⟨z2, its2, n2, r2, hl2, e2⟩ := I.lstM hB
  refine PySem.P.add_list e e2 ?_ (by rw [List.size_toArray, List.size_toArray]; omega)
  have ea : its.toArray ++ its2.toArray = (its ++ its2).toArray := by simp
  rw [ea]
  exact ⟨.ref _, _, I.lnew (t' := s.toks) (r.append r2) (by rw [List.length_append]; omega), rfl, q _ I.fresh⟩
/-! ### del xs[i] -/
end
/-! ### xs[a:b] = ys -/
section
variable {prog : Program} {w : World} {A : Around} {E : Value → Shared → Prop} {s : Shared}
set_option maxRecDepth 100000 in
end
section
variable {X : Cx}
end
end L2
namespace L2
open PySem PySem.Spec PyProof.Rows
theorem Vals.bls : ∀ {bs : List Bool} {us : List Value}, Vals (bs.map V.bl) us → us = bs.map Value.bool
  | [], us, h => by
    rw [List.map_nil] at h
    cases h
    rfl
  | b :: bs, us, h => by
    rw [List.map_cons] at h
    cases h with
    | cons r t =>
      cases r
      rw [Vals.bls t, List.map_cons]
theorem Vals.ref1 {a : Addr} {us : List Value} (r : Vals [V.ref a] us) : us = [Value.ref a] := by
  cases r with
  | cons r t =>
    cases t
    cases r
    rfl
/-! ### the library's walks over a list of ints, kept objects alone -/
section
variable {prog : Program} {w : World} {A : Around} {E : Value → Shared → Prop} {s : Shared} {l : Addr} {its : List Value} {ns : List Int} {Q : Value → Shared → Prop}
end
/-! ### the calls, by values (CallR of 03t; MtR of 06l) -/
section
variable {X : Cx}
/-! sorted, sort (fewer than 64 items: the library's own bound) -/
end
/-! ### list.index, flat items -/
section
variable {X : Cx}
end
/-! ### type(x) of an own instance; is, is not of a module's class -/
section
variable {X : Cx}
end
/-! ### any(xs), all(xs) of a list of bools -/
theorem iter_any {prog : Program} {w : World} {A : Around} {E : Value → Shared → Prop} {s : Shared} {l : Addr} {items : Array Value} {Q : Value → Shared → Prop} (hl : s.heap.IsList l items)
    (h : ∀ s₂ : Shared, s₂ = { s with heap := s.heap.push { cls := .type "list_iterator", data := .fields #[.ref l, .int 0 0] } } →
      (s₂.heap.IsListIter s.heap.objs.size l 0 ∧ s₂.heap.IsList l items) → l ≠ s.heap.objs.size → Q (.ref s.heap.objs.size) s₂) : wpAny (model prog w) A (pyIter (.ref l)) Q E s := by
  have hlt : l < s.heap.objs.size := by obtain ⟨_, e, _⟩ := hl; exact Heap.lt_size e
  exact wpAny_pyIter_list hl (h _ rfl ⟨⟨_, Heap.get?_push_size _ rfl, rfl, rfl⟩, hl.push _⟩ (Nat.ne_of_lt hlt))
theorem truth_bools {prog : Program} {w : World} {A : Around} {bs : List Bool} {its : List Value} (e : its = bs.map Value.bool) :
    TruthOf prog w A (fun i v => its.toArray[i]? = some v) (fun i => bs.getD i false) := fun i v s Q E hv hq => by
  have hv' : its[i]? = some v := by simpa using hv
  rw [e, List.getElem?_map] at hv'
  obtain ⟨b, hb, rfl⟩ := Option.map_eq_some_iff.mp hv'
  have hg : bs.getD i false = b := by rw [List.getD_eq_getElem?_getD, hb] <;> rfl
  have hq' : Q (bs.getD i false) s := hq
  rw [hg] at hq'
  exact wpAny_truthy_bool hq'
theorem all_range : ∀ bs : List Bool, (List.range bs.length).all (fun i => bs.getD i false) = bs.all id
  | [] => rfl
  | b :: bs => by
    rw [List.length_cons, List.range_succ_eq_map, List.all_cons, List.all_map, List.all_cons, ← all_range bs]
    all_goals rfl
section
variable {X : Cx}
noncomputable def rAll (K : PySem.W.Frag) : List V → Hp → VK → Prop := fun vs H Q => ∃ (a : Addr) (bs : List Bool), vs = [V.ref a] ∧ SqL K H a (bs.map V.bl) ∧ Q (.bl (bs.all id)) H
theorem cr_all (hc : X.calm = true) : CallR X (.builtin "all") (rAll X.K) := by
  intro pins s σ H vs us Q I r h
  obtain ⟨a, bs, rfl, hs, q⟩ := h
  obtain ⟨its, rv, hl, _⟩ := I.list hs
  rw [Vals.ref1 r]
  have hb := rv.bls
  refine call_all_walk (iter_any hl.isList fun s₂ e2 st hne => ?_)
  subst e2
  refine ⟨_, _, _, _, _, _, _, rfl, Walks.list (A := X.A.in1) (I.ok.hd hc) _ a hne its.toArray, st, truth_bools hb, fun h' tk hk => ?_⟩
  refine ⟨.bl _, H, I.kept fun b o eo => hk b o (fun hmem => ?_) (Heap.get?_push_of_some _ eo), ?_, q⟩
  · rcases List.mem_cons.mp hmem with e1 | hmem
    · exact absurd (e1 ▸ Heap.lt_size eo) (Nat.lt_irrefl _)
    · cases hmem
  · show Value.bool _ = Value.bool _
    rw [← all_range, hb, List.size_toArray, List.length_map]
end
/-! ### == and != of data at any depth: none, bools, ints, texts, lists, tuples -/
mutual
inductive Dp (K : PySem.W.Frag) (H : Hp) : V → PyData → Prop
  | non : Dp K H .non .none
  | bl (b : Bool) : Dp K H (.bl b) (.bool b)
  | int (i : Int) : Dp K H (.int i) (.int i)
  | str (x : Str) : Dp K H (.str x) (.str x)
  | lst {a : Addr} {xs : List V} {ds : List PyData} : SqL K H a xs → DpAll K H xs ds → Dp K H (.ref a) (.list ds)
  | tup {a : Addr} {xs : List V} {ds : List PyData} : SqT K H a xs → DpAll K H xs ds → Dp K H (.ref a) (.tuple ds)
inductive DpAll (K : PySem.W.Frag) (H : Hp) : List V → List PyData → Prop
  | nil : DpAll K H [] []
  | cons {v : V} {vs : List V} {d : PyData} {ds : List PyData} : Dp K H v d → DpAll K H vs ds → DpAll K H (v :: vs) (d :: ds)
end
section
variable {X : Cx} {pins : List (Addr × Obj)} {σ : St} {H : Hp} {s : Shared}
mutual
theorem Dp.reads (I : Inv X pins σ H s) : ∀ (d : PyData) (v : V) (u : Value), Dp X.K H v d → RelV v u → ∃ as, Reads s.heap u d as
  | .none, _, _, h, r => by
    cases h
    cases r
    exact ⟨_, Reads.none⟩
  | .bool b, _, _, h, r => by
    cases h
    cases r
    exact ⟨_, Reads.bool b⟩
  | .int i, _, _, h, r => by
    cases h
    obtain ⟨t, rfl⟩ := r
    exact ⟨_, Reads.int i t⟩
  | .str x, _, _, h, r => by
    cases h
    obtain ⟨t, rfl⟩ := r
    exact ⟨_, Reads.str x t⟩
  | .list ds, _, _, h, r => by
    cases h with
    | lst hs ha =>
      cases r
      obtain ⟨its, rv, ⟨o, n, ho, hc, _, hd⟩, _⟩ := I.list hs
      obtain ⟨as, hr⟩ := Dp.readsAll I ds _ its ha rv
      exact ⟨_, Reads.list ho hc hd hr⟩
  | .tuple ds, _, _, h, r => by
    cases h with
    | tup hs ha =>
      cases r
      obtain ⟨its, rv, ⟨o, ho, hc, n, hd⟩, _⟩ := I.tuple hs
      obtain ⟨as, hr⟩ := Dp.readsAll I ds _ its ha rv
      exact ⟨_, Reads.tuple ho hc hd hr⟩
  | .dict _, _, _, h, _ => by cases h
theorem Dp.readsAll (I : Inv X pins σ H s) : ∀ (ds : List PyData) (vs : List V) (us : List Value), DpAll X.K H vs ds → Vals vs us → ∃ as, ReadsAll s.heap us ds as
  | [], _, _, h, r => by
    cases h
    cases r
    exact ⟨_, ReadsAll.nil⟩
  | d :: ds, _, _, h, r => by
    cases h with
    | cons h1 h2 =>
      cases r with
      | cons r1 r2 =>
        obtain ⟨as, q1⟩ := Dp.reads I d _ _ h1 r1
        obtain ⟨bs, q2⟩ := Dp.readsAll I ds _ _ h2 r2
        exact ⟨_, ReadsAll.cons q1 q2⟩
end
end
section
variable {X : Cx}
noncomputable def rEqD (K : PySem.W.Frag) : R2 := fun x y H Q => ∃ d e, Dp K H x d ∧ Dp K H y e ∧ SeqAt.shaped d = true ∧ SeqAt.shaped e = true ∧ Q (.bl (PyData.eqv d e)) H
noncomputable def rNeD (K : PySem.W.Frag) : R2 := fun x y H Q => ∃ d e, Dp K H x d ∧ Dp K H y e ∧ SeqAt.shaped d = true ∧ SeqAt.shaped e = true ∧ Q (.bl (!PyData.eqv d e)) H
theorem op_eqD (hu : X.A.units + 64 < cLine) : OpR X (compareOp .Eq) (rEqD X.K) := by
  intro pins s σ H x y v u Q I rx ry h
  obtain ⟨d, e, hd, he, sd, se, q⟩ := h
  obtain ⟨as, r1⟩ := Dp.reads I d x v hd rx
  obtain ⟨bs, r2⟩ := Dp.reads I e y u he ry
  exact SeqAt.compareEq_shaped r1 r2 sd se hu ⟨.bl _, H, I, rfl, q⟩
theorem op_neD (hu : X.A.units + 64 < cLine) : OpR X (compareOp .NotEq) (rNeD X.K) := by
  intro pins s σ H x y v u Q I rx ry h
  obtain ⟨d, e, hd, he, sd, se, q⟩ := h
  obtain ⟨as, r1⟩ := Dp.reads I d x v hd rx
  obtain ⟨bs, r2⟩ := Dp.reads I e y u he ry
  exact SeqAt.compareNe_shaped r1 r2 sd se hu ⟨.bl _, H, I, rfl, q⟩
end
end L2
namespace L2
open PySem PySem.Spec PyProof.Rows
noncomputable abbrev CellAt (h : Heap) (c : Addr) (v : Option Value) : Prop := h.IsCell c v
noncomputable def relS (scope sc : Scope) : Scope :=
  { scope with names := scope.names.map fun (n, k) => if (k == .free && sc.kind == .function && sc.names.lookup n == some .cell) then (n, .cell) else (n, k) }
noncomputable def cloFrom (cells : List (Str × Addr)) : List (Str × NameKind) → List (Str × Addr) → List (Str × Addr)
  | [], acc => acc
  | (n, k) :: r, acc => if k == .free then cloFrom cells r ((n, (cells.lookup n).getD 0) :: acc) else cloFrom cells r acc
theorem closure_loop (env : Env) (f : Str × NameKind → List (Str × Addr) → Sem (ForInStep (List (Str × Addr))))
    (hf : ∀ n k c, f (n, k) c = if k == .free then (do let a ← cellOf env n; pure (.yield ((n, a) :: c))) else pure (.yield c)) :
    ∀ (names : List (Str × NameKind)) (acc : List (Str × Addr)), (∀ y ∈ names, y.2 = .free → ∃ c, env.cells.lookup y.1 = some c) → forIn names acc f = pure (cloFrom env.cells names acc)
  | [], acc, _ => by rw [List.forIn_nil]; rfl
  | (n, k) :: r, acc, h => by
    rw [List.forIn_cons, hf]
    have ih := fun acc => closure_loop env f hf r acc fun y hy => h y (List.mem_cons_of_mem _ hy)
    unfold cloFrom
    by_cases hk : (k == NameKind.free) = true
    · rw [if_pos hk, if_pos hk]
      obtain ⟨c, hc⟩ := h (n, k) List.mem_cons_self (by simpa using hk)
      have e : cellOf env n = pure c := by unfold cellOf; rw [hc]
      rw [e]
      have e2 : (env.cells.lookup n).getD 0 = c := by rw [hc]; rfl
      rw [e2]
      exact ih _
    · rw [if_neg hk, if_neg hk]
      exact ih _
theorem closure_ok {scope : Scope} {env : Env} (h : ∀ y ∈ scope.names, y.2 = .free → ∃ c, env.cells.lookup y.1 = some c) : closureFor scope env = pure (cloFrom env.cells scope.names []) := by
  simp only [closureFor]
  rw [closure_loop env _ (fun n k c => rfl) scope.names [] h]
  rfl
theorem mem_lookup {α : Type} : ∀ {l : List (Str × α)} {n : Str} {c : α}, (n, c) ∈ l → ∃ c', l.lookup n = some c'
  | (k, v) :: r, n, c, h => by
    rw [List.lookup_cons]
    cases hb : n == k with
    | true => exact ⟨_, rfl⟩
    | false =>
      rcases List.mem_cons.mp h with e | h
      · cases e; simp at hb
      · exact mem_lookup h
theorem cloFrom_mem {cells : List (Str × Addr)} : ∀ {names : List (Str × NameKind)} {acc : List (Str × Addr)} {n : Str} {c : Addr}, (n, c) ∈ cloFrom cells names acc → (n, c) ∈ acc ∨ ((n, .free) ∈ names ∧ c = (cells.lookup n).getD 0)
  | [], _, _, _, h => .inl h
  | (m, k) :: r, acc, n, c, h => by
    unfold cloFrom at h
    split at h
    · rename_i hk
      have hk : k = .free := by simpa using hk
      rcases cloFrom_mem h with h | ⟨h1, h2⟩
      · rcases List.mem_cons.mp h with e | h
        · cases e; exact .inr ⟨hk ▸ List.mem_cons_self, rfl⟩
        · exact .inl h
      · exact .inr ⟨List.mem_cons_of_mem _ h1, h2⟩
    · rcases cloFrom_mem h with h | ⟨h1, h2⟩
      · exact .inl h
      · exact .inr ⟨List.mem_cons_of_mem _ h1, h2⟩
theorem cloFrom_acc {cells : List (Str × Addr)} : ∀ {names : List (Str × NameKind)} {acc : List (Str × Addr)} {p : Str × Addr}, p ∈ acc → p ∈ cloFrom cells names acc
  | [], _, _, h => h
  | (m, k) :: r, acc, p, h => by
    unfold cloFrom
    split
    · exact cloFrom_acc (List.mem_cons_of_mem _ h)
    · exact cloFrom_acc h
theorem cloFrom_has {cells : List (Str × Addr)} : ∀ {names : List (Str × NameKind)} {acc : List (Str × Addr)} {n : Str}, (n, .free) ∈ names → (n, (cells.lookup n).getD 0) ∈ cloFrom cells names acc
  | (m, k) :: r, acc, n, h => by
    unfold cloFrom
    rcases List.mem_cons.mp h with e | h
    · cases e
      exact cloFrom_acc List.mem_cons_self
    · split
      · exact cloFrom_has h
      · exact cloFrom_has h
theorem cells_mem : ∀ {names : List (Str × NameKind)} {h : Heap} {acc : List (Str × Addr)} {x : Str} {c : Addr}, (x, c) ∈ cellsFrom h.objs.size names acc →
    (x, c) ∈ acc ∨ ((x, .cell) ∈ names ∧ h.objs.size ≤ c ∧ CellAt (pushCells h names) c none)
  | [], _, _, _, _, h => .inl h
  | (n, k) :: r, h, acc, x, c, hm => by
    unfold cellsFrom at hm
    unfold pushCells
    split at hm
    · rename_i hk
      rw [if_pos hk]
      have hk : k = .cell := by simpa using hk
      rw [← Heap.size_push h { cls := .type "cell", data := .cell none }] at hm
      rcases cells_mem hm with hm | ⟨h1, h2, h3⟩
      · rcases List.mem_cons.mp hm with e | hm
        · cases e
          exact .inr ⟨hk ▸ List.mem_cons_self, Nat.le_refl _, _, pushCells_keeps r _ _ _ (Heap.get?_push_size _ rfl), rfl⟩
        · exact .inl hm
      · rw [Heap.size_push] at h2
        exact .inr ⟨List.mem_cons_of_mem _ h1, Nat.le_of_succ_le h2, h3⟩
    · rename_i hk
      rw [if_neg hk]
      rcases cells_mem hm with hm | ⟨h1, h2, h3⟩
      · exact .inl hm
      · exact .inr ⟨List.mem_cons_of_mem _ h1, h2, h3⟩
theorem cells_acc : ∀ {names : List (Str × NameKind)} {n : Nat} {acc : List (Str × Addr)} {p : Str × Addr}, p ∈ acc → p ∈ cellsFrom n names acc
  | [], _, _, _, h => h
  | (m, k) :: r, n, acc, p, h => by
    unfold cellsFrom
    split
    · exact cells_acc (List.mem_cons_of_mem _ h)
    · exact cells_acc h
theorem cells_has : ∀ {names : List (Str × NameKind)} {n : Nat} {acc : List (Str × Addr)} {x : Str}, (x, .cell) ∈ names → ∃ c, (x, c) ∈ cellsFrom n names acc
  | (m, k) :: r, n, acc, x, h => by
    unfold cellsFrom
    rcases List.mem_cons.mp h with e | h
    · cases e
      exact ⟨n, cells_acc List.mem_cons_self⟩
    · split
      · exact cells_has h
      · exact cells_has h
theorem cells_inj : ∀ {names : List (Str × NameKind)} {h : Heap} {acc : List (Str × Addr)} {x y : Str} {c : Addr}, (∀ p ∈ acc, p.2 < h.objs.size) → (∀ x y c, (x, c) ∈ acc → (y, c) ∈ acc → x = y) →
    (x, c) ∈ cellsFrom h.objs.size names acc → (y, c) ∈ cellsFrom h.objs.size names acc → x = y
  | [], _, _, _, _, _, _, hi, h1, h2 => hi _ _ _ h1 h2
  | (n, k) :: r, h, acc, x, y, c, hl, hi, h1, h2 => by
    unfold cellsFrom at h1 h2
    split at h1
    · rename_i hk
      rw [if_pos hk] at h2
      rw [← Heap.size_push h { cls := .type "cell", data := .cell none }] at h1 h2
      refine cells_inj (h := h.push _) (fun p hp => ?_) (fun x y c a b => ?_) h1 h2
      · rw [Heap.size_push]
        rcases List.mem_cons.mp hp with rfl | hp
        · exact Nat.lt_succ_self _
        · exact Nat.lt_succ_of_lt (hl p hp)
      · rcases List.mem_cons.mp a with e | a <;> rcases List.mem_cons.mp b with e' | b
        · cases e; cases e'; rfl
        · cases e; exact absurd (hl _ b) (Nat.lt_irrefl _)
        · cases e'; exact absurd (hl _ a) (Nat.lt_irrefl _)
        · exact hi _ _ _ a b
    · rename_i hk
      rw [if_neg hk] at h2
      exact cells_inj hl hi h1 h2
theorem newEnv_comp {M : Model} {A : Around} {E : Value → Shared → Prop} {s : Shared} {scope : Scope} {globals : Addr} {closure : List (Str × Addr)} {qual : Str} {func : Option Addr} {code : Value} {around : Env} {builtins : Addr} {Q : Env → Shared → Prop}
    (h : Q (newEnv scope s.heap.objs.size globals (cellsFrom (s.heap.objs.size + 1) scope.names closure) qual func code (some around) builtins)
      { s with heap := pushCells (s.heap.push { cls := .type "dict", data := .dict #[] }) scope.names }) :
    wpAny M A (newFunctionEnv scope globals closure [] qual func code (some around) builtins) Q E s := by
  simp only [newFunctionEnv, Option.isSome_some, if_true]
  refine wpAny_bind (wpAny_alloc ?_)
  refine wpAny_bind (wpAny_layCells _ (fun n k c => rfl) scope.names closure _ _ ?_)
  rw [show ({ s with heap := s.heap.push { cls := .type "dict", data := .dict #[] } } : Shared).heap.objs.size = s.heap.objs.size + 1 from Heap.size_push ..]
  rw [List.forIn_nil]
  exact wpAny_bind (wpAny_pure (wpAny_pure h))
/-- every name of the written scope, in the scope that runs -/
theorem lookup_relS {sc : Scope} : ∀ {names : List (Str × NameKind)} {x : Str} {k : NameKind},
    (names.map fun (n, k) => if (k == NameKind.free && sc.kind == .function && sc.names.lookup n == some .cell) then (n, NameKind.cell) else (n, k)).lookup x = some k →
    ∃ k', names.lookup x = some k' ∧ (k = k' ∨ (k' = .free ∧ k = .cell))
  | [], _, _, h => by simp at h
  | (n, k₀) :: r, x, k, h => by
    have ih := @lookup_relS sc r x k
    have h' : List.lookup x ((if (k₀ == NameKind.free && sc.kind == .function && sc.names.lookup n == some .cell) = true then (n, NameKind.cell) else (n, k₀)) :: (r.map _)) = some k := h
    cases hx : x == n with
    | true =>
      simp only [List.lookup_cons, hx]
      by_cases hc : (k₀ == NameKind.free && sc.kind == .function && sc.names.lookup n == some .cell) = true
      · rw [if_pos hc] at h'
        simp only [List.lookup_cons, hx] at h'
        cases h'
        simp only [Bool.and_eq_true, beq_iff_eq] at hc
        exact ⟨k₀, rfl, .inr ⟨hc.1.1, rfl⟩⟩
      · rw [if_neg hc] at h'
        simp only [List.lookup_cons, hx] at h'
        cases h'
        exact ⟨_, rfl, .inl rfl⟩
    | false =>
      simp only [List.lookup_cons, hx]
      by_cases hc : (k₀ == NameKind.free && sc.kind == .function && sc.names.lookup n == some .cell) = true
      · rw [if_pos hc] at h'
        simp only [List.lookup_cons, hx] at h'
        exact ih h'
      · rw [if_neg hc] at h'
        simp only [List.lookup_cons, hx] at h'
        exact ih h'
/-- the names of a comprehension's block: its own (with their places in N), or captured -/
structure BlkOk (N : List Str) (sc scope : Scope) (own : List (Str × Nat)) : Prop where
  kind : scope.kind = .function
  uniq : ∀ y ∈ scope.names, scope.names.lookup y.1 = some y.2
  ix : ∀ p ∈ own, N[p.2]? = some p.1
  free : ∀ y ∈ scope.names, y.2 = .free → sc.names.lookup y.1 = some .cell ∨ sc.names.lookup y.1 = some .free
  own : ∀ y ∈ scope.names, y.2 = .local ∨ y.2 = .cell → y.1 ∈ own.map (·.1) ∨ y.1 ∉ N
/-- the slots of the block's own names forgotten -/
noncomputable def wipe (σ : St) : List Nat → St
  | [] => σ
  | v :: vs => (wipe σ vs).set v none
theorem wipe_length (σ : St) : ∀ vs : List Nat, (wipe σ vs).length = σ.length
  | [] => rfl
  | v :: vs => by unfold wipe; rw [List.length_set, wipe_length σ vs]
theorem wipe_some {σ : St} {i : Nat} {x : V} : ∀ {vs : List Nat}, (wipe σ vs)[i]? = some (some x) → σ[i]? = some (some x) ∧ i ∉ vs
  | [], h => ⟨h, by simp⟩
  | v :: vs, h => by
    unfold wipe at h
    by_cases hi : v = i
    · subst hi
      by_cases hv : v < (wipe σ vs).length
      · rw [List.getElem?_set_self hv] at h; cases h
      · rw [List.getElem?_eq_none (by simpa using hv)] at h; cases h
    · rw [List.getElem?_set_ne hi] at h
      obtain ⟨h1, h2⟩ := wipe_some h
      exact ⟨h1, by simp only [List.mem_cons, not_or]; exact ⟨fun e => hi e.symm, h2⟩⟩
/-- the context of a block that starts at s, its iterator's objects at fp -/
noncomputable abbrev Cx.blk (X : Cx) (s : Shared) (H : Hp) (scope : Scope) (cenv : Env) (fp : List Addr) : Cx := { X with s_0 := s, H_0 := H, env := cenv, outer := X.stack, ex := fp, fn := fun x => scope.names.lookup x == some .cell, pn := [], xe := fun _ _ => False }
section
variable {X : Cx} {pins : List (Addr × Obj)} {σ : St} {H : Hp} {s : Shared}
theorem block_start {scope : Scope} {own : List (Str × Nat)} {fp : List Addr} (I : Inv X pins σ H s) (ok : BlkOk X.N X.env.scope scope own) (hN : X.N.Nodup) (hfp : ∀ b ∈ fp, FpOk X pins H b ∧ b < s.heap.objs.size) :
    Inv (X.blk s H scope (compEnvC scope (cellsFrom (s.heap.objs.size + 1) scope.names (cloFrom X.env.cells scope.names [])) s.heap.objs.size X.env) fp) [] (wipe σ (own.map (·.2))) H { s with heap := pushCells (s.heap.push { cls := .type "dict", data := .dict #[] }) scope.names } := by
  have hfree : ∀ y ∈ scope.names, y.2 = .free → ∃ c, X.env.cells.lookup y.1 = some c := fun y hy e => by
    rcases ok.free y hy e with k | k
    · exact I.ok.has _ (.inl k)
    · exact I.ok.has _ (.inr k)
  generalize hcenv : compEnvC scope (cellsFrom (s.heap.objs.size + 1) scope.names (cloFrom X.env.cells scope.names [])) s.heap.objs.size X.env = cenv
  have kp : ∀ b o, s.heap.get? b = some o → (pushCells (s.heap.push { cls := .type "dict", data := .dict #[] }) scope.names).get? b = some o := fun b o e => pushCells_keeps _ _ _ _ (Heap.get?_push_of_some _ e)
  have hL : cenv.locals = s.heap.objs.size := by rw [← hcenv]; rfl
  have hcl : cenv.cells = cellsFrom (s.heap.objs.size + 1) scope.names (cloFrom X.env.cells scope.names []) := by rw [← hcenv]; rfl
  have hsc : cenv.scope = relS scope X.env.scope := by rw [← hcenv]; rfl
  rw [← Heap.size_push s.heap { cls := .type "dict", data := .dict #[] }] at hcl
  have cm : ∀ {y c}, (y, c) ∈ cloFrom X.env.cells scope.names [] → X.env.cells.lookup y = some c ∧ c < s.heap.objs.size := fun {y c} hm => by
    rcases cloFrom_mem hm with hm | ⟨h1, rfl⟩
    · cases hm
    · obtain ⟨c, hc⟩ := hfree _ h1 rfl
      rw [hc]
      obtain ⟨w, z⟩ := I.cell _ _ hc
      exact ⟨rfl, z.lt⟩
  have mem : ∀ {y c}, cenv.cells.lookup y = some c → (X.env.cells.lookup y = some c ∧ c < s.heap.objs.size) ∨ (s.heap.objs.size + 1 ≤ c ∧ CellAt (pushCells (s.heap.push { cls := .type "dict", data := .dict #[] }) scope.names) c none) := fun {y c} e => by
    rw [hcl] at e
    rcases cells_mem (PySem.mem_of_lookup e) with hm | ⟨_, h2, h3⟩
    · exact .inl (cm hm)
    · rw [Heap.size_push] at h2; exact .inr ⟨h2, h3⟩
  have look : ∀ {y}, scope.names.lookup y = some .free → ∃ c, cenv.cells.lookup y = some c ∧ X.env.cells.lookup y = some c := fun {y} hl => by
    have hy : (y, NameKind.free) ∈ scope.names := PySem.mem_of_lookup hl
    obtain ⟨c', e'⟩ := mem_lookup (cells_acc (names := scope.names) (n := (s.heap.push { cls := .type "dict", data := .dict #[] }).objs.size) (cloFrom_has (cells := X.env.cells) (acc := []) hy))
    rw [← hcl] at e'
    refine ⟨c', e', ?_⟩
    rw [hcl] at e'
    rcases cells_mem (PySem.mem_of_lookup e') with hm | ⟨h1, _, _⟩
    · exact (cm hm).1
    · have := ok.uniq _ h1
      rw [hl] at this; cases this
  have okB : (X.blk s H scope cenv fp).Ok := by
    refine ⟨I.ok.mod, by show cenv.scope.kind = _; rw [hsc]; exact ok.kind, by show cenv.globals = _; rw [← hcenv]; exact I.ok.glob, by show cenv.builtins = _; rw [← hcenv]; exact I.ok.blt, by show s.heap.objs.size ≤ cenv.locals; rw [hL]; exact Nat.le_refl _,
      fun y z c e1 e2 => ?_, fun y hy => ?_, fun y c z e => ?_, I.ok.hd, I.ok.frames, .inl rfl, fun b hb => ⟨?_, fun y c e z => ?_⟩, I.bs, Nat.le_trans I.ok.bsz I.sz, fun b o e hb => ?_, fun b hb z => ?_, I.stack, I.stkFree⟩
    · have e1 : cenv.cells.lookup y = some c := e1
      have e2 : cenv.cells.lookup z = some c := e2
      rw [hcl] at e1 e2
      refine cells_inj (fun p hp => ?_) (fun y z c a b => I.ok.inj y z c (cm a).1 (cm b).1) (PySem.mem_of_lookup e1) (PySem.mem_of_lookup e2)
      rw [Heap.size_push]
      exact Nat.lt_succ_of_lt (cm (y := p.1) (c := p.2) hp).2
    · show ∃ c, cenv.cells.lookup y = some c
      have key : ∀ k, cenv.kindOf y = some k → (k = .cell ∨ k = .free) → ∃ c, cenv.cells.lookup y = some c := fun k hk hk' => by
        unfold Env.kindOf at hk
        rw [hsc] at hk
        obtain ⟨k', e, r⟩ := lookup_relS hk
        have : k' = .cell ∨ k' = .free := by
          rcases r with rfl | ⟨rfl, _⟩
          · exact hk'
          · exact .inr rfl
        rcases this with rfl | rfl
        · obtain ⟨c, hm⟩ := cells_has (n := (s.heap.push { cls := .type "dict", data := .dict #[] }).objs.size) (acc := cloFrom X.env.cells scope.names []) (PySem.mem_of_lookup e)
          obtain ⟨c', e'⟩ := mem_lookup hm
          exact ⟨c', by rw [hcl]; exact e'⟩
        · obtain ⟨c, h1, _⟩ := look e
          exact ⟨c, h1⟩
      rcases hy with hy | hy
      · exact key _ hy (.inl rfl)
      · exact key _ hy (.inr rfl)
    · have z : (scope.names.lookup y == some NameKind.cell) = true := z
      have z : scope.names.lookup y = some .cell := by simpa using z
      have e : cenv.cells.lookup y = some c := e
      rw [hcl] at e
      rcases cells_mem (PySem.mem_of_lookup e) with hm | ⟨_, h2, _⟩
      · rcases cloFrom_mem hm with hm | ⟨h1, _⟩
        · cases hm
        · have q := ok.uniq _ h1
          rw [z] at q; cases q
      · rw [Heap.size_push] at h2
        exact Nat.le_of_succ_le h2
    · show b ≠ cenv.locals
      rw [hL]; exact Nat.ne_of_lt (hfp b hb).2
    · have e : cenv.cells.lookup y = some c := e
      rcases mem e with ⟨h1, _⟩ | ⟨h1, _⟩
      · exact (hfp b hb).1.2.2.2.2.1 y c h1 z
      · have h2 : s.heap.objs.size + 1 ≤ b := by rw [← z]; exact h1
        exact absurd (Nat.lt_of_lt_of_le (hfp b hb).2 (Nat.le_of_succ_le h2)) (Nat.lt_irrefl _)
    · rcases (hfp b hb).1.2.2.2.1 with z | z
      · exact I.ok.noex b o e z
      · exact absurd (Nat.lt_of_lt_of_le (Heap.lt_size e) (Nat.le_trans I.ok.bsz z)) (Nat.lt_irrefl _)
    · rcases List.mem_cons.mp (I.stkSub b z) with z | z
      · exact (hfp b hb).1.2.1 z
      · exact (hfp b hb).1.2.2.1 z
  refine ⟨okB, rfl, I.bare, Un.kept kp, ⟨fun _ => none, ?_, fun i y av e1 e2 e3 => ?_⟩, fun y c e => ?_, ?_, fun y c e => ?_, fun p hp => ?_, I.hok.kept kp, by rw [wipe_length]; exact I.len⟩
  · show Heap.Ns _ cenv.locals _
    rw [hL]
    exact Heap.Ns.keeps (Heap.Ns.new ..) fun b o e => pushCells_keeps _ _ _ _ e
  · obtain ⟨e2, hne⟩ := wipe_some e2
    have hfr : scope.names.lookup y = some .free ∧ (cenv.kindOf y = some .cell ∨ cenv.kindOf y = some .free) := by
      have key : ∀ k, cenv.scope.names.lookup y = some k → k = .local ∨ k = .cell ∨ k = .free → scope.names.lookup y = some .free ∧ (cenv.kindOf y = some .cell ∨ cenv.kindOf y = some .free) := fun k hk hk' => by
        have hk0 := hk
        rw [hsc] at hk
        obtain ⟨k', e, r⟩ := lookup_relS hk
        have no : ¬ (k' = .local ∨ k' = .cell) := fun hh => by
          rcases ok.own _ (PySem.mem_of_lookup e) hh with e' | e'
          · obtain ⟨p, hp, hpy⟩ := List.mem_map.mp e'
            have e3 := ok.ix p hp
            have : p.1 = y := hpy
            rw [this] at e3
            exact hne (List.mem_map.mpr ⟨p, hp, nodup_ix hN e3 e1⟩)
          · exact e' (List.mem_of_getElem? e1)
        rcases r with rfl | ⟨rfl, rfl⟩
        · rcases hk' with rfl | rfl | rfl
          · exact absurd (.inl rfl) no
          · exact absurd (.inr rfl) no
          · exact ⟨e, .inr hk0⟩
        · exact ⟨e, .inl hk0⟩
      have e3 : Vis cenv.scope y := e3
      rcases e3 with e3 | e3 | e3
      · exact key _ e3 (.inl rfl)
      · exact key _ e3 (.inr (.inl rfl))
      · exact key _ e3 (.inr (.inr rfl))
    obtain ⟨m, hn, hl⟩ := I.loc
    have hvis : Vis X.env.scope y := (ok.free _ (PySem.mem_of_lookup hfr.1) rfl).elim (fun k => .inr (.inl k)) (fun k => .inr (.inr k))
    obtain ⟨w, r, q⟩ := hl i y av e1 e2 hvis
    refine ⟨w, r, .inr ⟨hfr.2, ?_⟩⟩
    obtain ⟨c, h1, h2⟩ := look hfr.1
    rcases q with ⟨k, _⟩ | ⟨_, c', e', z⟩
    · have k : X.env.scope.names.lookup y = some .local := k
      rcases ok.free _ (PySem.mem_of_lookup hfr.1) rfl with k' | k' <;> rw [show X.env.scope.names.lookup y = _ from k'] at k <;> cases k
    · rw [h2] at e'; cases e'
      exact ⟨c, h1, z.keeps kp⟩
  · have e : cenv.cells.lookup y = some c := e
    rcases mem e with ⟨h1, _⟩ | ⟨_, z⟩
    · obtain ⟨w, z⟩ := I.cell y c h1
      exact ⟨w, z.keeps kp⟩
    · exact ⟨_, z⟩
  · show H cenv.locals = none
    rw [hL]; exact I.hok.fresh (Nat.le_refl _)
  · have e : cenv.cells.lookup y = some c := e
    rcases mem e with ⟨h1, _⟩ | ⟨h1, _⟩
    · exact I.freeC y c h1
    · exact I.hok.fresh (Nat.le_of_succ_le h1)
  · exact absurd (show p ∈ ([] : List (Addr × Obj)) ++ [] from hp) (by simp)
/-- an item appended to a tracked list -/
theorem app_ok {E : Value → Shared → Prop} {D : Addr} {xs : List V} {y : V} {v : Value} {Q : Value → Shared → Prop} (I : Inv X pins σ H s) (hD : H D = some (.lst xs)) (hz : xs.length < sizeLine) (r : RelV y v)
    (h : ∀ s', Inv X pins σ (upd H D (.lst (xs ++ [y]))) s' → Q .none s') : wpAny (model X.prog X.w) X.A (call (.builtin "list.append") [.ref D, v]) Q E s := by
  obtain ⟨hz', its, n, ri, e⟩ := I.hok D _ hD
  have hl := ri.length
  refine append_at (hsz := by rw [List.size_toArray]; omega) e fun h' sb ho' => ?_
  refine h { s with heap := h' } (I.write (t' := s.toks) (by rw [hD]; trivial) (.inl rfl) (fun b u hb q => (sb.2 b hb).trans q) ⟨_, ho'⟩ ⟨by rw [List.length_append]; exact hz, its ++ [v], n + 1, ri.append (.cons r .nil), ?_⟩)
  rw [ho']
  simp
/-- a clause's tests -/
noncomputable def PTs (X : Cx) (ifs : List Expr) (t : TT) : Prop :=
  ∀ (pins : List (Addr × Obj)) (s : Shared) (σ : St) (H : Hp) (Q : Bool → Hp → Prop), Inv X pins σ H s → t σ H Q →
    wpAny (model X.prog X.w) X.A (forIn ifs true fun c r => if r = true then do let ok ← isTrue c X.env (eval c X.env); pure (ForInStep.yield ok) else pure (ForInStep.yield r)) (TP X pins σ Q) X.xe s
noncomputable def tYes : TT := fun _ H Q => Q true H
theorem pts_nil : PTs X [] tYes := fun _ _ _ H _ I h => wpAny_tests_nil ⟨H, I, h⟩
theorem pts_one {c : Expr} {t : TT} (h : PT X c t) : PTs X [c] t := fun pins s σ H Q I hw => wpAny_tests_one (h pins s σ H Q I hw)
end
theorem thnF {α : Type} {t : Sem α} {Q Q' : α → Shared → Prop} {M : Model} {A : Around} {E : Value → Shared → Prop} {s : Shared} (h : wpAny M A t Q (fun _ _ => False) s) (hQ : ∀ a s, Q a s → Q' a s) : wpAny M A t Q' E s := wpAny_mono h hQ fun _ _ z => False.elim z
/-- the loop of a list comprehension's block, the target of any form (codeAny_compLoop_tests asks a target that no tuple goes to; statement and proof follow it, PyProof/CompMap.lean:41-61, with the step letOwnedTupleGo kept) -/
theorem compLoop_any {prog : Program} {w : World} {A : Around} {R : Result → Shared → Prop} {s : Shared} {elt target iter : Expr} {ifs : List Expr} {scope : Scope} {pos : Pos} {it acc : Value} {env : Env} (I : Nat → Shared → Prop)
    (turn : ∀ n s, I n s → wpAny (model prog w) A (pyNext it) (fun r s₁ => match r with
      | none => R (.ok .next) s₁
      | some v => wpAny (model prog w) A (letOwnedTupleGo target it v) (fun _ s₁' => wpAny (model prog w) A (assign target env v) (fun _ s₂ =>
          wpAny (model prog w) A (forIn ifs true fun c r => if r = true then do let ok ← isTrue c env (eval c env); pure (ForInStep.yield ok) else pure (ForInStep.yield r)) (fun ok s₃ =>
            if ok = true then wpAny (model prog w) A (eval elt env) (fun x s₄ =>
              wpAny (model prog w) A (call (.builtin "list.append") [acc, x]) (fun _ s₅ => ∃ m, m < n ∧ I m s₅) (notedBy (model prog w) A env fun e s' => R (.error e) s') s₄) (notedBy (model prog w) A env fun e s' => R (.error e) s') s₃
            else ∃ m, m < n ∧ I m s₃) (notedBy (model prog w) A env fun e s' => R (.error e) s') s₂) (notedBy (model prog w) A env fun e s' => R (.error e) s') s₁') (notedBy (model prog w) A env fun e s' => R (.error e) s') s₁) (notedBy (model prog w) A env fun e s' => R (.error e) s') s)
    (n : Nat) (h : I n s) :
    codeAny (model prog w) A (.compLoop (.ListComp elt [⟨target, iter, ifs, 0⟩] scope pos) 0 it acc env) R s := by
  refine codeAny_loop rfl I (fun n s hI => ?_) n h
  show wpAny _ A ((compTurn (.ListComp elt [⟨target, iter, ifs, 0⟩] scope pos) 0 it acc env).onRaise (fun x => do noteFrame x env; theTreesLotGoes x)) _ _ s
  refine wpAny_noted ?_
  rw [compTurn_list]
  refine wpAny_bind (wpAny_standAt (wpAny_bind (wpAny_mono (turn n s hI) (fun r s₁ h₁ => ?_) fun _ _ h' => h')))
  cases r with
  | none => exact wpAny_pure h₁
  | some v =>
    refine wpAny_bind (wpAny_mono h₁ (fun _ s₁' h₁' => ?_) fun _ _ h' => h')
    refine wpAny_bind (wpAny_mono h₁' (fun _ s₂ h₂ => wpAny_bind (wpAny_mono h₂ (fun ok s₃ h₃ => ?_) fun _ _ h' => h')) fun _ _ h' => h')
    cases ok with
    | false => exact wpAny_pure ⟨rfl, h₃⟩
    | true =>
      exact wpAny_bind (wpAny_bind (wpAny_mono h₃ (fun x s₄ h₄ => wpAny_bind (wpAny_mono h₄ (fun _ s₅ h₅ => wpAny_pure (wpAny_pure ⟨rfl, h₅⟩)) fun _ _ h' => h')) fun _ _ h' => h'))
section
variable {X : Cx}
/-- [elt for target in iter if ..]: D the new list; W by the turn and a measure, Nx what a turn is to reach -/
noncomputable def tLc (wi : TI) (g : TG) (tt : TT) (te : TE) (vs : List Nat) : TE := fun σ H Q => wi σ H fun J H1 => ∀ D, H1 D = none → ∃ W : Nat → Nat → Hp → Prop, (∃ m, W 0 m (upd H1 D (.lst []))) ∧ ∀ i m H, W i m H →
  (J.stop i H ∧ Q (.ref D) H) ∨ (J.go i H ∧ ∃ Nx : Hp → Prop, (∀ H', Nx H' → ∃ m', m' < m ∧ W (i + 1) m' H') ∧ ∀ x H', J.yld i H x H' → g x (wipe σ vs) H' fun σ2 H2 => wipe σ2 vs = wipe σ vs ∧ tt σ2 H2 fun b H3 =>
    if b = true then te σ2 H3 fun y H4 => ∃ acc, H4 D = some (.lst acc) ∧ acc.length < sizeLine ∧ Nx (upd H4 D (.lst (acc ++ [y]))) else Nx H3)
theorem lc_core {pins : List (Addr × Obj)} {s : Shared} {σ : St} {H : Hp} {Q : VK} {elt tg iter : Expr} {ifs : List Expr} {scope : Scope} {own : List (Str × Nat)} {pos pos' : Pos} {wi : TI} {g : TG} {tt : TT} {te : TE} {use : Option (Value → Sem Unit)} {Qf : Value → Shared → Prop}
    (hc : X.calm = true) (hN : X.N.Nodup) (I : Inv X pins σ H s) (hi : PI X tg iter wi) (ok : BlkOk X.N X.env.scope scope own)
    (hg : ∀ (s : Shared) (H : Hp) (C : Addr) (cl : List (Str × Addr)) (fp : List Addr), PG (X.blk s H scope (compEnvC scope cl C X.env) fp) tg g) (ht : ∀ (s : Shared) (H : Hp) (C : Addr) (cl : List (Str × Addr)) (fp : List Addr), PTs (X.blk s H scope (compEnvC scope cl C X.env) fp) ifs tt)
    (he : ∀ (s : Shared) (H : Hp) (C : Addr) (cl : List (Str × Addr)) (fp : List Addr), PE (X.blk s H scope (compEnvC scope cl C X.env) fp) elt te) (hs : ∀ x, foldedSetIterable iter X.env x = pure x)
    (h : tLc wi g tt te (own.map (·.2)) σ H Q)
    (hRR : ∀ D C s' m H', Inv X pins σ H' s' → Q (.ref D) H' → s'.heap.Ns C m → FpOk X pins H' C → compPost (model X.prog X.w) X.A X.xe use Qf (.ref D) C (.ok .next) s') :
    wpAny (model X.prog X.w) X.A (comprehension (.ListComp elt [⟨tg, iter, ifs, 0⟩] scope pos) scope X.env pos' (newList []) false (eval iter X.env) use) Qf X.xe s := by
  have hfree : ∀ y ∈ scope.names, y.2 = .free → ∃ c, X.env.cells.lookup y.1 = some c := fun y hy e => by
    rcases ok.free y hy e with k | k
    · exact I.ok.has _ (.inl k)
    · exact I.ok.has _ (.inr k)
  refine wpAny_comprehension_free (use := use) rfl hs (closure_ok hfree) ok.kind (fun y hy e => by rw [ok.uniq y hy, e])
    (thn (hi pins s σ H _ I h) fun xv s1 hx => thn hx fun itv s2 h2 => ?_)
  obtain ⟨it, fp, tn, J, H2, e, I2, T, st2, f2, q⟩ := h2
  subst e
  refine wpAny_newObj_type (newEnv_comp ?_) (by show 0 ≤ sizeLine; decide)
  generalize hD : s2.heap.objs.size = D
  have hDn : H2 D = none := I2.hok.fresh (Nat.le_of_eq hD)
  obtain ⟨W, ⟨m0, w0⟩, turn⟩ := q D hDn
  -- the new list
  generalize hs3 : ({ s2 with heap := s2.heap.push { cls := .type "list", data := .seq ([] : List Value).toArray } } : Shared) = s3
  have I3 : Inv X pins σ (upd H2 D (.lst [])) s3 := by
    rw [← hs3]
    refine I2.laid (t' := s2.toks) (fun b o e => Heap.get?_push_of_some _ e) (Nat.le_of_eq hD) ⟨Nat.zero_le _, [], 0, .nil, ?_⟩
    rw [← hD]
    exact Heap.get?_push_size _ rfl
  have h3 : s3.heap = s2.heap.push { cls := .type "list", data := .seq ([] : List Value).toArray } := by rw [← hs3]
  have sz : ∀ b ∈ fp, b < s2.heap.objs.size := fun b hb => by
    obtain ⟨o, e, _⟩ := T.obj _ _ st2 b hb
    exact Heap.lt_size e
  have f3 : ∀ b ∈ fp, FpOk X pins (upd H2 D (.lst [])) b ∧ b < s3.heap.objs.size := fun b hb => by
    have hlt := sz b hb
    refine ⟨⟨?_, (f2 b hb).2⟩, by rw [h3, Heap.size_push]; exact Nat.lt_succ_of_lt hlt⟩
    rw [upd_ne (by rw [← hD]; exact Nat.ne_of_lt hlt)]
    exact (f2 b hb).1
  have st3 : tn 0 s3.heap := T.keep _ _ _ st2 fun b _ o e => by rw [h3]; exact Heap.get?_push_of_some _ e
  have I4 := block_start I3 ok hN f3
  have pg := hg s3 (upd H2 D (.lst [])) s3.heap.objs.size (cellsFrom (s3.heap.objs.size + 1) scope.names (cloFrom X.env.cells scope.names [])) fp
  have pt := ht s3 (upd H2 D (.lst [])) s3.heap.objs.size (cellsFrom (s3.heap.objs.size + 1) scope.names (cloFrom X.env.cells scope.names [])) fp
  have pe := he s3 (upd H2 D (.lst [])) s3.heap.objs.size (cellsFrom (s3.heap.objs.size + 1) scope.names (cloFrom X.env.cells scope.names [])) fp
  show codeAny _ _ (.compStart (.ListComp elt [⟨tg, iter, ifs, 0⟩] scope pos) 0 (.ref it) (.ref D) (compEnvC scope (cellsFrom (s3.heap.objs.size + 1) scope.names (cloFrom X.env.cells scope.names [])) s3.heap.objs.size X.env)) (compPost (model X.prog X.w) X.A X.xe use Qf (.ref D) s3.heap.objs.size) { s3 with heap := pushCells (s3.heap.push { cls := .type "dict", data := .dict #[] }) scope.names }
  have nfp : ∀ b ∈ fp, (upd H2 D (.lst [])) b = none := fun b hb => (f3 b hb).1.1
  generalize hce : compEnvC scope (cellsFrom (s3.heap.objs.size + 1) scope.names (cloFrom X.env.cells scope.names [])) s3.heap.objs.size X.env = ce at I4 pg pt pe ⊢
  have cL : ce.locals = s3.heap.objs.size := by subst hce; rfl
  generalize hH3 : upd H2 D (.lst []) = H3 at I3 I4 pg pt pe w0 nfp f3
  generalize hs4 : ({ s3 with heap := pushCells (s3.heap.push { cls := .type "dict", data := .dict #[] }) scope.names } : Shared) = s4 at I4 ⊢
  have st4 : tn 0 s4.heap := T.keep _ _ _ st3 fun b _ o e => by rw [← hs4]; exact pushCells_keeps _ _ _ _ (Heap.get?_push_of_some _ e)
  have stat : ∀ {σ' : St} {H' : Hp} {s' : Shared}, Inv (X.blk s3 H3 scope ce fp) [] σ' H' s' → (∀ b ∈ fp, H' b = none) → ∀ b ∈ fp, FpOk (X.blk s3 H3 scope ce fp) [] H' b := fun {σ' H' s'} I' hn b hb =>
    ⟨hn b hb, (I'.ok.exf b hb).1, I'.ok.exfs b hb, .inl hb, fun x c e => (I'.ok.exf b hb).2 x c e, fun p hp => absurd (show p ∈ ([] : List (Addr × Obj)) ++ [] from hp) (by simp)⟩
  have loop : codeAny (model X.prog X.w) X.A (.compLoop (.ListComp elt [⟨tg, iter, ifs, 0⟩] scope pos) 0 (.ref it) (.ref D) ce) (compPost (model X.prog X.w) X.A X.xe use Qf (.ref D) s3.heap.objs.size) s4 := by
    refine compLoop_any (fun n s' => ∃ i H', Inv (X.blk s3 H3 scope ce fp) [] (wipe σ (own.map (·.2))) H' s' ∧ tn i s'.heap ∧ (∀ b ∈ fp, H' b = none) ∧ W i n H') ?_ m0 ⟨0, H3, I4, st4, nfp, w0⟩
    rintro n s5 ⟨i, H5, I5, st5, n5, w5⟩
    rcases turn i n H5 w5 with ⟨stop, qq⟩ | ⟨go, Nx, hNx, step⟩
    · have td := T.done (X.blk s3 H3 scope ce fp) rfl rfl rfl hc i [] s5 _ H5 (fun _ _ => False) I5 (stat I5 n5) st5 stop
      refine thnF td fun r s6 hh_ => ?_
      obtain ⟨hr, I6⟩ := hh_
      subst hr
      -- back in the def's context
      have I7 : Inv X pins σ H5 s6 := I3.call' (ch := fp) I6.os I6.base I6.hok I6.bare fun b hb => ⟨(f3 b hb).1.2.2.2.1, (f3 b hb).1.2.1, (f3 b hb).1.2.2.2.2.1, (f3 b hb).1.2.2.2.2.2⟩
      have nC : H5 s3.heap.objs.size = none := by
        have z : H5 ce.locals = none := I6.free
        rw [cL] at z
        exact z
      obtain ⟨m, hn, _⟩ := I6.loc
      have hn : s6.heap.Ns ce.locals m := hn
      rw [cL] at hn
      exact hRR D s3.heap.objs.size s6 m H5 I7 qq hn (I3.fpOk (Nat.le_refl _) nC)
    · have ti := T.item (X.blk s3 H3 scope ce fp) rfl rfl rfl hc i [] s5 _ H5 (fun _ _ => False) I5 (stat I5 n5) st5 go
      refine thnF ti fun r s6 hh_ => ?_
      obtain ⟨u, hr, h6⟩ := hh_
      subst hr
      refine thnF h6 fun _ s7 hh_ => ?_
      obtain ⟨x, H7, I7, r7, y7, st7, n7⟩ := hh_
      have I7' := I7.pinned (stat I7 n7) (T.obj _ _ st7)
      refine thnF (pg _ s7 _ H7 x u _ I7' r7 (step x H7 y7)) fun _ s8 hh_ => ?_
      obtain ⟨σ8, H8, I8, hw8, q8⟩ := hh_
      refine thnF (pt _ s8 σ8 H8 _ I8 q8) fun b s9 hh_ => ?_
      obtain ⟨H9, I9, q9⟩ := hh_
      -- the turn's end
      have fin : ∀ {s' : Shared} {H' : Hp}, Inv (X.blk s3 H3 scope ce fp) ([] ++ pinsAt fp s7.heap) σ8 H' s' → Nx H' → ∃ m, m < n ∧ ∃ i H', Inv (X.blk s3 H3 scope ce fp) [] (wipe σ (own.map (·.2))) H' s' ∧ tn i s'.heap ∧ (∀ b ∈ fp, H' b = none) ∧ W i m H' := fun {s' H'} I' nx => by
        obtain ⟨m', hm, w'⟩ := hNx H' nx
        have pin' : ∀ b ∈ fp, ∀ o, s7.heap.get? b = some o → s'.heap.get? b = some o ∧ H' b = none := fun b hb o e =>
          let z := I'.pin (b, o) (List.mem_append_right _ (List.mem_append_right _ (mem_pinsAt hb e)))
          ⟨z.1, z.2.1⟩
        have hl : (wipe σ (own.map (·.2))).length = σ8.length := by rw [← hw8, wipe_length]
        refine ⟨m', hm, i + 1, H', (I'.unpinned (pins := [])).weak hl (fun j v e => ?_), T.keep _ _ _ st7 fun b hb o e => (pin' b hb o e).1, fun b hb => ?_, w'⟩
        · rw [← hw8] at e
          exact (wipe_some e).1
        · obtain ⟨o, e, _⟩ := T.obj _ _ st7 b hb
          exact (pin' b hb o e).2
      cases b with
      | false =>
        simp only [Bool.false_eq_true, if_false] at q9 ⊢
        exact fin I9 q9
      | true =>
        simp only [if_true] at q9 ⊢
        refine thnF (pe _ s9 σ8 H9 _ I9 q9) fun z s10 hh_ => ?_
        obtain ⟨yv, H10, I10, r10, acc, hD10, hz10, nx⟩ := hh_
        exact app_ok (X := X.blk s3 H3 scope ce fp) I10 hD10 hz10 r10 fun s11 I11 => fin I11 nx
  exact codeAny_compStart_list loop (T.self X.A 0 _ _ _ st4 loop)
/-- as a value -/
theorem pe_lc {elt tg iter : Expr} {ifs : List Expr} {scope : Scope} {own : List (Str × Nat)} {pos : Pos} {wi : TI} {g : TG} {tt : TT} {te : TE} (hc : X.calm = true) (hN : X.N.Nodup) (hi : PI X tg iter wi) (ok : BlkOk X.N X.env.scope scope own)
    (hg : ∀ (s : Shared) (H : Hp) (C : Addr) (cl : List (Str × Addr)) (fp : List Addr), PG (X.blk s H scope (compEnvC scope cl C X.env) fp) tg g) (ht : ∀ (s : Shared) (H : Hp) (C : Addr) (cl : List (Str × Addr)) (fp : List Addr), PTs (X.blk s H scope (compEnvC scope cl C X.env) fp) ifs tt)
    (he : ∀ (s : Shared) (H : Hp) (C : Addr) (cl : List (Str × Addr)) (fp : List Addr), PE (X.blk s H scope (compEnvC scope cl C X.env) fp) elt te) (hs : ∀ x, foldedSetIterable iter X.env x = pure x := by intro _; rfl) :
    PE X (.ListComp elt [⟨tg, iter, ifs, 0⟩] scope pos) (tLc wi g tt te (own.map (·.2))) := by
  intro pins s σ H Q I h
  rw [eval_ListComp]
  refine lc_core hc hN I hi ok hg ht he hs h fun D C s' m H' I' q hn f => ⟨m, hn, fun h'' sb => ?_⟩
  obtain ⟨f0, f1, f2, f3, f4, f5⟩ := f
  exact ⟨.ref D, H', I'.turned (t' := s'.toks) (fun b o hb e => (sb.2 b hb).trans e) f0 f1 f3 f4 f5, rfl, q⟩
/-- name = [..] on one line, the name a local -/
theorem ps_setLc {i : Nat} {y : Str} {py : Pos} {elt tg iter : Expr} {ifs : List Expr} {scope : Scope} {own : List (Str × Nat)} {pos spos : Pos} {wi : TI} {g : TG} {tt : TT} {te : TE} (hc : X.calm = true) (hN : X.N.Nodup) (hy : X.N[i]? = some y) (hyl : X.env.scope.names.lookup y = some .local)
    (hsw : swapsWith (.ListComp elt [⟨tg, iter, ifs, 0⟩] scope pos) (some (.Name y py)) spos.line X.env = pure true) (hi : PI X tg iter wi) (ok : BlkOk X.N X.env.scope scope own)
    (hg : ∀ (s : Shared) (H : Hp) (C : Addr) (cl : List (Str × Addr)) (fp : List Addr), PG (X.blk s H scope (compEnvC scope cl C X.env) fp) tg g) (ht : ∀ (s : Shared) (H : Hp) (C : Addr) (cl : List (Str × Addr)) (fp : List Addr), PTs (X.blk s H scope (compEnvC scope cl C X.env) fp) ifs tt)
    (he : ∀ (s : Shared) (H : Hp) (C : Addr) (cl : List (Str × Addr)) (fp : List Addr), PE (X.blk s H scope (compEnvC scope cl C X.env) fp) elt te) (hs : ∀ x, foldedSetIterable iter X.env x = pure x := by intro _; rfl) :
    PS X (.Assign [.Name y py] (.ListComp elt [⟨tg, iter, ifs, 0⟩] scope pos) spos) (tAsg (tLc wi g tt te (own.map (·.2))) (gName i)) := by
  intro pins s σ H D I h
  rw [exec_Assign_Name_used _ _ _ _ hsw]
  refine wpAny_bind (wpAny_standAt (wpAny_bind ?_))
  show wpAny _ X.A (do let _ ← comprehension (.ListComp elt [⟨tg, iter, ifs, 0⟩] scope pos) scope X.env (firstIterPos [⟨tg, iter, ifs, 0⟩] pos) (newList []) false (eval iter X.env) (some (assign (.Name y py) X.env))) _ _ s
  have h : tLc wi g tt te (own.map (·.2)) σ H (fun x H1 => gName i x σ H1 D.nx) := h
  refine wpAny_bind (thn (lc_core (Qf := fun _ s' => SP X pins D .next s') hc hN I hi ok hg ht he hs h fun L C s' m H' I' q hn f => ?_) fun _ s' hq => wpAny_pure (wpAny_pure hq))
  show wpAny _ _ (assign (.Name y py) X.env (.ref L)) _ _ _
  refine wpAny_assign_Name (store_ok2 (v := V.ref L) I' hN hy (.inl hyl) rfl (fun s2 I2 hh_ => ?_) (.inr hyl))
  obtain ⟨a, sb, ha⟩ := hh_
  obtain ⟨f0, f1, f2, f3, f4, f5⟩ := f
  have haC : C ≠ a := by
    rcases ha with z | z
    · rw [z]; exact f1
    · exact fun e => f4 y a z e.symm
  refine ⟨m, hn.sameBut sb haC, fun h3 sb3 => ?_⟩
  exact ⟨_, H', I2.turned (t' := s2.toks) (fun b o hb e => (sb3.2 b hb).trans e) f0 f1 f3 f4 f5, q⟩
theorem sw_true {elt : Expr} {gs : List Comprehension} {scope : Scope} {pos py : Pos} {y : Str} {l : Nat} {env : Env} (hk : env.scope.kind = .function) (hy : env.scope.names.lookup y = some .local) (hl : (py.line == pos.line) = true)
    (ha : (scope.names.any fun (n, k) => n == y && (k == .local || k == .cell)) = false) : swapsWith (.ListComp elt gs scope pos) (some (.Name y py)) l env = pure true := by
  have ky : env.kindOf y = some .local := hy
  have hb : env.blockKind = .function := by unfold Env.blockKind; rw [hk]; rfl
  unfold swapsWith
  simp only [hb, ky, ha, Expr.pos, hl]
  rfl
end
/-! ### the forms one uses -/
noncomputable def blkC (N : List Str) (sc scope : Scope) (own : List (Str × Nat)) : Bool :=
  (match scope.kind with | .function => true | _ => false) && (scope.names.all fun y => decide (scope.names.lookup y.1 = some y.2)) && (own.all fun p => decide (N[p.2]? = some p.1)) &&
    (scope.names.all fun y => match y.2 with
      | .free => (match sc.names.lookup y.1 with | some .cell => true | some .free => true | _ => false)
      | .local => decide (y.1 ∈ own.map (·.1)) || decide (y.1 ∉ N)
      | .cell => decide (y.1 ∈ own.map (·.1)) || decide (y.1 ∉ N)
      | _ => true)
theorem blkOk_by {N : List Str} {sc scope : Scope} {own : List (Str × Nat)} (h : blkC N sc scope own = true) : BlkOk N sc scope own := by
  unfold blkC at h
  simp only [Bool.and_eq_true, List.all_eq_true, decide_eq_true_eq] at h
  obtain ⟨⟨⟨h1, h2⟩, h3⟩, h4⟩ := h
  refine ⟨?_, h2, h3, fun y hy e => ?_, fun y hy e => ?_⟩
  · split at h1
    · assumption
    · cases h1
  · have q := h4 y hy
    simp only [e] at q
    split at q <;> first | exact .inl (by assumption) | exact .inr (by assumption) | cases q
  · have q := h4 y hy
    rcases e with e | e <;> (simp only [e, Bool.or_eq_true, decide_eq_true_eq] at q; exact q)
end L2
namespace L2
open PySem PySem.Spec PyProof.Rows
section
variable {prog : Program} {w : World} {A : Around} {R : Result → Shared → Prop} {s : Shared} {elt t0 i0 t1 i1 : Expr} {ifs0 ifs1 : List Expr} {scope : Scope} {pos : Pos} {it acc : Value} {env : Env}
end
section
variable {X : Cx}
end
end L2
namespace L2
open PySem PySem.Spec PyProof.Rows
/-! ### lists of pairs as tables -/
section
variable {κ : Type} [DecidableEq κ]
end
/-! ### a tracked dict, its keys ints and texts or tuples of these -/
section
variable {P : Program} {w : World} {H : Hp} {h : Heap} {a : Addr}
end
section
variable {X : Cx} {pins : List (Addr × Obj)} {σ : St} {H : Hp} {s : Shared} {a : Addr} {y v : V} {u r : Value} {o : Option V} {A : Around} {E : Value → Shared → Prop}
end
section
variable {X : Cx} {pins : List (Addr × Obj)} {σ : St} {H : Hp} {s : Shared} {a : Addr} {kvs : List (Key × V)} {k : Key} {u : Value} {A : Around} {E : Value → Shared → Prop}
end
/-! ### readings and rules -/
section
variable {X : Cx} {o i e value : Expr} {pos pos' tpos : Pos} {td ty tv : TE}
end
/-! ### displays -/
section
variable {X : Cx} {pos : Pos}
end
/-! ### methods -/
section
variable {X : Cx} {pins : List (Addr × Obj)} {σ : St} {H : Hp} {s : Shared} {a : Addr} {y d : V} {u r : Value} {o : Option V} {A : Around} {E : Value → Shared → Prop}
end
section
variable {X : Cx} {o e f : Expr} {apos cpos : Pos} {td ty tx : TE}
end
/-! ### dict(d): a copy -/
section
variable {X : Cx} {pins : List (Addr × Obj)} {σ : St} {H : Hp} {s : Shared} {a : Addr} {kvs : List (Key × V)} {A : Around} {E : Value → Shared → Prop}
end
section
variable {X : Cx} {pins : List (Addr × Obj)} {σ : St} {H : Hp} {s : Shared} {a : Addr} {y : V} {u : Value} {A : Around} {E : Value → Shared → Prop}
end
end L2
namespace L2
open PySem PySem.Spec PyProof.Rows
section
variable {prog : Program} {w : World} {A : Around} {E : Value → Shared → Prop}
end
section
variable {X : Cx}
end
end L2
namespace L2
open PySem PySem.Spec PyProof.Rows
section
variable {X : Cx} {pins : List (Addr × Obj)} {σ : St} {H : Hp} {s : Shared} {h' : Heap}
/-- .. and one new object is laid -/
theorem Inv.turnedNew {t' : Nat} {ch : List Addr} {T : Addr} {ob : HO} (I : Inv X pins σ H s) (k : ∀ b o, b ∉ ch → s.heap.get? b = some o → h'.get? b = some o) (hf : ∀ b ∈ ch, FpOk X pins H b) (hT : s.heap.objs.size ≤ T)
    (new : ObjOk X.prog X.w (upd H T ob) h' T ob) : Inv X pins σ (upd H T ob) { s with heap := h', toks := t' } := by
  have hn : H T = none := I.hok.fresh hT
  have nit : ∀ b u, H b = some u → b ∉ ch := fun b u e z => by
    have q := (hf b z).1
    rw [q] at e; cases e
  refine I.step (g' := s.gens) (d' := s.drawn) (ch := ch) (fun b hb => ⟨(hf b hb).2.2.2.1, (hf b hb).2.1, (hf b hb).2.2.2.2.1, (hf b hb).2.2.2.2.2⟩) (fun b o _ _ hc e _ => k b o hc e) (fun b o _ _ hc e _ => ⟨o.slots, k b o hc e⟩)
    (fun b o _ e n => ?_) (fun b o hc e => ⟨o, k b o hc e⟩) (fun b xs e => ?_) (fun b o u e => ?_) (fun b ps e => ⟨#[], ?_⟩) (fun m hm => ?_) (fun b u e => ?_) I.bare
  · rw [upd_ne (Nat.ne_of_lt (Nat.lt_of_lt_of_le (Heap.lt_size e) hT))]; exact n
  · rw [upd_ne (ne_of_none e hn)]; exact e
  · rw [upd_ne (ne_of_none e hn)]; exact e
  · rw [upd_ne (ne_of_none e hn), e]; simp
  · obtain ⟨o, es, ep, ho, r⟩ := hm
    exact ⟨o, es, ep, k _ o (fun z => (hf _ z).2.1 rfl) ho, r⟩
  · by_cases hb : b = T
    · subst hb
      rw [upd_same] at e
      cases e
      exact new
    · rw [upd_ne hb] at e
      refine (I.hok b u e).stay (fun c v hc q => k c v ?_ q) (fun c q => by rw [upd_ne (ne_of_none q hn)]; exact q) fun c xs q => by rw [upd_ne (ne_of_none q hn)]; exact q
      rcases hc with z | z
      · rw [z]; exact nit b u e
      · exact nit c _ z
/-! ### locking a thing while a statement runs -/
end
section
variable {X : Cx}
/-! ### one iterator just laid -/
end
/-! ### range with a step -/
section
variable {X : Cx} {tg : Expr}
end
/-! ### reversed(list) -/
section
variable {X : Cx} {tg : Expr}
end
/-! ### a str -/
/-! ### a dict's keys: any dict's entries -/
section
variable {prog : Program} {w : World} {A : Around} {E : Value → Shared → Prop} {s : Shared}
end
/-! ### a locked dict -/
section
variable {X : Cx} {pins : List (Addr × Obj)} {σ : St} {H : Hp} {s : Shared} {d : Addr} {o : Obj}
end
section
variable {P : Program} {w : World} {K : PySem.W.Frag} {tg : Expr} {d : Addr} {o : Obj} {es : Array DictEntry} {ep : Nat}
end
/-! ### for k in d, d.keys(), d.values(), d.items() -/
section
variable {X : Cx} {tg e : Expr} {td : TE} {apos cpos : Pos}
end
/-! ### enumerate(list) -/
/-- the list at a as it stands at each turn, each item in a new pair -/
noncomputable def Ite (K : PySem.W.Frag) (a : Addr) : It :=
  ⟨fun i H => ∃ (xs : List V) (x : V), SqL K H a xs ∧ xs[i]? = some x, fun i H v H' => ∃ T x, v = .ref T ∧ H T = none ∧ H' = upd H T (.tup [.int (i : Nat), x]) ∧ ∀ xs, SqL K H a xs → xs[i]? = some x, fun i H => ∃ xs : List V, SqL K H a xs ∧ xs.length ≤ i⟩
theorem turn_enum {P : Program} {w : World} {K : PySem.W.Frag} {elts : List Expr} {kk : Nat} {tpos : Pos} (a e it : Addr) :
    Turn P w K (.Tuple elts kk tpos) (Ite K a) [e, it] e (fun i h => (∃ old, IsEnum h e it ((i : Nat) : Int) old) ∧ h.IsListIter it a i ∧ e ≠ it) where
  mem := by simp
  obj := fun i h st b hb => by
    obtain ⟨⟨old, he⟩, ⟨o, ho, hc, hd⟩, _⟩ := st
    have e' : b = e ∨ b = it := by simpa using hb
    rcases e' with z | z
    · rw [z]; exact ⟨_, he, fun v q => nomatch q⟩
    · rw [z]; exact ⟨o, ho, fun v q => by rw [hd] at q; cases q⟩
  keep := fun i h h' st k => let ⟨⟨old, he⟩, hi, hne⟩ := st; ⟨⟨old, k e (by simp) _ he⟩, hi.at fun o q => k it (by simp) o q, hne⟩
  item := by
    intro X hP hw hK hc i pins s σ H E I hf st hg
    subst hP hw hK
    obtain ⟨⟨old, he⟩, hit, hne⟩ := st
    obtain ⟨xs, x, hq, hx⟩ := hg
    obtain ⟨its, rv, p, hz⟩ := I.list hq
    obtain ⟨u, hu, ru⟩ := rv.get hx
    have hel : e < s.heap.objs.size := Heap.lt_size he
    have hil : it < s.heap.objs.size := by obtain ⟨_, q, _⟩ := hit; exact Heap.lt_size q
    refine wpAny_pyNext_enum_item he hit p.isList (x := u) (by simpa using hu) hne fun h' ho hit' hT hsz hk => ?_
    refine ⟨_, rfl, wpAny_letOwnedTupleGo_enum (s := { s with heap := h', toks := s.toks + 1 }) ho fun h'' he' sb => ?_⟩
    have hT2 : h''.get? s.heap.objs.size = some { cls := .type "tuple", data := .seq #[.int i s.toks, u] } := (sb.2 _ (Nat.ne_of_gt hel)).trans hT
    have new : ObjOk X.prog X.w (upd H s.heap.objs.size (.tup [.int (i : Nat), x])) h'' s.heap.objs.size (.tup [.int (i : Nat), x]) :=
      ⟨by show 2 ≤ sizeLine; decide, [.int i s.toks, u], .cons ⟨_, rfl⟩ (.cons ru .nil), ⟨_, hT2, rfl, _, rfl⟩⟩
    have I1 : Inv X pins σ (upd H s.heap.objs.size (.tup [.int (i : Nat), x])) { s with heap := h'', toks := s.toks + 1 } :=
      I.turnedNew (ch := [e, it]) (fun b ob hb q => (sb.2 b (fun z => hb (by simp [z]))).trans (hk b ob (fun z => hb (by simp [z])) (fun z => hb (by simp [z])) q)) hf (Nat.le_refl _) new
    refine ⟨.ref s.heap.objs.size, _, I1, rfl, ⟨_, x, rfl, I.hok.fresh (Nat.le_refl _), rfl, fun ys hy => by rw [I.list_inj hy hq]; exact hx⟩, ⟨⟨u, ?_⟩, hit'.at fun o q => (sb.2 it (Ne.symm hne)).trans q, hne⟩, fun b hb => ?_⟩
    · have e1 : ((i + 1 : Nat) : Int) = (i : Int) + 1 := by omega
      rw [e1]; exact he'
    · have hb' : b < s.heap.objs.size := by
        have e' : b = e ∨ b = it := by simpa using hb
        rcases e' with z | z
        · rw [z]; exact hel
        · rw [z]; exact hil
      rw [upd_ne (Nat.ne_of_lt hb')]
      exact (hf b hb).1
  done := by
    intro X hP hw hK hc i pins s σ H E I hf st hg
    subst hP hw hK
    obtain ⟨⟨old, he⟩, hit, hne⟩ := st
    obtain ⟨xs, hq, hx⟩ := hg
    obtain ⟨its, rv, p, hz⟩ := I.list hq
    obtain ⟨f0, f1, f2, f3, f4, f5⟩ := hf it (by simp)
    have hl := rv.length
    exact wpAny_pyNext_enum_end (I.ok.hd hc) he hit p.isList (by simp; omega) fun h' eb => ⟨rfl, I.turned (t' := s.toks) (fun b o hb q => eb b o hb q) f0 f1 f3 f4 f5⟩
  self := fun A i s Q E st h => let ⟨⟨_, he⟩, _⟩ := st; wpAny_pyIter_enum he h
noncomputable def iEnum (K : PySem.W.Frag) (ta : TA) : TI := fun σ H R => ta σ H fun vs H1 => ∃ a xs, vs = [.ref a] ∧ SqL K H1 a xs ∧ R (Ite K a) H1
theorem pi_enum {X : Cx} {e : Expr} {ta : TA} {p pos tpos : Pos} {elts : List Expr} {kk : Nat} (hg : Gl X "enumerate") (hm : X.mg "enumerate" = none) (ha : PA X [e] ta) (hs : starEach [e] X.env = [(false, eval e X.env)] := by rfl) :
    PI X (.Tuple elts kk tpos) (.Call (.Name "enumerate" p) [e] [] pos) (iEnum X.K ta) := by
  intro pins s σ H R I h
  refine Call_ (ld_blt I hg hm boot_enumerate (PyProof.Rows.callWith_type1 (thn (ha pos pins s σ H _ I h) fun us s1 hh_ => ?_) hs rfl))
  obtain ⟨vs, H1, I1, r1, q1⟩ := hh_
  obtain ⟨a, xs, ex, hq, q⟩ := q1
  subst ex
  cases r1 with
  | cons r rr =>
    cases rr
    cases r
    obtain ⟨its, rv, p', hz⟩ := I1.list hq
    refine call_enumerate_list p'.isList fun h' he hit hsz hk => wpAny_pyIter_enum he ?_
    have I2 : Inv X pins σ H1 { s1 with heap := h' } := I1.kept (t' := s1.toks) hk
    refine ⟨s1.heap.objs.size + 1, [s1.heap.objs.size + 1, s1.heap.objs.size], _, _, H1, rfl, I2, turn_enum a (s1.heap.objs.size + 1) s1.heap.objs.size, ⟨⟨.none, he⟩, hit, Nat.succ_ne_self _⟩, fun b hb => ?_, q⟩
    have e' : b = s1.heap.objs.size + 1 ∨ b = s1.heap.objs.size := by simpa using hb
    have hle : s1.heap.objs.size ≤ b := by
      rcases e' with z | z
      · rw [z]; exact Nat.le_add_right _ _
      · rw [z]; exact Nat.le_refl _
    exact I1.fpOk hle (I1.hok.fresh hle)
/-! ### zip(list, list) -/
end L2
section 
namespace Bits
open PySem PyProof.Rows
end Bits
end 
section 
namespace TL
open PySem PySem.Builtin PySem.Builtin.Str PySem.StrLaws
/-! ### the list functions -/
/-! ### the model's split and partition are these -/
/-! ### computing spl and par -/
/-! ### digits -/
/-! ### words: x.split() -/
end TL
end 
namespace L2
open PySem PySem.Spec PyProof.Rows
section
variable {X : Cx} {pins : List (Addr × Obj)} {σ : St} {H : Hp} {s : Shared} {Q : VK}
end
section
variable {X : Cx}
/-! ### of a text alone -/
/-! ### of a text and a text -/
end
section
variable {X : Cx} {o e : Expr} {to te : TE}
end
end L2
namespace L2
open PySem PySem.Spec PyProof.Rows
section
variable {X : Cx}
end
/-! ### slices of a text -/
end L2
namespace Att
open PySem PySem.W PySem.Calls PyProof.Rows
/-! ### the script -/
/-! ### the attachment: holds_open's last premise (the goal 'hc' behind k_head) from a wpAny of the law's body -/
/-! ### rules over ANY heap (no ledger) from facts about the written part K: the library's own take a ledger (News) for what they write -/
section
variable {prog : Program} {w : World} {A : Around} {E : Value → Shared → Prop} {s : Shared} {K : Frag}
/-! the whole heap as the ledger: makes every rule that writes through a ledger a rule over any heap -/
end
end Att
namespace L2
open PySem PySem.Spec PyProof.Rows
end L2
namespace L2
open PySem PySem.Spec PyProof.Rows
end L2
/- THE LAST THEOREM (shape; LID, My.* are yours):
   My.Adr: a structure of the addresses that your layer names (classes, functions); My.Txt K t: a structure (Prop) of the equations over K;
   My.txt_mk : {K} {implicit addresses ..} (e1 : nsIn K mainGlobals "law" = some (some (.ref f))) (e2 : K.lookup f = some ⟨oc, od, .func (fnOf "law" "law" params body scope dV kV doc pm an cdv ct), sl⟩) (e3 : codeIn K cdv "law" = true) .. : ∃ t, My.Txt K t
set_option maxRecDepth 100000 in
set_option maxHeartbeats 0 in
theorem PySem.Challenge.cw_LID_holds : PySem.Challenge.rw_LID.Holds := by
  w_on; o_law; k_head; (case hw => w_witness2)
  k_fill
  refine L2.walk_of (l := PySem.Challenge.rw_LID) (n := 63) (k := 40) (x := "script") (CX := fun w => ..) (sp := fun _ => My.sp_law) rfl (by decide) rfl ⟨rfl, by decide, by decide⟩ (fun w h Y => PySem.W.kIn_of Y) ?F ?S ?C
  case F =>
    intro w mg fa h KX G hmg
    have T : ∃ t, My.Txt (L2.KOf KX) t := by
      dsimp only [L2.KOf]                          -- K must stand as «<heap const> w.params» for k_is
      refine' My.txt_mk ?e1 ?e2 ?e3 ..
      (case e1 => PySem.W.k_is)                    -- in the order: a name -> its address -> its object -> its parts
      (case e2 => PySem.W.k_is)
      ..
    obtain ⟨t, T⟩ := T
    have e0 := hmg.symm.trans (PySem.W.mg_of KX G T.law)
    cases e0                                       -- fa is the law's own address
    exact ⟨_, fun s u => .of_eq rfl, fun base kb nb => My.law_fn T kb nb⟩     -- if «.of_eq rfl» comes too early: refine' ⟨_, ?b, fun base kb nb => My.law_fn T kb nb⟩; exact fun s u => .of_eq rfl
  case S => exact fun w H a ns hl hO hS => ..
  case C => exact ..
(the tactic k_is has no namespace: write k_is) -/
/-! SHORT WORDS over the layer: a def of the text, its body, what a loop and a test want. -/
namespace L2
open PySem PySem.Spec PyProof.Rows
/-! ### the text by places -/
/-- the j-th statement of a class's body -/
noncomputable def inClass (s : Stmt) (j : Nat) : Stmt := match s with
  | .ClassDef _ _ _ body _ _ _ _ _ _ _ => body.getD j (.Pass ⟨0, 0, 0, 0⟩)
  | _ => .Pass ⟨0, 0, 0, 0⟩
noncomputable def defArgs (s : Stmt) : Arguments := match s with
  | .FunctionDef _ a _ _ _ _ _ _ _ _ => a
  | _ => { posonlyargs := [], args := [], vararg := none, kwonlyargs := [], kw_defaults := [], kwarg := none, defaults := [] }
noncomputable def defBody (s : Stmt) : List Stmt := match s with
  | .FunctionDef _ _ b _ _ _ _ _ _ _ => b
  | _ => []
noncomputable def defScope (s : Stmt) : Scope := match s with
  | .FunctionDef _ _ _ _ _ _ sc _ _ _ => sc
  | _ => { kind := .function, names := [], isGenerator := false, isCoroutine := false }
/-! ### no exception leaves a def -/
noncomputable abbrev CX0 : CXT := fun _ _ _ _ _ _ => False
noncomputable abbrev E0 : XK := fun _ _ _ => False
theorem pass0 {X : Cx} : Passes CX0 X E0 := fun _ _ _ _ _ _ _ h => h.elim
/-! ### a def (or method) of the text as it stands behind the top -/
structure Fun (K : PySem.W.Frag) (x qual : Str) (st : Stmt) (f : Addr) (fd : FuncData) : Prop where
  ex : ∃ (oc : Value) (od : Option Addr) (kV doc pm : Value) (an : Option Addr) (cdv ct : Value) (osl : Array (Option Value)),
    fd = PySem.W.fnOf x qual (defArgs st) (defBody st) (defScope st) .none kV doc pm an cdv ct ∧ K.lookup f = some ⟨oc, od, .func fd, osl⟩ ∧ PySem.W.codeIn K cdv qual = true
  kp : PySem.W.keepIn K (.ref f) = true
section
variable {P : Program} {w : World} {K : PySem.W.Frag} {mg : Str → Option Value} {base : Heap}
/-- THE RULE for a def: its body as a term of rules, and the reading of that term -/
theorem Fun.ok {x qual : Str} {st : Stmt} {f : Addr} {fd : FuncData} {N ps : List Str} {k : Nat} {sp : Sp} (F : Fun K x qual st f fd) (S : FnScope N ps (defScope st)) (len : ∀ vs H Q E, sp vs H Q E → vs.length = ps.length)
    (hbody : ∀ (cdv : Value) (A : Around) (outer : List Env) (s : Shared) (H : Hp) (vs : List V) (Q : VK) (E : XK), Room k (A.deeper (envOfC qual (defScope st) s.heap.objs.size f cdv)) → sp vs H Q E →
      ∃ t, PSs (cxOf CX0 P w K mg base N qual (defScope st) f cdv A outer s H E).nox (defBody st) t ∧ t { nx := fun _ H' => Q .non H', rt := Q } (start N vs) H) : FnOk P w K mg base CX0 (k + 1) f fd ps sp := by
  obtain ⟨oc, od, kV, doc, pm, an, cdv, ct, osl, rfl, lk, hcd⟩ := F.ex
  refine fn_of lk hcd S len fun A outer s H vs Q E hr hsp => ?_
  obtain ⟨t, h, q⟩ := hbody cdv A outer s H vs Q E hr hsp
  exact ⟨t, h.nox, q⟩
/-- how its arguments bind (no defaults): h is «fun _ _ _ _ _ _ us hl => match us, hl with | [_, _], _ => rfl», one _ a parameter -/
theorem Fun.binds {x qual : Str} {st : Stmt} {f : Addr} {fd : FuncData} {ps : List Str} (F : Fun K x qual st f fd)
    (h : ∀ (kV doc pm : Value) (an : Option Addr) (cdv ct : Value) (us : List Value), us.length = ps.length → bindArgs (PySem.W.fnOf x qual (defArgs st) (defBody st) (defScope st) .none kV doc pm an cdv ct) ⟨us, []⟩ = pure (ps.zip us)) : Binds K fd ps [] := by
  obtain ⟨oc, od, kV, doc, pm, an, cdv, ct, osl, rfl, lk, hcd⟩ := F.ex
  exact .all (h kV doc pm an cdv ct)
end
/-! ### expressions in short: the name that stands in the i-th slot -/
section
variable {X : Cx}
theorem pv (i : Nat) {x : Str} {pos : Pos} (hN : X.N[i]? = some x := by rfl) (hv : Vis X.env.scope x := by first | exact Or.inl rfl | exact Or.inr (Or.inl rfl) | exact Or.inr (Or.inr rfl)) (hd : (x == ("__debug__" : Str)) = false := by decide)
    (hcd : (x == ("__classdict__" : Str)) = false := by decide) : PE X (.Name x pos) (tVar i) := pe_var hN hv hd hcd
end
/-! ### tests -/
theorem iteF {A B : Prop} (h : B) : if false = true then A else B := by
  rw [if_neg Bool.false_ne_true]
  exact h
theorem iteT {A B : Prop} (h : A) : if true = true then A else B := by
  rw [if_pos rfl]
  exact h
/-! ### heaps -/
/-- all that was tracked is as it was -/
noncomputable def Same (H H' : Hp) : Prop := ∀ b o, H b = some o → H' b = some o
theorem Same.trans {H H1 H2 : Hp} (a : Same H H1) (b : Same H1 H2) : Same H H2 := fun c o h => b c o (a c o h)
theorem Same.free {H H' : Hp} (e : Same H H') {l : Addr} (h : H' l = Option.none) : H l = Option.none := by
  cases q : H l with
  | none => rfl
  | some o =>
    rw [e l o q] at h
    cases h
theorem Same.seq {K : PySem.W.Frag} {H H' : Hp} {a : Addr} {xs : List V} (e : Same H H') (h : SqL K H a xs) : SqL K H' a xs := by
  rcases h with (h | ⟨o, h⟩) | h
  · exact .inl (.inl (e _ _ h))
  · exact .inl (.inr ⟨o, e _ _ h⟩)
  · exact .inr h
/-! ### a dict's pairs: keys that differ -/
section
variable {κ : Type} [DecidableEq κ]
end
/-! ### lists -/
theorem at_of {xs : List V} {z : Int} {j : Nat} {v : V} (e : z = (j : Int)) (h : xs[j]? = some v) : atI xs z = some v := by
  rw [e]
  exact atI_nat h
end L2
end
section
set_option Elab.async false
set_option linter.all false
/-! The program's defs as total functions over plain lists, and that they are the specification's. -/
namespace Dk
open Uw69 (Turn brings turns headAt Ring)
/-! ### the mirror -/
noncomputable def turnBy (n s : Nat) : List Nat := (List.range n).map fun p => (p + s) % n
noncomputable def turnOver (n s : Nat) : List Nat := (List.range n).map fun p => (s + n - p) % n
noncomputable def allTurns (n : Nat) (o : Bool) : List (List Nat) := (List.range n).map (turnBy n) ++ if o = true then (List.range n).map (turnOver n) else []
noncomputable def turnedTo (l t : List Nat) (k : Nat) : List Nat := (List.range k).foldl (fun b p => b.set (t.getD p 0) (l.getD p 0)) l
noncomputable def turned (l t : List Nat) : List Nat := turnedTo l t l.length
noncomputable def shows0 (l t : List Nat) : Bool := turned l t == l
noncomputable def silentTurns (l : List Nat) (o : Bool) : List (List Nat) := (allTurns l.length o).filter (shows0 l)
noncomputable def silentNumbers (l : List Nat) (o : Bool) : List Nat := (List.range (allTurns l.length o).length).filter fun i => shows0 l ((allTurns l.length o).getD i [])
noncomputable def reached (n : Nat) (ts : List (List Nat)) (p : Nat) : List Nat := (List.range n).filter fun q => (ts.map fun t => t.getD p 0).contains q
noncomputable def alikeP (l : List Nat) (o : Bool) (p : Nat) : List Nat := reached l.length (silentTurns l o) p
noncomputable def toldP (l : List Nat) (o : Bool) : List Nat := (List.range l.length).filter fun p => reached l.length (silentTurns l o) p == [p]
noncomputable def allLooks (l : List Nat) (o : Bool) : List (List Nat) := (allTurns l.length o).map (turned l)
noncomputable def lexLt : List Nat → List Nat → Bool
  | [], [] => false
  | [], _ :: _ => true
  | _ :: _, [] => false
  | x :: xs, y :: ys => if x = y then lexLt xs ys else decide (x < y)
noncomputable def minL : List (List Nat) → List Nat
  | [] => []
  | a :: r => r.foldl (fun m l => if lexLt l m = true then l else m) a
noncomputable def formOf (l : List Nat) (o : Bool) : List Nat := minL (allLooks l o)
/-! ### places of a turn -/
noncomputable def places (n : Nat) (x : Turn) : List Nat := (List.range n).map (brings n x)
theorem allTurns_eq (n : Nat) (o : Bool) : allTurns n o = (turns n o).map (places n) := by
  unfold allTurns turns
  rw [List.map_append, List.map_map]
  congr 1
  cases o
  · rfl
  · simp only [if_true, List.map_map]
    rfl
theorem places_length (n : Nat) (x : Turn) : (places n x).length = n := by simp [places]
theorem places_getD {n p : Nat} (x : Turn) (h : p < n) : (places n x).getD p 0 = brings n x p := by
  simp [places, List.getD, h]
theorem mem_turns {n : Nat} {o : Bool} {x : Turn} (h : x ∈ turns n o) : x.1 < n ∧ (x.2 = true → o = true) := by
  unfold turns at h
  rcases List.mem_append.mp h with h | h
  · obtain ⟨t, ht, rfl⟩ := List.mem_map.mp h
    exact ⟨List.mem_range.mp ht, fun q => absurd q (by simp)⟩
  · cases o with
    | false => simp at h
    | true =>
      simp only [if_true] at h
      obtain ⟨t, ht, rfl⟩ := List.mem_map.mp h
      exact ⟨List.mem_range.mp ht, fun _ => rfl⟩
theorem mod2 {a n : Nat} (h : a < n + n) : a % n = a ∨ a % n + n = a := by
  rcases Nat.lt_or_ge a n with h1 | h1
  · exact .inl (Nat.mod_eq_of_lt h1)
  · rw [Nat.mod_eq_sub_mod h1, Nat.mod_eq_of_lt (Nat.sub_lt_left_of_lt_add h1 h)]
    exact .inr (Nat.sub_add_cancel h1)
theorem two_ways {n a b p s : Nat} (ha : a < n) (hb : b < n) (h1 : p + a = s ∨ p + a = s + n) (h2 : p + b = s ∨ p + b = s + n) : a = b := by
  omega
theorem back_mod {n s p : Nat} (hs : s < n) (hp : p < n) : p + (s + n - p) % n = s ∨ p + (s + n - p) % n = s + n := by
  have h := mod2 (a := s + n - p) (n := n) (Nat.lt_of_le_of_lt (Nat.sub_le _ _) (Nat.add_lt_add_right hs n))
  revert h
  generalize (s + n - p) % n = b
  omega
theorem brings_lt {n : Nat} (x : Turn) (p : Nat) (h : 0 < n) : brings n x p < n := by
  unfold brings
  split <;> exact Nat.mod_lt _ h
theorem brings_inj {n : Nat} {x : Turn} {p q : Nat} (hx : x.1 < n) (hp : p < n) (hq : q < n) (e : brings n x p = brings n x q) : p = q := by
  unfold brings at e
  split at e
  · have h1 := back_mod hx hp
    have h2 := back_mod hx hq
    rw [← e] at h2
    rw [Nat.add_comm] at h1 h2
    exact two_ways hp hq h1 h2
  · have h1 := mod2 (Nat.add_lt_add hp hx)
    have h2 := mod2 (Nat.add_lt_add hq hx)
    rw [← e] at h2
    exact two_ways hp hq (h1.imp (fun z => (Nat.add_comm _ _).trans z.symm) fun z => (Nat.add_comm _ _).trans z.symm) (h2.imp (fun z => (Nat.add_comm _ _).trans z.symm) fun z => (Nat.add_comm _ _).trans z.symm)
theorem brings_onto {n : Nat} {x : Turn} {q : Nat} (hx : x.1 < n) (hq : q < n) : ∃ p, p < n ∧ brings n x p = q := by
  have hn := Nat.zero_lt_of_lt hx
  unfold brings
  cases hx2 : x.2 with
  | true =>
    refine ⟨(x.1 + n - q) % n, Nat.mod_lt _ hn, ?_⟩
    rw [if_pos rfl]
    have h1 := back_mod hx hq
    rw [Nat.add_comm] at h1
    exact two_ways (Nat.mod_lt _ hn) hq (back_mod hx (Nat.mod_lt _ hn)) h1
  | false =>
    refine ⟨(q + n - x.1) % n, Nat.mod_lt _ hn, ?_⟩
    rw [if_neg Bool.false_ne_true, Nat.add_comm]
    rcases back_mod hq hx with h | h <;> rw [h]
    · exact Nat.mod_eq_of_lt hq
    · rw [Nat.add_mod_right]
      exact Nat.mod_eq_of_lt hq
/-! ### turned -/
theorem turnedTo_succ (l t : List Nat) (k : Nat) : turnedTo l t (k + 1) = (turnedTo l t k).set (t.getD k 0) (l.getD k 0) := by
  unfold turnedTo
  rw [List.range_succ, List.foldl_append]
  rfl
theorem turnedTo_length (l t : List Nat) (k : Nat) : (turnedTo l t k).length = l.length := by
  induction k with
  | zero => rfl
  | succ k ih => rw [turnedTo_succ, List.length_set, ih]
theorem turned_length (l t : List Nat) : (turned l t).length = l.length := turnedTo_length l t _
theorem turnedTo_at {l : List Nat} {x : Turn} (hx : x.1 < l.length) {p : Nat} (hp : p < l.length) : ∀ k, k ≤ l.length → p < k → (turnedTo l (places l.length x) k)[brings l.length x p]? = some (l.getD p 0) := by
  intro k
  induction k with
  | zero => intro _ h; omega
  | succ k ih =>
    intro hk hpk
    rw [turnedTo_succ, places_getD x (by omega)]
    by_cases e : p = k
    · subst e
      rw [List.getElem?_set_self]
      rw [turnedTo_length]
      exact brings_lt x p (by omega)
    · rw [List.getElem?_set_ne]
      · exact ih (by omega) (by omega)
      · intro q
        exact e (brings_inj hx hp (by omega) q.symm)
theorem find_brings {n : Nat} {x : Turn} {p : Nat} (hx : x.1 < n) (hp : p < n) : ((List.range n).find? fun p' => brings n x p' == brings n x p) = some p := by
  cases e : (List.range n).find? fun p' => brings n x p' == brings n x p with
  | none =>
    have := List.find?_eq_none.mp e p (List.mem_range.mpr hp)
    simp at this
  | some p' =>
    have h1 := List.find?_some e
    have h2 := List.mem_range.mp (List.mem_of_find?_eq_some e)
    simp only [beq_iff_eq] at h1
    rw [brings_inj hx h2 hp h1]
theorem turned_eq {l : List Nat} {x : Turn} (hx : x.1 < l.length) : turned l (places l.length x) = Uw69.turned l x := by
  refine List.ext_getElem? fun q => ?_
  by_cases hq : q < l.length
  · obtain ⟨p, hp, e⟩ := brings_onto hx hq
    subst e
    rw [show turned l (places l.length x) = turnedTo l (places l.length x) l.length from rfl, turnedTo_at hx hp _ (Nat.le_refl _) hp]
    unfold Uw69.turned
    rw [List.getElem?_map, List.getElem?_range hq]
    show _ = some (((List.range l.length).find? fun p' => brings l.length x p' == brings l.length x p).elim 0 (headAt l))
    rw [find_brings hx hp]
    rfl
  · rw [List.getElem?_eq_none (by rw [turned_length]; omega), List.getElem?_eq_none (by unfold Uw69.turned; rw [List.length_map, List.length_range]; omega)]
theorem shows0_eq {l : List Nat} {x : Turn} (hx : x.1 < l.length) : shows0 l (places l.length x) = Uw69.showsNothing l x := by
  unfold shows0 Uw69.showsNothing
  rw [turned_eq hx]
theorem filter_map_of {α β : Type} {f : α → β} {p : β → Bool} {q : α → Bool} : ∀ {l : List α}, (∀ a ∈ l, p (f a) = q a) → (l.map f).filter p = (l.filter q).map f
  | [], _ => rfl
  | a :: l, h => by
    rw [List.map_cons, List.filter_cons, List.filter_cons, h a List.mem_cons_self, filter_map_of fun b hb => h b (List.mem_cons_of_mem _ hb)]
    split <;> rfl
theorem silentTurns_eq (l : List Nat) (o : Bool) : silentTurns l o = (Uw69.silent ⟨o, l⟩).map (places l.length) := by
  unfold silentTurns Uw69.silent
  rw [allTurns_eq]
  exact filter_map_of fun x hx => shows0_eq (mem_turns hx).1
theorem turns_length (n : Nat) (o : Bool) : (turns n o).length = (allTurns n o).length := by rw [allTurns_eq, List.length_map]
theorem silentNumbers_eq (l : List Nat) (o : Bool) : silentNumbers l o = (List.range (turns l.length o).length).filter fun i => Uw69.showsNothing l ((turns l.length o).getD i (0, false)) := by
  unfold silentNumbers
  rw [turns_length]
  refine List.filter_congr fun i hi => ?_
  have hi := List.mem_range.mp hi
  have hi' : i < (turns l.length o).length := by rw [turns_length]; exact hi
  have e : (allTurns l.length o).getD i [] = places l.length ((turns l.length o).getD i (0, false)) := by
    rw [List.getD_eq_getElem?_getD, List.getD_eq_getElem?_getD, allTurns_eq, List.getElem?_map, List.getElem?_eq_getElem hi']
    rfl
  rw [e]
  refine shows0_eq (mem_turns (o := o) ?_).1
  rw [List.getD_eq_getElem?_getD, List.getElem?_eq_getElem hi']
  exact List.getElem_mem hi'
theorem reached_eq (l : List Nat) (xs : List Turn) {p : Nat} (hp : p < l.length) : reached l.length (xs.map (places l.length)) p = (List.range l.length).filter fun q => xs.any fun x => brings l.length x p == q := by
  unfold reached
  refine List.filter_congr fun q _ => ?_
  rw [List.map_map]
  rw [Bool.eq_iff_iff, List.contains_iff_mem, List.any_eq_true, List.mem_map]
  constructor
  · rintro ⟨x, hx, e⟩
    refine ⟨x, hx, beq_iff_eq.mpr ?_⟩
    rw [← e]
    exact (places_getD x hp).symm
  · rintro ⟨x, hx, e⟩
    exact ⟨x, hx, (places_getD x hp).trans (beq_iff_eq.mp e)⟩
theorem alikeP_eq (l : List Nat) (o : Bool) {p : Nat} (hp : p < l.length) : alikeP l o p = Uw69.alike ⟨o, l⟩ p := by
  unfold alikeP
  rw [silentTurns_eq]
  exact reached_eq l _ hp
theorem toldP_eq (l : List Nat) (o : Bool) : toldP l o = Uw69.told ⟨o, l⟩ := by
  unfold toldP Uw69.told
  refine List.filter_congr fun p hp => ?_
  have e := alikeP_eq l o (List.mem_range.mp hp)
  unfold alikeP at e
  rw [e]
  rfl
theorem allLooks_eq (l : List Nat) (o : Bool) : allLooks l o = (turns l.length o).map (Uw69.turned l) := by
  unfold allLooks
  rw [allTurns_eq, List.map_map]
  exact List.map_congr_left fun x hx => turned_eq (mem_turns hx).1
theorem contains_any {l : List Nat} {ls : List (List Nat)} : ls.contains l = ls.any fun x => x == l := by
  rw [Bool.eq_iff_iff, List.contains_iff_mem, List.any_eq_true]
  constructor
  · intro h; exact ⟨l, h, beq_self_eq_true l⟩
  · rintro ⟨x, hx, e⟩; rw [← beq_iff_eq.mp e]; exact hx
theorem looks_eq (l : List Nat) (o : Bool) (m : List Nat) : (allLooks l o).contains m = Uw69.looksLike ⟨o, l⟩ m := by
  rw [contains_any, allLooks_eq, List.any_map]
  rfl
/-! ### the form -/
theorem lexLt_lower : ∀ {a b : List Nat}, a.length = b.length → lexLt a b = Uw69.lower a b
  | [], [], _ => rfl
  | [], _ :: _, h => by simp at h
  | _ :: _, [], h => by simp at h
  | x :: a, y :: b, h => by
    have ih := lexLt_lower (a := a) (b := b) (by simpa using h)
    unfold lexLt Uw69.lower
    rw [ih]
    by_cases e : x = y
    · subst e; simp
    · simp [e]
theorem foldl_lex {n : Nat} : ∀ (ls : List (List Nat)) (m : List Nat), m.length = n → (∀ l ∈ ls, l.length = n) →
    ls.foldl (fun m l => if lexLt l m = true then l else m) m = ls.foldl (fun m l => if Uw69.lower l m = true then l else m) m
  | [], _, _, _ => rfl
  | l :: ls, m, hm, h => by
    have hl := h l List.mem_cons_self
    rw [List.foldl_cons, List.foldl_cons, lexLt_lower (hl.trans hm.symm)]
    refine foldl_lex ls _ ?_ fun x hx => h x (List.mem_cons_of_mem _ hx)
    split
    · exact hl
    · exact hm
theorem turned0 (l : List Nat) : Uw69.turned l (0, false) = l := by
  by_cases h0 : l.length = 0
  · have : l = [] := List.eq_nil_of_length_eq_zero h0
    subst this; rfl
  · refine List.ext_getElem? fun q => ?_
    by_cases hq : q < l.length
    · rw [← turned_eq (x := (0, false)) (show 0 < l.length by omega)]
      have e : brings l.length (0, false) q = q := by unfold brings; rw [if_neg (by simp)]; exact Nat.mod_eq_of_lt hq
      have := turnedTo_at (x := (0, false)) (show 0 < l.length by omega) hq l.length (Nat.le_refl _) hq
      rw [e] at this
      rw [show turned l (places l.length (0, false)) = turnedTo l (places l.length (0, false)) l.length from rfl, this]
      simp [List.getD, hq]
    · rw [List.getElem?_eq_none (by unfold Uw69.turned; rw [List.length_map, List.length_range]; omega), List.getElem?_eq_none (by omega)]
theorem turns_cons {n : Nat} (h : 0 < n) (o : Bool) : ∃ r, turns n o = (0, false) :: r := by
  obtain ⟨m, rfl⟩ : ∃ m, n = m + 1 := ⟨n - 1, by omega⟩
  unfold turns
  rw [List.range_succ_eq_map]
  exact ⟨_, rfl⟩
theorem formOf_eq {l : List Nat} (h : 0 < l.length) (o : Bool) : formOf l o = Uw69.form ⟨o, l⟩ := by
  unfold formOf Uw69.form
  rw [allLooks_eq]
  obtain ⟨r, e⟩ := turns_cons h o
  show minL _ = (((turns l.length o).map (Uw69.turned l))).foldl _ l
  rw [e, List.map_cons, turned0]
  show (r.map (Uw69.turned l)).foldl _ l = _
  rw [List.foldl_cons, show (if Uw69.lower l l = true then l else l) = l by split <;> rfl]
  refine foldl_lex _ l rfl fun m hm => ?_
  obtain ⟨x, _, rfl⟩ := List.mem_map.mp hm
  unfold Uw69.turned
  rw [List.length_map, List.length_range]
theorem silent_first {l : List Nat} (h : 0 < l.length) (o : Bool) : ∃ r, silentTurns l o = places l.length (0, false) :: r := by
  rw [silentTurns_eq]
  obtain ⟨r, e⟩ := turns_cons h o
  unfold Uw69.silent
  show ∃ r', (((turns l.length o)).filter (Uw69.showsNothing l)).map _ = _
  rw [e, List.filter_cons, if_pos (by unfold Uw69.showsNothing; rw [turned0]; exact beq_self_eq_true l)]
  exact ⟨_, rfl⟩
theorem silent_len {l : List Nat} {o : Bool} {t : List Nat} (h : t ∈ silentTurns l o) : t.length = l.length := by
  rw [silentTurns_eq] at h
  obtain ⟨x, _, rfl⟩ := List.mem_map.mp h
  exact places_length _ _
theorem allTurns_mem {n : Nat} {o : Bool} {t : List Nat} (hn : 0 < n) (h : t ∈ allTurns n o) : t.length = n ∧ ∀ p ∈ t, p < n := by
  rw [allTurns_eq] at h
  obtain ⟨x, _, rfl⟩ := List.mem_map.mp h
  refine ⟨places_length _ _, fun p hp => ?_⟩
  unfold places at hp
  obtain ⟨q, _, rfl⟩ := List.mem_map.mp hp
  exact brings_lt x q hn
end Dk
end
section
set_option Elab.async false
set_option linter.all false
namespace Dk
open Uw69 (Turn brings turns headAt Ring)
/-! ### felt -/
noncomputable def feltT (l : List Nat) (last : Nat) (step : Int) (m : Nat) : List Nat := (List.range m).map fun (j : Nat) => l.getD (((last : Int) - step * ((m : Int) - 1) + step * (j : Int)) % (l.length : Int)).toNat 0
noncomputable def allFelt (l : List Nat) (o : Bool) (last m : Nat) : List (List Nat) := if o = true then [feltT l last 1 m, feltT l last (-1) m] else [feltT l last 1 m]
noncomputable def lastP (l : List Nat) (o : Bool) (f : List Nat) : List Nat := (List.range l.length).filter fun last => (allFelt l o last f.length).contains f
noncomputable def isSure (l : List Nat) (o : Bool) (m : Nat) : Bool := (List.range l.length).all fun last => (allFelt l o last m).all fun f => lastP l o f == [last]
noncomputable def leastSure (l : List Nat) (o : Bool) : Option Nat := ((List.range l.length).map fun m => m + 1).find? (isSure l o)
/-- the last place of a walk from s -/
noncomputable def lastOf (n s m : Nat) (down : Bool) : Nat := if down = true then (s + n * m - (m - 1)) % n else (s + (m - 1)) % n
theorem walk_last {l : List Nat} {s m : Nat} {down : Bool} (hm : 0 < m) : (Uw69.walk l s m down).getLast? = some (lastOf l.length s m down) := by
  obtain ⟨k, rfl⟩ : ∃ k, m = k + 1 := ⟨m - 1, by omega⟩
  unfold Uw69.walk lastOf
  rw [List.range_succ, List.map_append, List.getLast?_append]
  cases down <;> rfl
/-- places as ints: a walk that ends at q -/
theorem imod_at {n x b : Nat} {c : Int} (h : (x : Int) + c = (b : Int)) : ((((x % n : Nat) : Int) + c) % (n : Int)).toNat = b % n := by
  rw [Int.natCast_emod, Int.emod_add_emod, h, ← Int.natCast_emod, Int.toNat_natCast]
theorem feels_up {r : Ring} {s m : Nat} (hm : 0 < m) : Uw69.feels r (Uw69.walk r.heads s m false) = feltT r.heads (lastOf r.heads.length s m false) 1 m := by
  unfold Uw69.feels Uw69.walk feltT
  rw [List.map_map]
  refine List.map_congr_left fun j hj => ?_
  clear hj
  show headAt r.heads ((s + j) % r.heads.length) = _
  unfold headAt lastOf
  congr 1
  rw [if_neg Bool.false_ne_true, Int.sub_eq_add_neg, Int.add_assoc]
  refine (imod_at ?_).symm
  omega
theorem feels_down {r : Ring} {s m : Nat} (hn : 0 < r.heads.length) (hm : 0 < m) : Uw69.feels r (Uw69.walk r.heads s m true) = feltT r.heads (lastOf r.heads.length s m true) (-1) m := by
  unfold Uw69.feels Uw69.walk feltT
  rw [List.map_map]
  refine List.map_congr_left fun j hj => ?_
  have hj := List.mem_range.mp hj
  show headAt r.heads ((s + r.heads.length * m - j) % r.heads.length) = _
  unfold headAt lastOf
  congr 1
  rw [if_pos rfl, Int.sub_eq_add_neg, Int.add_assoc]
  refine (imod_at ?_).symm
  have hle : m ≤ r.heads.length * m := Nat.le_mul_of_pos_left m hn
  obtain ⟨e, he⟩ := Nat.le.dest hle
  obtain ⟨k, rfl⟩ := Nat.exists_eq_succ_of_ne_zero (Nat.pos_iff_ne_zero.mp hm)
  obtain ⟨d, rfl⟩ := Nat.le.dest (Nat.le_of_lt_succ hj)
  rw [← he, show s + ((j + d).succ + e) - ((j + d).succ - 1) = s + 1 + e by omega, show s + ((j + d).succ + e) - j = s + d + 1 + e by omega]
  clear he hle hj hm hn
  omega
theorem lastOf_lt {n s m : Nat} {d : Bool} (hn : 0 < n) : lastOf n s m d < n := by
  unfold lastOf
  split <;> exact Nat.mod_lt _ hn
/-- every place is a walk's last one -/
theorem lastOf_onto {n m q : Nat} (d : Bool) (hq : q < n) (hm : 0 < m) : ∃ s, s < n ∧ lastOf n s m d = q := by
  have hn : 0 < n := Nat.zero_lt_of_lt hq
  have hle : m ≤ n * m := Nat.le_mul_of_pos_left m hn
  cases d with
  | true =>
    refine ⟨(q + (m - 1)) % n, Nat.mod_lt _ hn, ?_⟩
    unfold lastOf
    rw [if_pos rfl]
    obtain ⟨e, he⟩ := Nat.le.dest (Nat.le_trans (Nat.sub_le m 1) hle)
    have h := imod_at (n := n) (x := q + (m - 1)) (b := q + n * m) (c := (e : Int)) (by rw [← he, ← Int.natCast_add, Nat.add_assoc])
    rw [← Int.natCast_add, ← Int.natCast_emod, Int.toNat_natCast] at h
    rw [Nat.add_mul_mod_self_left, Nat.mod_eq_of_lt hq] at h
    rw [← he, Nat.add_comm (m - 1) e, ← Nat.add_assoc, Nat.add_sub_cancel]
    exact h
  | false =>
    refine ⟨(q + n * m - (m - 1)) % n, Nat.mod_lt _ hn, ?_⟩
    unfold lastOf
    rw [if_neg Bool.false_ne_true, Nat.mod_add_mod]
    rw [Nat.sub_add_cancel (Nat.le_trans (Nat.sub_le m 1) (Nat.le_trans hle (Nat.le_add_left _ _))), Nat.add_mul_mod_self_left, Nat.mod_eq_of_lt hq]
theorem mem_ways {r : Ring} {m : Nat} {w : List Nat} : w ∈ Uw69.ways_ r m ↔ ∃ s d, s < r.heads.length ∧ (d = true → r.over = true) ∧ w = Uw69.walk r.heads s m d := by
  unfold Uw69.ways_
  rw [List.mem_flatMap]
  constructor
  · rintro ⟨s, hs, hw⟩
    have hs := List.mem_range.mp hs
    rcases List.mem_cons.mp hw with e | hw
    · exact ⟨s, false, hs, fun q => absurd q (by simp), e⟩
    · split at hw
      · exact ⟨s, true, hs, fun _ => by assumption, List.mem_singleton.mp hw⟩
      · simp at hw
  · rintro ⟨s, d, hs, hd, rfl⟩
    refine ⟨s, List.mem_range.mpr hs, ?_⟩
    cases d with
    | false => exact List.mem_cons_self
    | true => exact List.mem_cons_of_mem _ (by rw [if_pos (hd rfl)]; exact List.mem_singleton.mpr rfl)
noncomputable def stepOf (d : Bool) : Int := if d = true then -1 else 1
theorem feels_walk {r : Ring} {s m : Nat} (d : Bool) (hs : s < r.heads.length) (hm : 0 < m) : Uw69.feels r (Uw69.walk r.heads s m d) = feltT r.heads (lastOf r.heads.length s m d) (stepOf d) m := by
  cases d
  · exact feels_up hm
  · exact feels_down (Nat.zero_lt_of_lt hs) hm
theorem mem_allFelt {l : List Nat} {o : Bool} {q m : Nat} {f : List Nat} : f ∈ allFelt l o q m ↔ ∃ d, (d = true → o = true) ∧ f = feltT l q (stepOf d) m := by
  unfold allFelt
  constructor
  · intro h
    split at h
    · rcases List.mem_cons.mp h with e | h
      · exact ⟨false, fun q => absurd q (by simp), e⟩
      · exact ⟨true, fun _ => by assumption, List.mem_singleton.mp h⟩
    · exact ⟨false, fun q => absurd q (by simp), List.mem_singleton.mp h⟩
  · rintro ⟨d, hd, rfl⟩
    cases d with
    | false =>
      split
      · exact List.mem_cons_self
      · exact List.mem_singleton.mpr rfl
    | true =>
      rw [if_pos (hd rfl)]
      exact List.mem_cons_of_mem _ (List.mem_singleton.mpr rfl)
theorem lastP_eq {r : Ring} {f : List Nat} (hf : 0 < f.length) : lastP r.heads r.over f = Uw69.lasts r f := by
  unfold lastP Uw69.lasts
  refine List.filter_congr fun q hq => ?_
  have hq := List.mem_range.mp hq
  rw [Bool.eq_iff_iff, List.contains_iff_mem, List.any_eq_true, mem_allFelt]
  constructor
  · rintro ⟨d, hd, e⟩
    obtain ⟨s, hs, el⟩ := lastOf_onto d hq hf
    refine ⟨Uw69.walk r.heads s f.length d, mem_ways.mpr ⟨s, d, hs, hd, rfl⟩, ?_⟩
    rw [Bool.and_eq_true, beq_iff_eq, beq_iff_eq, walk_last hf, feels_walk d hs hf, el]
    exact ⟨e.symm, rfl⟩
  · rintro ⟨w, hw, h⟩
    obtain ⟨s, d, hs, hd, rfl⟩ := mem_ways.mp hw
    rw [Bool.and_eq_true, beq_iff_eq, beq_iff_eq, walk_last hf, feels_walk d hs hf] at h
    obtain ⟨h1, h2⟩ := h
    have h2 := Option.some.inj h2
    rw [h2] at h1
    exact ⟨d, hd, h1.symm⟩
theorem feltT_length (l : List Nat) (q : Nat) (z : Int) (m : Nat) : (feltT l q z m).length = m := by simp [feltT]
theorem lastP_mem {l : List Nat} {o : Bool} {q m : Nat} {f : List Nat} (hq : q < l.length) (h : f ∈ allFelt l o q m) : q ∈ lastP l o f := by
  have hl : f.length = m := by
    obtain ⟨d, _, rfl⟩ := mem_allFelt.mp h
    exact feltT_length _ _ _ _
  unfold lastP
  refine List.mem_filter.mpr ⟨List.mem_range.mpr hq, ?_⟩
  rw [List.contains_iff_mem, hl]
  exact h
theorem one_of {q : Nat} {l : List Nat} (h : q ∈ l) : (l.length == 1) = (l == [q]) := by
  match l, h with
  | [a], h =>
    have : q = a := List.mem_singleton.mp h
    subst this
    simp
  | a :: b :: r, _ => simp
theorem isSure_eq {r : Ring} {m : Nat} (hm : 0 < m) : isSure r.heads r.over m = Uw69.enough r m := by
  unfold isSure Uw69.enough
  rw [Bool.eq_iff_iff, List.all_eq_true, List.all_eq_true]
  constructor
  · intro h w hw
    obtain ⟨s, d, hs, hd, rfl⟩ := mem_ways.mp hw
    have hn : 0 < r.heads.length := by omega
    have hL := lastOf_lt (n := r.heads.length) (s := s) (m := m) (d := d) hn
    have h1 := List.all_eq_true.mp (h _ (List.mem_range.mpr hL)) _ (mem_allFelt.mpr ⟨d, hd, rfl⟩)
    rw [feels_walk d hs hm, ← lastP_eq (by rw [feltT_length]; exact hm), one_of (lastP_mem hL (mem_allFelt.mpr ⟨d, hd, rfl⟩))]
    exact h1
  · intro h q hq
    have hq := List.mem_range.mp hq
    rw [List.all_eq_true]
    intro f hf
    obtain ⟨d, hd, rfl⟩ := mem_allFelt.mp hf
    obtain ⟨s, hs, el⟩ := lastOf_onto d hq hm
    have h1 := h _ (mem_ways.mpr ⟨s, d, hs, hd, rfl⟩)
    rw [feels_walk d hs hm, el, ← lastP_eq (by rw [feltT_length]; exact hm), one_of (lastP_mem hq hf)] at h1
    exact h1
/-! more than all keys say nothing new -/
theorem feltT_back {l : List Nat} {q m j : Nat} {z : Int} (hj : j < m) : (feltT l q z m)[m - 1 - j]? = some (l.getD (((q : Int) - z * (j : Int)) % (l.length : Int)).toNat 0) := by
  unfold feltT
  rw [List.getElem?_map, List.getElem?_range (by omega)]
  show some _ = some _
  have : ((m - 1 - j : Nat) : Int) = (m : Int) - 1 - (j : Int) := by omega
  have e : (q : Int) - z * ((m : Int) - 1) + z * ((m - 1 - j : Nat) : Int) = (q : Int) - z * (j : Int) := by
    rw [this, Int.mul_sub z ((m : Int) - 1)]
    omega
  show some (l.getD (((q : Int) - z * ((m : Int) - 1) + z * ((m - 1 - j : Nat) : Int)) % (l.length : Int)).toNat 0) = _
  rw [e]
theorem feltT_ext {l : List Nat} {q q' m : Nat} {z z' : Int} : feltT l q z m = feltT l q' z' m ↔ ∀ j, j < m → l.getD (((q : Int) - z * (j : Int)) % (l.length : Int)).toNat 0 = l.getD (((q' : Int) - z' * (j : Int)) % (l.length : Int)).toNat 0 := by
  constructor
  · intro h j hj
    have h1 := feltT_back (l := l) (q := q) (z := z) hj
    rw [h, feltT_back hj] at h1
    exact (Option.some.inj h1).symm
  · intro h
    refine List.ext_getElem? fun i => ?_
    by_cases hi : i < m
    · have h1 := feltT_back (l := l) (q := q) (z := z) (show m - 1 - i < m by omega)
      have h2 := feltT_back (l := l) (q := q') (z := z') (show m - 1 - i < m by omega)
      rw [show m - 1 - (m - 1 - i) = i by omega] at h1 h2
      rw [h1, h2, h _ (by omega)]
    · rw [List.getElem?_eq_none (by rw [feltT_length]; omega), List.getElem?_eq_none (by rw [feltT_length]; omega)]
theorem round_again {n : Nat} (q z : Int) (j : Nat) : (q - z * ((j : Nat) : Int)) % (n : Int) = (q - z * ((j % n : Nat) : Int)) % (n : Int) := by
  have e : ((j : Nat) : Int) = ((j % n : Nat) : Int) + (n : Int) * ((j / n : Nat) : Int) := by
    have := Nat.mod_add_div j n
    rw [← Int.natCast_mul, ← Int.natCast_add, this]
  have : q - z * ((j : Nat) : Int) = (q - z * ((j % n : Nat) : Int)) + (n : Int) * (-(z * ((j / n : Nat) : Int))) := by
    rw [e, Int.mul_add, Int.mul_neg, ← Int.mul_assoc, ← Int.mul_assoc, Int.mul_comm (n : Int) z]
    omega
  rw [this, Int.add_mul_emod_self_left]
theorem feltT_more {l : List Nat} {q q' m : Nat} {z z' : Int} (hn : 0 < l.length) (hm : l.length ≤ m) : feltT l q z m = feltT l q' z' m ↔ feltT l q z l.length = feltT l q' z' l.length := by
  rw [feltT_ext, feltT_ext]
  constructor
  · intro h j hj
    exact h j (by omega)
  · intro h j hj
    rw [round_again, round_again (q' : Int)]
    exact h _ (Nat.mod_lt _ hn)
theorem lastP_more {l : List Nat} {o : Bool} {q m : Nat} {d : Bool} (hn : 0 < l.length) (hm : l.length ≤ m) : lastP l o (feltT l q (stepOf d) m) = lastP l o (feltT l q (stepOf d) l.length) := by
  unfold lastP
  refine List.filter_congr fun p _ => ?_
  rw [Bool.eq_iff_iff, List.contains_iff_mem, List.contains_iff_mem, mem_allFelt, mem_allFelt, feltT_length, feltT_length]
  constructor
  · rintro ⟨d', hd', e⟩
    exact ⟨d', hd', (feltT_more hn hm).mp e⟩
  · rintro ⟨d', hd', e⟩
    exact ⟨d', hd', (feltT_more hn hm).mpr e⟩
theorem isSure_more {l : List Nat} {o : Bool} {m : Nat} (hn : 0 < l.length) (hm : l.length ≤ m) : isSure l o m = isSure l o l.length := by
  unfold isSure
  rw [Bool.eq_iff_iff, List.all_eq_true, List.all_eq_true]
  constructor
  · intro h q hq
    have h1 := List.all_eq_true.mp (h q hq)
    rw [List.all_eq_true]
    intro f hf
    obtain ⟨d, hd, rfl⟩ := mem_allFelt.mp hf
    have h2 := h1 _ (mem_allFelt.mpr ⟨d, hd, rfl⟩)
    rw [lastP_more hn hm] at h2
    exact h2
  · intro h q hq
    have h1 := List.all_eq_true.mp (h q hq)
    rw [List.all_eq_true]
    intro f hf
    obtain ⟨d, hd, rfl⟩ := mem_allFelt.mp hf
    have h2 := h1 _ (mem_allFelt.mpr ⟨d, hd, rfl⟩)
    rw [← lastP_more hn hm] at h2
    exact h2
theorem leastSure_eq {r : Ring} (hn : 0 < r.heads.length) : leastSure r.heads r.over = Uw69.sure r := by
  unfold leastSure Uw69.sure
  have e : (List.range (2 * r.heads.length)).map (fun m => m + 1) = (List.range r.heads.length).map (fun m => m + 1) ++ (List.range r.heads.length).map (fun m => r.heads.length + m + 1) := by
    rw [show 2 * r.heads.length = r.heads.length + r.heads.length by omega, List.range_add, List.map_append, List.map_map]
    rfl
  rw [e, List.find?_append]
  have e1 : ((List.range r.heads.length).map fun m => m + 1).find? (isSure r.heads r.over) = ((List.range r.heads.length).map fun m => m + 1).find? (Uw69.enough r) := by
    have : ∀ (l : List Nat), (∀ m ∈ l, 0 < m) → l.find? (isSure r.heads r.over) = l.find? (Uw69.enough r) := by
      intro l
      induction l with
      | nil => intro _; rfl
      | cons a l ih =>
        intro h
        rw [List.find?_cons, List.find?_cons, isSure_eq (h a List.mem_cons_self), ih fun m hm => h m (List.mem_cons_of_mem _ hm)]
    refine this _ fun m hm => ?_
    obtain ⟨k, _, rfl⟩ := List.mem_map.mp hm
    omega
  rw [← e1]
  cases q : ((List.range r.heads.length).map fun m => m + 1).find? (isSure r.heads r.over) with
  | some m => rfl
  | none =>
    symm
    show ((List.range r.heads.length).map fun m => r.heads.length + m + 1).find? (Uw69.enough r) = none
    rw [List.find?_eq_none]
    intro m hm
    obtain ⟨k, _, rfl⟩ := List.mem_map.mp hm
    rw [← isSure_eq (by omega), isSure_more hn (by omega)]
    have := List.find?_eq_none.mp q r.heads.length (List.mem_map.mpr ⟨r.heads.length - 1, List.mem_range.mpr (by omega), by omega⟩)
    exact this
end Dk
end
section
set_option Elab.async false
set_option linter.all false
namespace Dk
open Uw69 (Turn brings turns headAt Ring)
/-! ### the rings of so many keys -/
noncomputable def longer (k : Nat) (rs : List (List Nat)) : List (List Nat) := rs.flatMap fun h => (List.range k).map fun x => h ++ [x]
noncomputable def allRings (k : Nat) : Nat → List (List Nat)
  | 0 => [[]]
  | n + 1 => longer k (allRings k n)
noncomputable def moving (n : Nat) (o : Bool) : List (List Nat) := (allTurns n o).filter fun t => !(t == List.range n)
noncomputable def isGood (l : List Nat) (mv : List (List Nat)) : Bool := mv.all fun t => !shows0 l t
noncomputable def goodRings (n : Nat) (o : Bool) (k : Nat) : List (List Nat) := (allRings k n).filter fun l => isGood l (moving n o)
noncomputable def isForm (l : List Nat) (ts : List (List Nat)) : Bool := l == minL (ts.map (turned l))
noncomputable def countForms (rs : List (List Nat)) (n : Nat) (o : Bool) : Nat := (rs.filter fun l => isForm l (allTurns n o)).length
noncomputable def diffs (a b : List Nat) : Nat := ((List.range a.length).filter fun p => a.getD p 0 != b.getD p 0).length
/-- the first of the least key -/
noncomputable def bestBy (f : List Nat → Nat) : List (List Nat) → List Nat
  | [] => []
  | a :: r => r.foldl (fun m l => if f l < f m then l else m) a
theorem longer_map (k : Nat) (h : Nat) (rs : List (List Nat)) : longer k (rs.map fun l => h :: l) = (longer k rs).map fun l => h :: l := by
  unfold longer
  rw [List.flatMap_map, List.map_flatMap]
  congr 1
  funext l
  rw [List.map_map]
  rfl
theorem longer_flatMap (k : Nat) {α : Type} (g : α → List (List Nat)) : ∀ l : List α, longer k (l.flatMap g) = l.flatMap fun a => longer k (g a)
  | [] => rfl
  | a :: l => by
    rw [List.flatMap_cons, List.flatMap_cons, ← longer_flatMap k g l]
    unfold longer
    rw [List.flatMap_append]
theorem allRings_eq (k : Nat) : ∀ n, allRings k n = Uw69.rows k n
  | 0 => rfl
  | 1 => by
    show longer k [[]] = (List.range k).flatMap fun h => [[]].map fun l => h :: l
    unfold longer
    simp only [List.flatMap_cons, List.flatMap_nil, List.append_nil, List.nil_append, List.map_cons, List.map_nil]
    induction List.range k with
    | nil => rfl
    | cons a l ih => rw [List.flatMap_cons, List.map_cons, ih]; rfl
  | n + 2 => by
    show longer k (allRings k (n + 1)) = (List.range k).flatMap fun h => (Uw69.rows k (n + 1)).map fun l => h :: l
    rw [allRings_eq k (n + 1)]
    show longer k ((List.range k).flatMap fun h => (Uw69.rows k n).map fun l => h :: l) = _
    rw [longer_flatMap]
    congr 1
    funext h
    rw [longer_map, ← allRings_eq k n]
    show ((allRings k (n + 1)).map fun l => h :: l) = _
    rw [allRings_eq k (n + 1)]
theorem allRings_mem {k : Nat} : ∀ {n : Nat} {l : List Nat}, l ∈ allRings k n → l.length = n ∧ ∀ x ∈ l, x < k
  | 0, l, h => by
    rw [List.mem_singleton.mp h]
    exact ⟨rfl, fun x hx => by cases hx⟩
  | n + 1, l, h => by
    obtain ⟨m, hm, h⟩ := List.mem_flatMap.mp (show l ∈ (allRings k n).flatMap _ from h)
    obtain ⟨x, hx, rfl⟩ := List.mem_map.mp h
    obtain ⟨h1, h2⟩ := allRings_mem hm
    refine ⟨by rw [List.length_append, h1]; rfl, fun y hy => ?_⟩
    rcases List.mem_append.mp hy with hy | hy
    · exact h2 y hy
    · rw [List.mem_singleton.mp hy]
      exact List.mem_range.mp hx
theorem longer_length (k : Nat) (rs : List (List Nat)) : (longer k rs).length = k * rs.length := by
  unfold longer
  induction rs with
  | nil => rfl
  | cons a r ih => rw [List.flatMap_cons, List.length_append, ih, List.length_map, List.length_range, List.length_cons, Nat.mul_succ, Nat.add_comm]
theorem allRings_length (k : Nat) : ∀ n, (allRings k n).length = k ^ n
  | 0 => rfl
  | n + 1 => by
    show (longer k (allRings k n)).length = _
    rw [longer_length, allRings_length k n, Nat.pow_succ, Nat.mul_comm]
theorem pow_small {k n : Nat} (hk : k ≤ 4) (hn : n ≤ 8) : k ^ n ≤ 65536 := by
  have h1 : k ^ n ≤ 4 ^ n := Nat.pow_le_pow_left hk n
  have h2 : 4 ^ n ≤ 4 ^ 8 := Nat.pow_le_pow_right (by decide) hn
  have h3 : (4 : Nat) ^ 8 = 65536 := by decide
  omega
/-! ### good -/
theorem places_range {n : Nat} {x : Turn} : places n x = List.range n ↔ ∀ p, p < n → brings n x p = p := by
  constructor
  · intro h p hp
    have := places_getD x hp
    rw [h] at this
    rw [← this]
    simp [List.getD, hp]
  · intro h
    unfold places
    refine List.ext_getElem? fun i => ?_
    rw [List.getElem?_map]
    by_cases hi : i < n
    · rw [List.getElem?_range hi]
      show some _ = _
      rw [h i hi]
    · rw [List.getElem?_eq_none (by simpa using hi)]
      rfl
theorem filter_self {α : Type} {p : α → Bool} : ∀ {l : List α}, (l.filter p).length = l.length → ∀ a ∈ l, p a = true
  | [], _, a, h => by cases h
  | b :: l, e, a, h => by
    have hle : (l.filter p).length ≤ l.length := List.length_filter_le _ _
    rw [List.filter_cons] at e
    by_cases hb : p b = true
    · rw [if_pos hb, List.length_cons, List.length_cons] at e
      rcases List.mem_cons.mp h with rfl | h
      · exact hb
      · exact filter_self (by omega) a h
    · rw [if_neg hb, List.length_cons] at e
      omega
theorem filter_one {n p : Nat} {f : Nat → Bool} (hp : p < n) (h : ∀ q, q < n → (f q = true ↔ q = p)) : (List.range n).filter f = [p] := by
  induction n with
  | zero => omega
  | succ n ih =>
    rw [List.range_succ, List.filter_append]
    by_cases e : p = n
    · subst e
      have h1 : (List.range p).filter f = [] := by
        rw [List.filter_eq_nil_iff]
        intro q hq
        have hq := List.mem_range.mp hq
        intro hf
        have := (h q (by omega)).mp hf
        omega
      rw [h1]
      have : f p = true := (h p hp).mpr rfl
      simp [this]
    · rw [ih (by omega) fun q hq => h q (by omega)]
      have : ¬ f n = true := fun hf => e ((h n (by omega)).mp hf).symm
      simp [this]
theorem isGood_eq {l : List Nat} {o : Bool} (hl : 0 < l.length) : isGood l (moving l.length o) = Uw69.isGood ⟨o, l⟩ := by
  rw [Bool.eq_iff_iff]
  unfold isGood moving Uw69.isGood
  rw [List.all_eq_true, beq_iff_eq]
  constructor
  · intro h
    have sil : ∀ x ∈ Uw69.silent ⟨o, l⟩, ∀ p, p < l.length → brings l.length x p = p := by
      intro x hx
      obtain ⟨hx1, hx2⟩ := List.mem_filter.mp (show x ∈ (turns l.length o).filter (Uw69.showsNothing l) from hx)
      by_cases e : places l.length x = List.range l.length
      · exact places_range.mp e
      · have hm : places l.length x ∈ (allTurns l.length o).filter fun t => !(t == List.range l.length) := by
          refine List.mem_filter.mpr ⟨?_, ?_⟩
          · rw [allTurns_eq]
            exact List.mem_map_of_mem hx1
          · simpa using e
        have := h _ hm
        rw [shows0_eq (mem_turns hx1).1, hx2] at this
        simp at this
    have tld : ∀ p ∈ List.range l.length, Uw69.isTold ⟨o, l⟩ p = true := by
      intro p hp
      have hp := List.mem_range.mp hp
      unfold Uw69.isTold
      rw [beq_iff_eq]
      refine filter_one hp fun q hq => ?_
      rw [List.any_eq_true]
      constructor
      · rintro ⟨x, hx, e⟩
        rw [← beq_iff_eq.mp e]
        exact sil x hx p hp
      · rintro rfl
        have h0 : ((0, false) : Turn) ∈ Uw69.silent ⟨o, l⟩ := by
          obtain ⟨r, e⟩ := turns_cons hl o
          refine List.mem_filter.mpr ⟨?_, ?_⟩
          · show _ ∈ turns l.length o
            rw [e]
            exact List.mem_cons_self
          · unfold Uw69.showsNothing
            rw [turned0]
            exact beq_self_eq_true l
        exact ⟨_, h0, beq_iff_eq.mpr (sil _ h0 q hp)⟩
    unfold Uw69.told
    rw [List.filter_eq_self.mpr tld, List.length_range]
  · intro h t ht
    obtain ⟨h1, h2⟩ := List.mem_filter.mp ht
    rw [allTurns_eq] at h1
    obtain ⟨x, hx, rfl⟩ := List.mem_map.mp h1
    rw [shows0_eq (mem_turns hx).1]
    cases e : Uw69.showsNothing l x with
    | false => rfl
    | true =>
      exfalso
      have ne : ¬ places l.length x = List.range l.length := by simpa using h2
      apply ne
      rw [places_range]
      intro p hp
      have tp : Uw69.isTold ⟨o, l⟩ p = true := filter_self (l := List.range l.length) (by rw [List.length_range]; exact h) p (List.mem_range.mpr hp)
      unfold Uw69.isTold at tp
      have tp := beq_iff_eq.mp tp
      have hm : brings l.length x p ∈ Uw69.alike ⟨o, l⟩ p := by
        refine List.mem_filter.mpr ⟨List.mem_range.mpr (brings_lt x p hl), ?_⟩
        rw [List.any_eq_true]
        exact ⟨x, List.mem_filter.mpr ⟨hx, e⟩, beq_self_eq_true _⟩
      rw [tp] at hm
      exact List.mem_singleton.mp hm
theorem goodRings_eq {n : Nat} (hn : 0 < n) (o : Bool) (k : Nat) : goodRings n o k = Uw69.good o n k := by
  unfold goodRings Uw69.good
  rw [← allRings_eq]
  refine List.filter_congr fun l hl => ?_
  obtain ⟨e, _⟩ := allRings_mem hl
  subst e
  exact isGood_eq hn
theorem goodRings_mem {n : Nat} {o : Bool} {k : Nat} {l : List Nat} (h : l ∈ goodRings n o k) : l.length = n ∧ ∀ x ∈ l, x < k := allRings_mem (List.mem_filter.mp h).1
theorem countForms_eq {n : Nat} (hn : 0 < n) (o : Bool) (rs : List (List Nat)) (h : ∀ l ∈ rs, l.length = n) : countForms rs n o = Uw69.looks o rs := by
  unfold countForms Uw69.looks
  congr 1
  refine List.filter_congr fun l hl => ?_
  have e := h l hl
  subst e
  unfold isForm
  rw [show minL ((allTurns l.length o).map (turned l)) = formOf l o from rfl, formOf_eq hn, Bool.eq_iff_iff, beq_iff_eq, beq_iff_eq]
  exact eq_comm
/-! ### fewest -/
noncomputable def leastK (n : Nat) (o : Bool) : Nat := if (goodRings n o 1).isEmpty = true then (if (goodRings n o 2).isEmpty = true then 3 else 2) else 1
noncomputable def wit (n : Nat) : List Nat := ([0, 0, 0, 0, 0, 0, 1, 2] : List Nat).drop (8 - n)
theorem good3 (o : Bool) {n : Nat} (h0 : 0 < n) (h8 : n ≤ 8) : ∃ l ∈ Uw69.rows 3 n, Uw69.isGood ⟨o, l⟩ = true := by
  have hm : ∀ (n : Nat) (l : List Nat), l.length = n → (∀ x ∈ l, x < 3) → l ∈ Uw69.rows 3 n := by
    intro n
    induction n with
    | zero => intro l e _; rw [List.eq_nil_of_length_eq_zero e]; exact List.mem_singleton.mpr rfl
    | succ n ih =>
      intro l e hx
      cases l with
      | nil => cases e
      | cons a l =>
        refine List.mem_flatMap.mpr ⟨a, List.mem_range.mpr (hx a List.mem_cons_self), List.mem_map.mpr ⟨l, ih l (by simpa using e) fun x h => hx x (List.mem_cons_of_mem _ h), rfl⟩⟩
  have key : ∀ l : List Nat, l.length = n → (∀ x ∈ l, x < 3) → Uw69.isGood ⟨true, l⟩ = true → Uw69.isGood ⟨false, l⟩ = true → ∃ l ∈ Uw69.rows 3 n, Uw69.isGood ⟨o, l⟩ = true := by
    intro l e hx h1 h2
    refine ⟨l, hm n l e hx, ?_⟩
    cases o
    · exact h2
    · exact h1
  have all : ∀ n < 9, 0 < n → (wit n).length = n ∧ (∀ x ∈ wit n, x < 3) ∧ Uw69.isGood ⟨true, wit n⟩ = true ∧ Uw69.isGood ⟨false, wit n⟩ = true := by decide +kernel
  obtain ⟨a1, a2, a3, a4⟩ := all n (Nat.lt_succ_of_le h8) h0
  exact key (wit n) a1 a2 a3 a4
theorem good_some {n : Nat} {o : Bool} (h0 : 0 < n) (h8 : n ≤ 8) : (goodRings n o 3).isEmpty = false := by
  obtain ⟨l, hl, hg⟩ := good3 o h0 h8
  rw [goodRings_eq h0]
  have : l ∈ Uw69.good o n 3 := List.mem_filter.mpr ⟨hl, hg⟩
  cases e : Uw69.good o n 3 with
  | nil => rw [e] at this; cases this
  | cons => rfl
theorem find_filter {α : Type} {p : α → Bool} : ∀ (l : List α), l.find? p = (l.filter p).head?
  | [] => rfl
  | a :: l => by
    rw [List.find?_cons, List.filter_cons]
    cases e : p a with
    | true => rfl
    | false => simpa using find_filter l
theorem fewest_eq {n : Nat} (h0 : 0 < n) (h8 : n ≤ 8) (o : Bool) : ∃ g r, goodRings n o (leastK n o) = g :: r ∧ Uw69.fewest o n = some (leastK n o, g) := by
  have e3 := good_some (o := o) h0 h8
  have hk : ∀ k, ((Uw69.rows k n).find? fun l => Uw69.isGood ⟨o, l⟩) = (goodRings n o k).head? := by
    intro k
    rw [find_filter, goodRings_eq h0]
    rfl
  unfold Uw69.fewest leastK
  rw [show List.range 4 = [0, 1, 2, 3] from rfl]
  simp only [List.findSome?_cons, hk]
  cases e1 : goodRings n o 1 with
  | cons g r => exact ⟨g, r, by simp [e1], by simp⟩
  | nil =>
    cases e2 : goodRings n o 2 with
    | cons g r => exact ⟨g, r, by simp [e2], by simp⟩
    | nil =>
      cases e3' : goodRings n o 3 with
      | nil => rw [e3'] at e3; cases e3
      | cons g r => exact ⟨g, r, by simp [e3'], by simp⟩
/-! ### change -/
theorem differ_eq : ∀ {a b : List Nat}, a.length = b.length → Uw69.differ a b = diffs a b := by
  have key : ∀ (a b : List Nat), a.length = b.length → ((a.zip b).filter fun x => x.1 != x.2).length = ((List.range a.length).filter fun p => a.getD p 0 != b.getD p 0).length := by
    intro a
    induction a with
    | nil => intro b _; rfl
    | cons x a ih =>
      intro b e
      match b, e with
      | y :: b, e =>
        have ih := ih b (by simpa using e)
        rw [List.zip_cons_cons, List.filter_cons, List.length_cons, List.range_succ_eq_map, List.filter_cons, List.filter_map]
        · have e2 : ((List.range a.length).filter ((fun p => (x :: a).getD p 0 != (y :: b).getD p 0) ∘ Nat.succ)).length = ((List.range a.length).filter fun p => a.getD p 0 != b.getD p 0).length := by
            congr 1
          show (if (x != y) = true then _ else _ : List _).length = (if (x != y) = true then _ else _ : List _).length
          split
          · rw [List.length_cons, List.length_cons, ih, List.length_map, e2]
          · rw [ih, List.length_map, e2]
  intro a b h
  exact key a b h
theorem change_fold {f : List Nat → Nat} : ∀ (ls : List (List Nat)) (m : List Nat),
    ls.foldl (fun (x : Option (Nat × List Nat)) l => match x with
      | none => some (f l, l)
      | some x => if f l < x.1 then some (f l, l) else some x) (some (f m, m)) = some (f (ls.foldl (fun m l => if f l < f m then l else m) m), ls.foldl (fun m l => if f l < f m then l else m) m)
  | [], m => rfl
  | l :: ls, m => by
    rw [List.foldl_cons, List.foldl_cons]
    show ls.foldl _ (if f l < f m then some (f l, l) else some (f m, m)) = _
    split
    · exact change_fold ls l
    · exact change_fold ls m
theorem change_eq {r : Ring} (k : Nat) (h0 : 0 < r.heads.length) :
    Uw69.change r k = match goodRings r.heads.length r.over k with
      | [] => none
      | g :: gs => some (diffs r.heads (bestBy (diffs r.heads) (g :: gs)), bestBy (diffs r.heads) (g :: gs)) := by
  unfold Uw69.change
  rw [← goodRings_eq h0]
  have hd : ∀ l ∈ goodRings r.heads.length r.over k, Uw69.differ r.heads l = diffs r.heads l := fun l hl => differ_eq (goodRings_mem hl).1.symm
  have key : ∀ (ls : List (List Nat)) (z : Option (Nat × List Nat)), (∀ l ∈ ls, Uw69.differ r.heads l = diffs r.heads l) → ls.foldl (fun (x : Option (Nat × List Nat)) l => match x with
      | none => some (Uw69.differ r.heads l, l)
      | some x => if Uw69.differ r.heads l < x.1 then some (Uw69.differ r.heads l, l) else some x) z = ls.foldl (fun (x : Option (Nat × List Nat)) l => match x with
      | none => some (diffs r.heads l, l)
      | some x => if diffs r.heads l < x.1 then some (diffs r.heads l, l) else some x) z := by
    intro ls
    induction ls with
    | nil => intro z _; rfl
    | cons l ls ih =>
      intro z h
      rw [List.foldl_cons, List.foldl_cons, ih _ fun x hx => h x (List.mem_cons_of_mem _ hx), h l List.mem_cons_self]
  refine (key _ none hd).trans ?_
  cases e : goodRings r.heads.length r.over k with
  | nil => rfl
  | cons g gs =>
    rw [List.foldl_cons]
    exact change_fold gs g
theorem bestBy_mem {f : List Nat → Nat} {g : List Nat} {gs : List (List Nat)} : bestBy f (g :: gs) ∈ g :: gs := by
  have key : ∀ (ls : List (List Nat)) (m : List Nat), ls.foldl (fun m l => if f l < f m then l else m) m = m ∨ ls.foldl (fun m l => if f l < f m then l else m) m ∈ ls := by
    intro ls
    induction ls with
    | nil => intro m; exact .inl rfl
    | cons l ls ih =>
      intro m
      rw [List.foldl_cons]
      split
      · rcases ih l with h | h
        · rw [h]; exact .inr List.mem_cons_self
        · exact .inr (List.mem_cons_of_mem _ h)
      · rcases ih m with h | h
        · exact .inl h
        · exact .inr (List.mem_cons_of_mem _ h)
  rcases key gs g with h | h
  · show gs.foldl _ g ∈ _
    rw [h]; exact List.mem_cons_self
  · exact List.mem_cons_of_mem _ h
end Dk
end
section
set_option Elab.async false
set_option linter.all false
namespace Dk
/-! ### one call of the list -/
noncomputable def rowAt (ns : List Int) (i : Nat) (m : Int) : List Nat := ((ns.drop i).take m.toNat).map Int.toNat
inductive At (ns : List Int) (i : Nat) : Uw69.Call → Nat → Prop
  | ring {x m : Int} : ns[i]? = some 0 → ns[i + 1]? = some x → ns[i + 2]? = some m → 0 ≤ m → i + 3 + m.toNat ≤ ns.length → At ns i (.ring x.toNat (rowAt ns (i + 3) m)) (i + 3 + m.toNat)
  | told : ns[i]? = some 1 → At ns i .told (i + 1)
  | alike {x : Int} : ns[i]? = some 2 → ns[i + 1]? = some x → At ns i (.alike x.toNat) (i + 2)
  | turns : ns[i]? = some 3 → At ns i .turns (i + 1)
  | looks {m : Int} : ns[i]? = some 4 → ns[i + 1]? = some m → 0 ≤ m → i + 2 + m.toNat ≤ ns.length → At ns i (.looks (rowAt ns (i + 2) m)) (i + 2 + m.toNat)
  | form : ns[i]? = some 5 → At ns i .form (i + 1)
  | felt {m : Int} : ns[i]? = some 6 → ns[i + 1]? = some m → 0 ≤ m → i + 2 + m.toNat ≤ ns.length → At ns i (.felt (rowAt ns (i + 2) m)) (i + 2 + m.toNat)
  | sure : ns[i]? = some 7 → At ns i .sure (i + 1)
  | fewest : ns[i]? = some 8 → At ns i .fewest (i + 1)
  | ways {x : Int} : ns[i]? = some 9 → ns[i + 1]? = some x → At ns i (.ways x.toNat) (i + 2)
  | change {x : Int} : ns[i]? = some 10 → ns[i + 1]? = some x → At ns i (.change x.toNat) (i + 2)
theorem drop_at {ns : List Int} {i : Nat} {p : Int} {r : List Int} (h : ns.drop i = p :: r) : ns[i]? = some p ∧ r = ns.drop (i + 1) := by
  constructor
  · have : (ns.drop i)[0]? = some p := by rw [h]; rfl
    rw [List.getElem?_drop] at this
    exact this
  · have : (ns.drop i).drop 1 = r := by rw [h]; rfl
    rw [List.drop_drop] at this
    exact this.symm
theorem step_of {r : Uw69.Ring} {c : List Int} {cl : Uw69.Call} (h : Uw69Neutral.callOf c = some cl) : Uw69Neutral.step r c = Uw69.step r cl := by
  unfold Uw69Neutral.step
  rw [h]
  rfl
theorem callOf_of {c : List Int} (h : ∀ x ∈ c, 0 ≤ x ∧ x ≤ 4294967295) : Uw69Neutral.callOf c = Uw69Neutral.callIn (c.map Int.toNat) := by
  unfold Uw69Neutral.callOf
  have : c.all Uw69Neutral.nat = true := by
    rw [List.all_eq_true]
    intro x hx
    obtain ⟨h1, h2⟩ := h x hx
    unfold Uw69Neutral.nat
    rw [Bool.and_eq_true, decide_eq_true_iff, decide_eq_true_iff]
    omega
  rw [if_neg (by rw [this]; simp)]
theorem row_is {r x s : List Int} (h : PyFlat.row r = some (x, s)) : ∃ m r', r = m :: r' ∧ 0 ≤ m ∧ m.toNat ≤ r'.length ∧ x = r'.take m.toNat ∧ s = r'.drop m.toNat := by
  cases r with
  | nil => cases h
  | cons m r' =>
    simp only [PyFlat.row] at h
    split at h
    · rename_i hc
      have h := Option.some.inj h
      injection h with h1 h2
      exact ⟨m, r', rfl, hc.1, hc.2, h1.symm, h2.symm⟩
    · cases h
theorem rows1 {r : List Int} {xs : List (List Int)} {t : List Int} (h : PyFlat.rows 1 r = some (xs, t)) : ∃ x, PyFlat.row r = some (x, t) ∧ xs = [x] := by
  unfold PyFlat.rows at h
  cases e : PyFlat.row r with
  | none => rw [e] at h; cases h
  | some z =>
    obtain ⟨x, s⟩ := z
    rw [e] at h
    have h : some ([x], s) = some (xs, t) := h
    have h := Option.some.inj h
    injection h with h1 h2
    exact ⟨x, by rw [h2], h1.symm⟩
/-- no numbers, no rows -/
theorem call00 {p : Int} {r : List Int} {c : List (List Int)} {t : List Int} (hs : PyUw69.shape p = some (0, 0)) (h : PyFlat.call PyUw69.shape (p :: r) = some (c, t)) : c = [[p]] ∧ t = r := by
  simp only [PyFlat.call, hs] at h
  have h : (if r.length < 0 then none else some ([p :: r.take 0], r.drop 0)) = some (c, t) := h
  rw [if_neg (Nat.not_lt_zero _)] at h
  have h := Option.some.inj h
  injection h with h1 h2
  exact ⟨h1.symm, h2.symm⟩
theorem call10 {p : Int} {r : List Int} {c : List (List Int)} {t : List Int} (hs : PyUw69.shape p = some (1, 0)) (h : PyFlat.call PyUw69.shape (p :: r) = some (c, t)) : ∃ x, r = x :: t ∧ c = [[p, x]] := by
  simp only [PyFlat.call, hs] at h
  have h : (if r.length < 1 then none else some ([p :: r.take 1], r.drop 1)) = some (c, t) := h
  split at h
  · cases h
  · cases r with
    | nil => rename_i z; exact absurd (by show 0 < 1; decide) z
    | cons x r' =>
      have h := Option.some.inj h
      injection h with h1 h2
      have h2 : r' = t := h2
      subst h2
      exact ⟨x, rfl, h1.symm⟩
theorem call01 {p : Int} {r : List Int} {c : List (List Int)} {t : List Int} (hs : PyUw69.shape p = some (0, 1)) (h : PyFlat.call PyUw69.shape (p :: r) = some (c, t)) : ∃ x, PyFlat.row r = some (x, t) ∧ c = [[p], x] := by
  simp only [PyFlat.call, hs] at h
  have h : (if r.length < 0 then none else match PyFlat.rows 1 (r.drop 0) with | none => none | some (xs, t) => some ((p :: r.take 0) :: xs, t)) = some (c, t) := h
  rw [if_neg (Nat.not_lt_zero _)] at h
  have e0 : r.drop 0 = r := rfl
  rw [e0] at h
  cases e : PyFlat.rows 1 r with
  | none => rw [e] at h; cases h
  | some z =>
    obtain ⟨xs, t'⟩ := z
    rw [e] at h
    have h := Option.some.inj h
    injection h with h1 h2
    subst h2
    obtain ⟨x, hx, rfl⟩ := rows1 e
    exact ⟨x, hx, h1.symm⟩
theorem call11 {p : Int} {r : List Int} {c : List (List Int)} {t : List Int} (hs : PyUw69.shape p = some (1, 1)) (h : PyFlat.call PyUw69.shape (p :: r) = some (c, t)) : ∃ y r' x, r = y :: r' ∧ PyFlat.row r' = some (x, t) ∧ c = [[p, y], x] := by
  simp only [PyFlat.call, hs] at h
  have h : (if r.length < 1 then none else match PyFlat.rows 1 (r.drop 1) with | none => none | some (xs, t) => some ((p :: r.take 1) :: xs, t)) = some (c, t) := h
  split at h
  · cases h
  · cases r with
    | nil => rename_i z; exact absurd (by show 0 < 1; decide) z
    | cons y r' =>
      have e0 : (y :: r').drop 1 = r' := rfl
      rw [e0] at h
      cases e : PyFlat.rows 1 r' with
      | none => rw [e] at h; cases h
      | some z =>
        obtain ⟨xs, t'⟩ := z
        rw [e] at h
        have h := Option.some.inj h
        injection h with h1 h2
        subst h2
        obtain ⟨x, hx, rfl⟩ := rows1 e
        exact ⟨y, r', x, rfl, hx, h1.symm⟩
theorem parse {ns : List Int} {i : Nat} {c : List (List Int)} {t : List Int} (hb : ∀ x ∈ ns, 0 ≤ x ∧ x ≤ 4294967295) (h : PyFlat.call PyUw69.shape (ns.drop i) = some (c, t)) :
    ∃ cl j, At ns i cl j ∧ t = ns.drop j ∧ ∀ r, Uw69Neutral.step r ((PyUw69.whole c).headD []) = Uw69.step r cl := by
  cases e : ns.drop i with
  | nil => rw [e] at h; cases h
  | cons p r =>
    rw [e] at h
    obtain ⟨hp, hr⟩ := drop_at e
    have hin : ∀ (k : Nat) (x : Int), x ∈ ns.drop k → 0 ≤ x ∧ x ≤ 4294967295 := fun k x hx => hb x (List.mem_of_mem_drop hx)
    have zero : PyUw69.shape p = some (0, 0) → ∀ cl, (∀ (_ : Unit), Uw69Neutral.callIn [p.toNat] = some cl ∧ PyUw69.whole [[p]] = [[p]]) → At ns i cl (i + 1) → ∃ cl j, At ns i cl j ∧ t = ns.drop j ∧ ∀ r, Uw69Neutral.step r ((PyUw69.whole c).headD []) = Uw69.step r cl := by
      intro hs cl hc hat
      obtain ⟨rfl, rfl⟩ := call00 hs h
      refine ⟨cl, i + 1, hat, hr, fun rg => step_of ?_⟩
      obtain ⟨h1, h2⟩ := hc ()
      rw [h2]
      show Uw69Neutral.callOf [p] = _
      rw [callOf_of (fun x hx => by rw [List.mem_singleton.mp hx]; exact hb p (List.mem_of_getElem? hp))]
      exact h1
    have rowz : ∀ {k : Nat} {x t : List Int}, PyFlat.row (ns.drop k) = some (x, t) → ∃ m, ns[k]? = some m ∧ 0 ≤ m ∧ k + 1 + m.toNat ≤ ns.length ∧ x = (ns.drop (k + 1)).take m.toNat ∧ t = ns.drop (k + 1 + m.toNat) := by
      intro k x t hrow
      obtain ⟨m, r', e1, h0, hl, h1, h2⟩ := row_is hrow
      obtain ⟨a1, a2⟩ := drop_at e1
      subst a2
      rw [List.length_drop] at hl
      have hk : k < ns.length := (List.getElem?_eq_some_iff.mp a1).1
      rw [List.drop_drop] at h2
      exact ⟨m, a1, h0, by omega, h1, h2⟩
    unfold PyUw69.shape at zero
    by_cases p0 : p = 0
    · subst p0
      obtain ⟨y, r', x, e1, hrow, rfl⟩ := call11 rfl h
      rw [hr] at e1
      obtain ⟨hy, hr2⟩ := drop_at e1
      rw [hr2] at hrow
      obtain ⟨m, a1, a2, a3, rfl, rfl⟩ := rowz hrow
      refine ⟨_, _, .ring hp hy a1 a2 (by omega), by congr 1, fun rg => step_of ?_⟩
      show Uw69Neutral.callOf (0 :: y :: (ns.drop (i + 1 + 1 + 1)).take m.toNat) = _
      rw [callOf_of]
      · rfl
      · intro x hx
        rcases List.mem_cons.mp hx with rfl | hx
        · exact ⟨by decide, by decide⟩
        rcases List.mem_cons.mp hx with rfl | hx
        · exact hb _ (List.mem_of_getElem? hy)
        · exact hin _ _ (List.mem_of_mem_take hx)
    by_cases p1 : p = 1
    · subst p1
      exact zero rfl .told (fun _ => ⟨rfl, rfl⟩) (.told hp)
    by_cases p2 : p = 2
    · subst p2
      obtain ⟨x, e1, rfl⟩ := call10 rfl h
      rw [hr] at e1
      obtain ⟨hy, hr2⟩ := drop_at e1
      refine ⟨_, _, .alike hp hy, hr2, fun rg => step_of ?_⟩
      show Uw69Neutral.callOf [2, x] = _
      rw [callOf_of]
      · rfl
      · intro z hz
        rcases List.mem_cons.mp hz with rfl | hz
        · exact ⟨by decide, by decide⟩
        · rw [List.mem_singleton.mp hz]; exact hb _ (List.mem_of_getElem? hy)
    by_cases p3 : p = 3
    · subst p3
      exact zero rfl .turns (fun _ => ⟨rfl, rfl⟩) (.turns hp)
    by_cases p4 : p = 4
    · subst p4
      obtain ⟨x, hrow, rfl⟩ := call01 rfl h
      rw [hr] at hrow
      obtain ⟨m, a1, a2, a3, rfl, rfl⟩ := rowz hrow
      refine ⟨_, _, .looks hp a1 a2 (by omega), by congr 1, fun rg => step_of ?_⟩
      show Uw69Neutral.callOf (4 :: (ns.drop (i + 1 + 1)).take m.toNat) = _
      rw [callOf_of]
      · rfl
      · intro x hx
        rcases List.mem_cons.mp hx with rfl | hx
        · exact ⟨by decide, by decide⟩
        · exact hin _ _ (List.mem_of_mem_take hx)
    by_cases p5 : p = 5
    · subst p5
      exact zero rfl .form (fun _ => ⟨rfl, rfl⟩) (.form hp)
    by_cases p6 : p = 6
    · subst p6
      obtain ⟨x, hrow, rfl⟩ := call01 rfl h
      rw [hr] at hrow
      obtain ⟨m, a1, a2, a3, rfl, rfl⟩ := rowz hrow
      refine ⟨_, _, .felt hp a1 a2 (by omega), by congr 1, fun rg => step_of ?_⟩
      show Uw69Neutral.callOf (6 :: (ns.drop (i + 1 + 1)).take m.toNat) = _
      rw [callOf_of]
      · rfl
      · intro x hx
        rcases List.mem_cons.mp hx with rfl | hx
        · exact ⟨by decide, by decide⟩
        · exact hin _ _ (List.mem_of_mem_take hx)
    by_cases p7 : p = 7
    · subst p7
      exact zero rfl .sure (fun _ => ⟨rfl, rfl⟩) (.sure hp)
    by_cases p8 : p = 8
    · subst p8
      exact zero rfl .fewest (fun _ => ⟨rfl, rfl⟩) (.fewest hp)
    by_cases p9 : p = 9
    · subst p9
      obtain ⟨x, e1, rfl⟩ := call10 rfl h
      rw [hr] at e1
      obtain ⟨hy, hr2⟩ := drop_at e1
      refine ⟨_, _, .ways hp hy, hr2, fun rg => step_of ?_⟩
      show Uw69Neutral.callOf [9, x] = _
      rw [callOf_of]
      · rfl
      · intro z hz
        rcases List.mem_cons.mp hz with rfl | hz
        · exact ⟨by decide, by decide⟩
        · rw [List.mem_singleton.mp hz]; exact hb _ (List.mem_of_getElem? hy)
    by_cases p10 : p = 10
    · subst p10
      obtain ⟨x, e1, rfl⟩ := call10 rfl h
      rw [hr] at e1
      obtain ⟨hy, hr2⟩ := drop_at e1
      refine ⟨_, _, .change hp hy, hr2, fun rg => step_of ?_⟩
      show Uw69Neutral.callOf [10, x] = _
      rw [callOf_of]
      · rfl
      · intro z hz
        rcases List.mem_cons.mp hz with rfl | hz
        · exact ⟨by decide, by decide⟩
        · rw [List.mem_singleton.mp hz]; exact hb _ (List.mem_of_getElem? hy)
    · exfalso
      have hs : PyUw69.shape p = none := by
        unfold PyUw69.shape
        rw [if_neg p0, if_neg p1, if_neg p2, if_neg p3, if_neg p4, if_neg p5, if_neg p6, if_neg p7, if_neg p8, if_neg p9, if_neg p10]
      simp only [PyFlat.call, hs] at h
      cases h
theorem At.lt {ns : List Int} {i : Nat} {cl : Uw69.Call} {j : Nat} (h : At ns i cl j) : i < j ∧ j ≤ ns.length := by
  have lt : ∀ {k : Nat} {x : Int}, ns[k]? = some x → k < ns.length := fun h => (List.getElem?_eq_some_iff.mp h).1
  cases h with
  | ring a b c d e => exact ⟨by omega, e⟩
  | told a => have := lt a; exact ⟨by omega, by omega⟩
  | alike a b => have := lt b; exact ⟨by omega, by omega⟩
  | turns a => have := lt a; exact ⟨by omega, by omega⟩
  | looks a b c d => exact ⟨by omega, d⟩
  | form a => have := lt a; exact ⟨by omega, by omega⟩
  | felt a b c d => exact ⟨by omega, d⟩
  | sure a => have := lt a; exact ⟨by omega, by omega⟩
  | fewest a => have := lt a; exact ⟨by omega, by omega⟩
  | ways a b => have := lt b; exact ⟨by omega, by omega⟩
  | change a b => have := lt b; exact ⟨by omega, by omega⟩
/-- the ring stays one -/
theorem step_valid {r : Uw69.Ring} (h0 : 0 < r.heads.length) (h9 : r.heads.length ≤ 9) (c : Uw69.Call) : 0 < (Uw69.step r c).1.heads.length ∧ (Uw69.step r c).1.heads.length ≤ 9 := by
  cases c with
  | ring o l =>
    show 0 < (if 1 < o ∨ l.length < 1 ∨ 9 < l.length ∨ Uw69.isHeads l = false then (r, [-1]) else ((⟨o == 1, l⟩ : Uw69.Ring), [((Uw69.told ⟨o == 1, l⟩).length : Int)])).1.heads.length ∧ (if 1 < o ∨ l.length < 1 ∨ 9 < l.length ∨ Uw69.isHeads l = false then (r, [-1]) else ((⟨o == 1, l⟩ : Uw69.Ring), [((Uw69.told ⟨o == 1, l⟩).length : Int)])).1.heads.length ≤ 9
    split
    · exact ⟨h0, h9⟩
    · rename_i hn
      show 0 < l.length ∧ l.length ≤ 9
      omega
  | _ => exact ⟨h0, h9⟩
end Dk
end
section
set_option Elab.async false
set_option linter.all false
set_option maxRecDepth 100000
set_option maxHeartbeats 2000000
namespace Dk
open PySem PySem.Spec PyProof.Rows L2
/-! ### heaps -/
/-- the heap without D -/
noncomputable def del (H : Hp) (D : Addr) : Hp := fun b => if b = D then none else H b
theorem del_ne {H : Hp} {D b : Addr} (h : b ≠ D) : del H D b = H b := by unfold del; rw [if_neg h]
theorem del_some {H : Hp} {D b : Addr} {o : HO} (h : del H D b = some o) : b ≠ D ∧ H b = some o := by
  unfold del at h
  by_cases e : b = D
  · rw [if_pos e] at h; cases h
  · rw [if_neg e] at h; exact ⟨e, h⟩
theorem same_refl {H : Hp} : Same H H := fun _ _ h => h
theorem same_upd {H : Hp} {a : Addr} {o : HO} (h : H a = none) : Same H (upd H a o) := fun b u e => by rw [upd_ne (ne_of_none e h)]; exact e
theorem same_del {H : Hp} {D : Addr} : Same (del H D) H := fun b o h => (del_some h).2
theorem same_del2 {H H' : Hp} {D : Addr} (s : Same H H') : Same (del H D) (del H' D) := fun b o h => by
  obtain ⟨h1, h2⟩ := del_some h
  rw [del_ne h1]
  exact s _ _ h2
theorem same_to_del {H H' : Hp} {D : Addr} (s : Same H H') (hD : H D = none) : Same H (del H' D) := fun b o h => by
  rw [del_ne (ne_of_none h hD)]
  exact s _ _ h
theorem same_del_upd {H : Hp} {D : Addr} {o : HO} : Same (del H D) (del (upd H D o) D) := fun b u h => by
  obtain ⟨h1, h2⟩ := del_some h
  rw [del_ne h1, upd_ne h1]
  exact h2
/-- what is new is not what was there -/
theorem ne_new {H : Hp} {a p : Addr} (h : ∃ o, H a = some o) (hp : H p = none) : p ≠ a := by
  obtain ⟨o, h⟩ := h
  exact (ne_of_none h hp).symm
/-! ### lists of numbers, lists of lists of numbers -/
noncomputable abbrev nV (n : Nat) : V := V.int (n : Int)
noncomputable def IL (_ : PySem.W.Frag) (H : Hp) (a : Addr) (l : List Nat) : Prop := H a = some (.lst (l.map nV))
theorem IL.sq {K : PySem.W.Frag} {H : Hp} {a : Addr} {l : List Nat} (h : IL K H a l) : SqL K H a (l.map nV) := SqL.of h
theorem IL.mono {K : PySem.W.Frag} {H H' : Hp} {a : Addr} {l : List Nat} (h : IL K H a l) (s : Same H H') : IL K H' a l := s _ _ h
theorem IL.del {K : PySem.W.Frag} {H : Hp} {a D : Addr} {l : List Nat} (h : IL K H a l) (n : a ≠ D) : IL K (del H D) a l := (del_ne n).trans h
noncomputable def RI (_ : Hp) (v : V) (n : Nat) : Prop := v = nV n
noncomputable def RB (_ : Hp) (v : V) (b : Bool) : Prop := v = V.bl b
noncomputable def RL (K : PySem.W.Frag) (H : Hp) (v : V) (l : List Nat) : Prop := ∃ b, v = .ref b ∧ IL K H b l
noncomputable def LL (K : PySem.W.Frag) (H : Hp) (a : Addr) (ls : List (List Nat)) : Prop := ∃ us, H a = some (.lst us) ∧ Paired (RL K H) us ls
theorem RI.mono {H H' : Hp} {v : V} {n : Nat} (_ : Same H H') (h : RI H v n) : RI H' v n := h
theorem RB.mono {H H' : Hp} {v : V} {n : Bool} (_ : Same H H') (h : RB H v n) : RB H' v n := h
theorem RL.mono {K : PySem.W.Frag} {H H' : Hp} {v : V} {l : List Nat} (s : Same H H') (h : RL K H v l) : RL K H' v l := by
  obtain ⟨b, e, q⟩ := h
  exact ⟨b, e, q.mono s⟩
theorem paired_RI {H : Hp} {us : List V} {ns : List Nat} (h : Paired (RI H) us ns) : us = ns.map nV := by
  induction h with
  | nil => rfl
  | cons r t ih =>
    have r' : _ = nV _ := r
    rw [r', ih]
    rfl
theorem paired_RB {H : Hp} {us : List V} {ns : List Bool} (h : Paired (RB H) us ns) : us = ns.map V.bl := by
  induction h with
  | nil => rfl
  | cons r t ih =>
    have r' : _ = V.bl _ := r
    rw [r', ih]
    rfl
theorem paired_append {α β : Type} {F : α → β → Prop} {l l' : List α} {m m' : List β} (h : Paired F l m) (h' : Paired F l' m') : Paired F (l ++ l') (m ++ m') := by
  induction h with
  | nil => exact h'
  | cons r t ih => exact .cons r ih
theorem paired_snoc {α β : Type} {F : α → β → Prop} {l : List α} {m : List β} {a : α} {b : β} (h : Paired F l m) (r : F a b) : Paired F (l ++ [a]) (m ++ [b]) := paired_append h (.cons r .nil)
theorem paired_length {α β : Type} {F : α → β → Prop} {l : List α} {m : List β} (h : Paired F l m) : l.length = m.length := Paired.length h
theorem paired_get {α β : Type} {F : α → β → Prop} {l : List α} {m : List β} {i : Nat} {x : α} (h : Paired F l m) (e : l[i]? = some x) : ∃ y, m[i]? = some y ∧ F x y := by
  induction h generalizing i with
  | nil => cases e
  | cons r t ih =>
    cases i with
    | zero =>
      cases Option.some.inj e
      exact ⟨_, rfl, r⟩
    | succ i => exact ih (i := i) e
theorem LL.mono {K : PySem.W.Frag} {H H' : Hp} {a : Addr} {ls : List (List Nat)} (h : LL K H a ls) (s : Same H H') : LL K H' a ls := by
  obtain ⟨us, h1, h2⟩ := h
  exact ⟨us, s _ _ h1, Paired.mapP h2 fun _ _ q => RL.mono s q⟩
theorem IL.at {K : PySem.W.Frag} {H : Hp} {a : Addr} {l : List Nat} {i : Nat} (_ : IL K H a l) (hi : i < l.length) : (l.map nV)[i]? = some (nV (l.getD i 0)) := by
  simp [List.getElem?_map, List.getElem?_eq_getElem hi, List.getD]
theorem nv_at {l : List Nat} {i : Nat} {x : V} (h : (l.map nV)[i]? = some x) : i < l.length ∧ x = nV (l.getD i 0) := by
  have hi : i < (l.map nV).length := (List.getElem?_eq_some_iff.mp h).1
  rw [List.length_map] at hi
  refine ⟨hi, ?_⟩
  rw [List.getElem?_map, List.getElem?_eq_getElem hi] at h
  rw [← Option.some.inj h]
  simp [List.getD, hi]
/-! ### comprehensions -/
theorem filter_getD {α : Type} {d : α} {q : α → Bool} : ∀ (ls : List α), ((List.range ls.length).filter fun i => q (ls.getD i d)).map (fun i => ls.getD i d) = ls.filter q
  | [] => rfl
  | a :: ls => by
    have ih := filter_getD (d := d) (q := q) ls
    rw [List.length_cons, List.range_succ_eq_map, List.filter_cons, List.filter_map, List.filter_cons]
    have e : ((fun i => q ((a :: ls).getD i d)) ∘ Nat.succ) = fun i => q (ls.getD i d) := rfl
    rw [e]
    show (if q a = true then _ else _ : List _).map _ = _
    split
    · rw [List.map_cons, List.map_map]
      congr 1
    · rw [List.map_map]
      exact ih
theorem map_getD {α β : Type} {d : α} {f : α → β} (ls : List α) : ((List.range ls.length).filter fun _ => true).map (fun i => f (ls.getD i d)) = ls.map f := by
  have h := filter_getD (d := d) (q := fun _ => true) ls
  rw [List.filter_eq_self.mpr (fun _ _ => rfl), List.filter_eq_self.mpr (fun _ _ => rfl)] at h
  rw [List.filter_eq_self.mpr (fun _ _ => rfl)]
  conv => rhs; rw [← h]
  rw [List.map_map]
  rfl
theorem range_all {β : Type} {n : Nat} {f : Nat → β} : ((List.range n).filter fun _ => true).map f = (List.range n).map f := by
  rw [List.filter_eq_self.mpr (fun _ _ => rfl)]
theorem range_id {n : Nat} {p : Nat → Bool} : ((List.range n).filter p).map (fun i => i) = (List.range n).filter p := List.map_id' _
/-- a comprehension that leaves what was there as it was: R what an item stands for, p its test, f its value -/
theorem lcF {α : Type} {J : It} (R : Hp → V → α → Prop) (mono : ∀ {H H' : Hp} {v : V} {a : α}, Same H H' → R H v a → R H' v a) (n : Nat) (p : Nat → Bool) (f : Nat → α)
    {g : TG} {tt : TT} {te : TE} {vs : List Nat} {σ : L2.St} {H1 : Hp} {D : Addr} {Qd : Hp → Prop} (hD : H1 D = none) (hz : n ≤ sizeLine)
    (go : ∀ i H, Same H1 H → i < n → J.go i H) (stop : ∀ H, Same H1 H → J.stop n H)
    (hs : ∀ (i : Nat) (H : Hp) (x : V) (H' : Hp) (K1 : V → Hp → Prop) (K2 : Hp → Prop), i < n → Same H1 H → (∃ o, H D = some o) → J.yld i H x H' →
      (∀ y H4, Same H H4 → R (del H4 D) y (f i) → p i = true → K1 y H4) → (∀ H3, Same H H3 → p i = false → K2 H3) →
      g x (wipe σ vs) H' fun σ2 H2 => wipe σ2 vs = wipe σ vs ∧ tt σ2 H2 fun b H3 => if b = true then te σ2 H3 K1 else K2 H3)
    (hd : ∀ H us, Same H1 H → H D = some (.lst us) → Paired (R (del H D)) us (((List.range n).filter p).map f) → Qd H) :
    ∃ W : Nat → Nat → Hp → Prop, (∃ m, W 0 m (upd H1 D (.lst []))) ∧ ∀ i m H, W i m H →
      (J.stop i H ∧ Qd H) ∨ (J.go i H ∧ ∃ Nx : Hp → Prop, (∀ H', Nx H' → ∃ m', m' < m ∧ W (i + 1) m' H') ∧ ∀ x H', J.yld i H x H' → g x (wipe σ vs) H' fun σ2 H2 => wipe σ2 vs = wipe σ vs ∧ tt σ2 H2 fun b H3 =>
        if b = true then te σ2 H3 fun y H4 => ∃ acc, H4 D = some (.lst acc) ∧ acc.length < sizeLine ∧ Nx (upd H4 D (.lst (acc ++ [y]))) else Nx H3) := by
  refine ⟨fun i m H => m = n - i ∧ i ≤ n ∧ Same H1 H ∧ ∃ us, H D = some (.lst us) ∧ us.length ≤ i ∧ Paired (R (del H D)) us (((List.range i).filter p).map f), ⟨n, by simp, Nat.zero_le _, same_upd hD, [], upd_same, Nat.le_refl _, .nil⟩, ?_⟩
  rintro i m H ⟨rfl, hi, s, us, hus, hl, hp⟩
  by_cases hlt : i < n
  · refine .inr ⟨go i H s hlt, fun H' => i + 1 ≤ n ∧ Same H1 H' ∧ ∃ us, H' D = some (.lst us) ∧ us.length ≤ i + 1 ∧ Paired (R (del H' D)) us (((List.range (i + 1)).filter p).map f), fun H' ⟨a, b, c⟩ => ⟨n - (i + 1), by omega, rfl, a, b, c⟩, fun x H' y => ?_⟩
    refine hs i H x H' _ _ hlt s ⟨_, hus⟩ y (fun y H4 s4 r hpi => ?_) fun H3 s3 hpi => ?_
    · refine ⟨us, s4 _ _ hus, by omega, hlt, fun b o e => ?_, us ++ [y], upd_same, by rw [List.length_append]; exact Nat.succ_le_succ hl, ?_⟩
      · rw [upd_ne (ne_of_none e hD)]
        exact s4 _ _ (s _ _ e)
      · rw [List.range_succ, List.filter_append, List.map_append]
        have e1 : ([i].filter p).map f = [f i] := by simp [hpi]
        rw [e1]
        refine paired_snoc (Paired.mapP hp fun a b q => mono ?_ q) (mono same_del_upd r)
        exact (same_del2 s4).trans same_del_upd
    · refine ⟨hlt, s.trans s3, us, s3 _ _ hus, by omega, ?_⟩
      rw [List.range_succ, List.filter_append, List.map_append]
      have e1 : ([i].filter p).map f = [] := by simp [hpi]
      rw [e1, List.append_nil]
      exact Paired.mapP hp fun a b q => mono (same_del2 s3) q
  · have e : i = n := by omega
    subst e
    exact .inl ⟨stop H s, hd H us s hus hp⟩
theorem go_rng {lo : Int} {n : Nat} {H1 : Hp} : ∀ i H, Same H1 H → i < n → (Itr lo n).go i H := fun _ _ _ h => h
theorem stop_rng {lo : Int} {n : Nat} {H1 : Hp} : ∀ H, Same H1 H → (Itr lo n).stop n H := fun _ _ => Nat.le_refl _
theorem go_lst {K : PySem.W.Frag} {a : Addr} {us : List V} {H1 : Hp} (h : SqL K H1 a us) : ∀ i H, Same H1 H → i < us.length → (Itl K a).go i H := fun i H s hi => ⟨us, us[i], s.seq h, by simp [hi]⟩
theorem stop_lst {K : PySem.W.Frag} {a : Addr} {us : List V} {H1 : Hp} (h : SqL K H1 a us) : ∀ H, Same H1 H → (Itl K a).stop us.length H := fun H s => ⟨us, s.seq h, Nat.le_refl _⟩
theorem go_enm {K : PySem.W.Frag} {a : Addr} {us : List V} {H1 : Hp} (h : SqL K H1 a us) : ∀ i H, Same H1 H → i < us.length → (Ite K a).go i H := fun i H s hi => ⟨us, us[i], s.seq h, by simp [hi]⟩
theorem stop_enm {K : PySem.W.Frag} {a : Addr} {us : List V} {H1 : Hp} (h : SqL K H1 a us) : ∀ H, Same H1 H → (Ite K a).stop us.length H := fun H s => ⟨us, s.seq h, Nat.le_refl _⟩
theorem yld_lst {K : PySem.W.Frag} {a : Addr} {us : List V} {H H' : Hp} {i : Nat} {x : V} (h : SqL K H a us) (y : (Itl K a).yld i H x H') : H' = H ∧ us[i]? = some x := ⟨y.1, y.2 us h⟩
theorem blk_of {N : List Str} {sc scope : Scope} {own : List (Str × Nat)} {X : Cx} (hN : X.N = N) (hs : X.env.scope = sc) (h : blkC N sc scope own = true) : BlkOk X.N X.env.scope scope own := by
  rw [hN, hs]
  exact blkOk_by h
theorem size9 {n : Nat} (h : n ≤ 1000) : n ≤ sizeLine := Nat.le_trans h (by decide)
theorem IL_of {K : PySem.W.Frag} {H : Hp} {D : Addr} {us : List V} {l : List Nat} {H0 : Hp} (h : H D = some (.lst us)) (hp : Paired (RI H0) us l) : IL K H D l := by
  show H D = _
  rw [← paired_RI hp]
  exact h
theorem LL_of {K : PySem.W.Frag} {H : Hp} {D : Addr} {us : List V} {l : List (List Nat)} (h : H D = some (.lst us)) (hp : Paired (RL K (del H D)) us l) : LL K H D l := ⟨us, h, Paired.mapP hp fun _ _ q => RL.mono same_del q⟩
end Dk
end
section
set_option Elab.async false
set_option linter.all false
set_option maxRecDepth 100000
set_option maxHeartbeats 2000000
namespace Dk
open PySem PySem.Spec PyProof.Rows L2
/-! ### lists of numbers as data -/
noncomputable def dN (l : List Nat) : List PyData := l.map fun (n : Nat) => PyData.int (n : Int)
theorem dpAll_ints {K : PySem.W.Frag} {H : Hp} : ∀ l : List Nat, DpAll K H (l.map nV) (dN l)
  | [] => .nil
  | n :: l => .cons (.int _) (dpAll_ints l)
theorem dp_IL {K : PySem.W.Frag} {H : Hp} {a : Addr} {l : List Nat} (h : IL K H a l) : Dp K H (.ref a) (.list (dN l)) := .lst h.sq (dpAll_ints l)
theorem canLay_dN : ∀ l : List Nat, PyData.canLayAll0 (dN l) = true
  | [] => rfl
  | n :: l => by
    show (true && PyData.canLayAll0 (dN l)) = true
    rw [canLay_dN l]; rfl
theorem depth_dN : ∀ l : List Nat, PyData.depthAll (dN l) = 0
  | [] => rfl
  | n :: l => by
    show max 0 (PyData.depthAll (dN l)) = 0
    rw [depth_dN l]; rfl
theorem depth_list (l : List Nat) : PyData.depth (.list (dN l)) = 1 := by
  show PyData.depthAll (dN l) + 1 = 1
  rw [depth_dN]
theorem shaped_dN (l : List Nat) : SeqAt.shaped (.list (dN l)) = true := by
  unfold SeqAt.shaped
  rw [depth_list]
  show (PyData.canLayAll0 (dN l) && _) = true
  rw [canLay_dN]
  rfl
theorem eqvAll_dN : ∀ l m : List Nat, PyData.eqvAll (dN l) (dN m) = (l == m)
  | [], [] => rfl
  | [], _ :: _ => rfl
  | _ :: _, [] => rfl
  | x :: l, y :: m => by
    have h := eqvAll_dN l m
    show (PyData.eqv (.int (x : Int)) (.int (y : Int)) && PyData.eqvAll (dN l) (dN m)) = _
    rw [h]
    show (((x : Int) == (y : Int)) && (l == m)) = _
    by_cases e : x = y
    · subst e; simp
    · have e' : ¬ (x : Int) = (y : Int) := by omega
      rw [beq_eq_false_iff_ne.mpr e', Bool.false_and]
      exact (beq_eq_false_iff_ne.mpr fun z => e (List.cons.inj z).1).symm
theorem eqv_dN (l m : List Nat) : PyData.eqv (.list (dN l)) (.list (dN m)) = (l == m) := eqvAll_dN l m
section
variable {X : Cx}
noncomputable def rEqIL (K : PySem.W.Frag) : R2 := fun x y H Q => ∃ a b l m, x = .ref a ∧ y = .ref b ∧ IL K H a l ∧ IL K H b m ∧ Q (.bl (l == m)) H
noncomputable def rNeIL (K : PySem.W.Frag) : R2 := fun x y H Q => ∃ a b l m, x = .ref a ∧ y = .ref b ∧ IL K H a l ∧ IL K H b m ∧ Q (.bl (!(l == m))) H
noncomputable def rInLL (K : PySem.W.Frag) : R2 := fun x y H Q => ∃ a b l ls, x = .ref a ∧ y = .ref b ∧ IL K H a l ∧ LL K H b ls ∧ Q (.bl (ls.contains l)) H
theorem op_eqIL (K : PySem.W.Frag) (hu : X.A.units + 64 < cLine) : OpR X (compareOp .Eq) (rEqIL K) := by
  intro pins s σ H x y v u Q I rx ry h
  obtain ⟨a, b, l, m, rfl, rfl, (h1 : IL X.K H a l), (h2 : IL X.K H b m), q⟩ := h
  exact op_eqD hu pins s σ H _ _ v u Q I rx ry ⟨_, _, dp_IL h1, dp_IL h2, shaped_dN _, shaped_dN _, by rw [eqv_dN]; exact q⟩
theorem op_neIL (K : PySem.W.Frag) (hu : X.A.units + 64 < cLine) : OpR X (compareOp .NotEq) (rNeIL K) := by
  intro pins s σ H x y v u Q I rx ry h
  obtain ⟨a, b, l, m, rfl, rfl, (h1 : IL X.K H a l), (h2 : IL X.K H b m), q⟩ := h
  exact op_neD hu pins s σ H _ _ v u Q I rx ry ⟨_, _, dp_IL h1, dp_IL h2, shaped_dN _, shaped_dN _, by rw [eqv_dN]; exact q⟩
/-- l in ls -/
theorem op_inLL (K : PySem.W.Frag) (hu : X.A.units + 64 < cLine) : OpR X (compareOp .In) (rInLL K) := by
  intro pins s σ H x y v u Q I rx ry h
  obtain ⟨a, b, l, ls, rfl, rfl, (h1 : IL X.K H a l), ⟨us, h2, (h3 : Paired (RL X.K H) us ls)⟩, q⟩ := h
  cases rx
  cases ry
  obtain ⟨its, r, pl, hz⟩ := I.list (SqL.of h2)
  classical
  have inj : ∀ {l m : List Nat}, l.map nV = m.map nV → l = m := by
    intro l
    induction l with
    | nil => intro m h; cases m with
      | nil => rfl
      | cons _ _ => simp at h
    | cons x l ih => intro m h; cases m with
      | nil => simp at h
      | cons y m =>
        rw [List.map_cons, List.map_cons] at h
        injection h with h1 h2
        injection h1 with h1
        rw [ih h2, show x = y by omega]
  let e : Value → Bool := fun u => decide (∃ c, u = Value.ref c ∧ IL X.K H c l)
  have he : ∀ {c : Addr} {m : List Nat}, IL X.K H c m → e (.ref c) = (m == l) := by
    intro c m hc
    rw [Bool.eq_iff_iff, beq_iff_eq]
    show decide _ = true ↔ _
    rw [decide_eq_true_iff]
    constructor
    · rintro ⟨c', ec, h⟩
      cases ec
      exact inj (I.list_inj hc.sq h.sq)
    · rintro rfl
      exact ⟨c, rfl, hc⟩
  have key : ∀ {us : List V} {its : List Value} {ls : List (List Nat)}, Vals us its → Paired (RL X.K H) us ls → its.any e = ls.any (fun m => m == l) ∧ ∀ u ∈ its, SeqAt.EqAt X.A.in1 s u (.ref a) (e u) := by
    intro us its ls r
    induction r generalizing ls with
    | nil => intro p; cases p; exact ⟨rfl, fun u hu => by cases hu⟩
    | cons rv rt ih =>
      intro p
      cases p with
      | cons pr pt =>
        obtain ⟨e1, e2⟩ := ih pt
        obtain ⟨c, rfl, hc⟩ := pr
        cases rv
        refine ⟨by rw [List.any_cons, List.any_cons, e1, he hc], fun u hu' => ?_⟩
        rcases List.mem_cons.mp hu' with rfl | hu'
        · obtain ⟨as, q1⟩ := Dp.reads I _ _ _ (dp_IL hc) rfl
          obtain ⟨bs, q2⟩ := Dp.reads I _ _ _ (dp_IL h1) rfl
          rw [he hc, ← eqv_dN]
          exact SeqAt.eqAt_reads _ _ _ _ _ _ _ _ q1 q2 (canLay_dN _) (canLay_dN _) (by
            rw [depth_list, depth_list]
            show X.A.units + 1 + 1 < cLine
            omega)
        · exact e2 u hu'
  obtain ⟨e1, e2⟩ := key r h3
  refine SeqAt.in_listAt e pl.isList (fun w hw => e2 w (by simpa using hw)) ⟨.bl _, H, I, rfl, ?_⟩
  rw [show its.toArray.any e = its.any e by simp, e1, ← contains_any]
  exact q
end
/-! ### l < m of lists of numbers of one length -/
theorem lexLt_cast : ∀ l m : List Nat, HT.lexLt (l.map fun (n : Nat) => (n : Int)) (m.map fun (n : Nat) => (n : Int)) = lexLt l m
  | [], [] => rfl
  | [], _ :: _ => rfl
  | _ :: _, [] => rfl
  | x :: l, y :: m => by
    rw [List.map_cons, List.map_cons, HT.lexLt_cons, lexLt_cast l m, show lexLt (x :: l) (y :: m) = if x = y then lexLt l m else decide (x < y) by rw [lexLt]]
    by_cases e : x = y
    · subst e; simp
    · have e' : ¬ (x : Int) = (y : Int) := by omega
      rw [if_neg e, if_neg e']
      rw [Bool.eq_iff_iff, decide_eq_true_iff, decide_eq_true_iff]
      omega
section
open PySem.SeqAt
open PySem.AutoSeq1 (wpAny_loadPart')
open PySem.MeetsSeq PySem.MeetsSeq2 PySem.MeetsSeq3
theorem intsAt {us : List Value} {ns : List Int} {i : Nat} (h : IntsAre us ns) (hi : i < ns.length) : ∃ t, us[i]? = some (.int ns[i] t) := by
  obtain ⟨t, e⟩ := h.get i ns[i] (List.getElem?_eq_getElem hi)
  exact ⟨t, e⟩
theorem lt_loopAt (l b : Addr) (items items2 : Array Value) (n n2 : Nat) (dd dd2 : Option Addr) (sl sl2 : Array (Option Value)) (ns ms : List Int) (hi : IntsAre items.toList ns) (hj : IntsAre items2.toList ms) (hsz : ns.length = ms.length) (k : Nat) :
    ∀ i : Nat, ns.length - i = k → Meets (Builtin.«list.__eq__.loop» ⟨[.ref l, .ref b, rawInt i, rawInt 0], []⟩)
      (fun A R s => s.heap.get? l = some { cls := .type "list", dict := dd, data := .seq items n, slots := sl } ∧ s.heap.get? b = some { cls := .type "list", dict := dd2, data := .seq items2 n2, slots := sl2 } ∧
        R (.ok (.ret (.bool (HT.lexLt (ns.drop i) (ms.drop i))))) s) := by
  have z1 : items.size = ns.length := by rw [← hi.length]; simp
  have z2 : items2.size = ms.length := by rw [← hj.length]; simp
  induction k with
  | zero =>
    intro i hk prog w A R s h
    obtain ⟨hp, g, d, tk, os⟩ := s; obtain ⟨hl, hb, h⟩ := h
    wp_walk using wpAny_loadPart' hl, wpAny_loadPart' hb
    have hi1 : items[((i : Nat) : Int).toNat]? = none := by simp; omega
    have hi2 : items2[((i : Nat) : Int).toNat]? = none := by simp; omega
    rw [List.drop_eq_nil_of_le (show ns.length ≤ i by omega), List.drop_eq_nil_of_le (show ms.length ≤ i by omega)] at h
    rw [hi1, hi2]
    wp_walk using wpAny_loadPart' hl, wpAny_loadPart' hb
    show R (.ok (.ret (.bool (decide (items.size < items2.size))))) _
    rw [decide_eq_false (by omega)]
    exact h
  | succ k ih =>
    intro i hk prog w A R s h
    obtain ⟨hp, g, d, tk, os⟩ := s; obtain ⟨hl, hb, h⟩ := h
    wp_walk using wpAny_loadPart' hl, wpAny_loadPart' hb
    have hlt : i < ns.length := by omega
    have hlt2 : i < ms.length := by omega
    obtain ⟨t, e1⟩ := intsAt hi hlt
    obtain ⟨u, e2⟩ := intsAt hj hlt2
    have hi1 : items[((i : Nat) : Int).toNat]? = some (.int ns[i] t) := by simpa using e1
    have hi2 : items2[((i : Nat) : Int).toNat]? = some (.int ms[i] u) := by simpa using e2
    have hc : ((i : Int) + 1) = ((i + 1 : Nat) : Int) := by push_cast; rfl
    rw [List.drop_eq_getElem_cons hlt, List.drop_eq_getElem_cons hlt2, HT.lexLt_cons] at h
    rw [hi1, hi2]
    obtain ⟨e, he, hiff⟩ := HT.eqAt_int A.in1 ⟨hp, g, d, tk, os⟩ ns[i] t ms[i] u
    refine wpAny_bind (he prog w _ _ ?_)
    cases e with
    | true =>
      rw [if_pos (hiff.mp rfl)] at h
      wp_walk
      rw [hc]
      exact ⟨plainId_quiet plain_eq_loop _, codeAny_builtin entry_eq_loop (by
        rw [Around.under_plainId plain_eq_loop _]
        exact ih (i + 1) (by omega) prog w A R _ ⟨hl, hb, h⟩)⟩
    | false =>
      rw [if_neg (fun q => absurd (hiff.mpr q) Bool.false_ne_true)] at h
      wp_walk using wpAny_loadPart' hl, wpAny_loadPart' hb
      rw [hi1, hi2]
      have hri := HT.rcLt_int A.in1 ⟨hp, g, d, tk, os⟩ ns[i] t ms[i] u prog w
      wp_walk using hri
      simpa using h
theorem list_lt_ints (l b : Addr) (items items2 : Array Value) (n n2 : Nat) (dd dd2 : Option Addr) (sl sl2 : Array (Option Value)) (ns ms : List Int) (hi : IntsAre items.toList ns) (hj : IntsAre items2.toList ms) (hsz : ns.length = ms.length) :
    Meets (Builtin.«list.__lt__» ⟨[.ref l, .ref b], []⟩)
      (fun A R s => s.heap.get? l = some { cls := .type "list", dict := dd, data := .seq items n, slots := sl } ∧ s.heap.get? b = some { cls := .type "list", dict := dd2, data := .seq items2 n2, slots := sl2 } ∧
        R (.ok (.ret (.bool (HT.lexLt ns ms)))) s) := by
  intro prog w A R s h
  obtain ⟨hp, g, d, tk, os⟩ := s; obtain ⟨hl, hb, h⟩ := h
  have f3 := AutoSeq1.sub_list_list
  wp_walk using wpAny_loadPart' hl, wpAny_loadPart' hb
  exact ⟨plainId_quiet plain_eq_loop _, codeAny_builtin entry_eq_loop (by
    rw [Around.under_plainId plain_eq_loop _]
    exact lt_loopAt l b items items2 n n2 dd dd2 sl sl2 ns ms hi hj hsz _ 0 rfl prog w A R _ ⟨hl, hb, h⟩)⟩
end
section
variable {prog : Program} {w : World} {A : Around} {E : Value → Shared → Prop} {s : Shared}
theorem lt_listInts {l b : Addr} {items items2 : Array Value} {ns ms : List Int} {Q : Value → Shared → Prop} (hl : s.heap.IsList l items) (hb : s.heap.IsList b items2) (hi : IntsAre items.toList ns) (hj : IntsAre items2.toList ms) (hsz : ns.length = ms.length)
    (hu : A.units < cLine) (h : Q (.bool (HT.lexLt ns ms)) s) : wpAny (model prog w) A (richCompare .Lt (.ref l) (.ref b)) Q E s := by
  obtain ⟨⟨cls, dd, data, sl⟩, ho, hc, n, hd⟩ := id hl
  obtain ⟨⟨cls2, dd2, data2, sl2⟩, ho2, hc2, n2, hd2⟩ := id hb
  simp only at hc hd hc2 hd2
  subst hc hd hc2 hd2
  exact richCompare_meets_room (op := .Lt) ⟨_, ho, rfl⟩ ⟨_, ho2, rfl⟩ PySem.F.slot_list_lt PySem.F.entry_list_lt (PySem.F.args_list_lt_2 _ _) (list_lt_ints l b items items2 n n2 dd dd2 sl sl2 ns ms hi hj hsz)
    ⟨ho, ho2, show Value.bool (HT.lexLt ns ms) ≠ Value.notImplemented ∧ Q (.bool (HT.lexLt ns ms)) s from ⟨(fun x => nomatch x), h⟩⟩ hu
end
end Dk
end
section
set_option Elab.async false
set_option linter.all false
set_option maxRecDepth 100000
set_option maxHeartbeats 2000000
namespace Dk
open PySem PySem.Spec PyProof.Rows L2
/-! ### within a builtin -/
noncomputable def in1 (X : Cx) : Cx := { X with A := X.A.in1 }
theorem ok_in1 {X : Cx} (h : X.Ok) : (in1 X).Ok := ⟨h.mod, h.kind, h.glob, h.blt, h.above, h.inj, h.has, h.cab, h.hd, h.frames, h.stk, h.exf, h.bs, h.bsz, h.noex, h.exfs, h.funs, h.frf⟩
theorem inv_in1 {X : Cx} {pins : List (Addr × Obj)} {σ : L2.St} {H : Hp} {s : Shared} (I : L2.Inv X pins σ H s) : L2.Inv (in1 X) pins σ H s := ⟨ok_in1 I.ok, I.os, I.bare, I.base, I.loc, I.cell, I.free, I.freeC, I.pin, I.hok, I.len⟩
theorem ok_out1 {X : Cx} (h : (in1 X).Ok) : X.Ok := ⟨h.mod, h.kind, h.glob, h.blt, h.above, h.inj, h.has, h.cab, h.hd, h.frames, h.stk, h.exf, h.bs, h.bsz, h.noex, h.exfs, h.funs, h.frf⟩
theorem inv_out1 {X : Cx} {pins : List (Addr × Obj)} {σ : L2.St} {H : Hp} {s : Shared} (I : L2.Inv (in1 X) pins σ H s) : L2.Inv X pins σ H s := ⟨ok_out1 I.ok, I.os, I.bare, I.base, I.loc, I.cell, I.free, I.freeC, I.pin, I.hok, I.len⟩
/-! ### min of a list of lists of numbers -/
theorem minL_snoc {a : List Nat} {r : List (List Nat)} {x : List Nat} : minL ((a :: r) ++ [x]) = if lexLt x (minL (a :: r)) = true then x else minL (a :: r) := by
  show (r ++ [x]).foldl _ a = _
  rw [List.foldl_append]
  rfl
theorem minL_take {ls : List (List Nat)} {j : Nat} {x : List Nat} (hj : ls[j + 1]? = some x) : minL (ls.take (j + 1 + 1)) = if lexLt x (minL (ls.take (j + 1))) = true then x else minL (ls.take (j + 1)) := by
  match ls, hj with
  | a :: r, hj =>
    have h2 : r[j]? = some x := by simpa using hj
    have e : (a :: r).take (j + 1 + 1) = ((a :: r).take (j + 1)) ++ [x] := by
      rw [List.take_add_one (i := j + 1), hj]
      rfl
    rw [e]
    show minL ((a :: r.take j) ++ [x]) = _
    rw [minL_snoc]
    rfl
theorem minL_len {n : Nat} : ∀ {ls : List (List Nat)}, (∀ l ∈ ls, l.length = n) → ls ≠ [] → (minL ls).length = n
  | [], _, h => absurd rfl h
  | a :: r, h, _ => by
    have key : ∀ (r : List (List Nat)) (m : List Nat), m.length = n → (∀ l ∈ r, l.length = n) → (r.foldl (fun m l => if lexLt l m = true then l else m) m).length = n := by
      intro r
      induction r with
      | nil => intro m hm _; exact hm
      | cons l r ih =>
        intro m hm h
        rw [List.foldl_cons]
        refine ih _ ?_ fun x hx => h x (List.mem_cons_of_mem _ hx)
        split
        · exact h l List.mem_cons_self
        · exact hm
    exact key r a (h a List.mem_cons_self) fun l hl => h l (List.mem_cons_of_mem _ hl)
theorem fp_set {X : Cx} {pins : List (Addr × Obj)} {σ : L2.St} {H : Hp} {s : Shared} {b : Addr} {h' : Heap} {t' : Nat} (I : L2.Inv X pins σ H s) (f : FpOk X pins H b) (k : ∀ c o, c ≠ b → s.heap.get? c = some o → h'.get? c = some o) :
    L2.Inv X pins σ H { s with heap := h', toks := t' } := by
  obtain ⟨f0, f1, f2, f3, f4, f5⟩ := f
  exact I.turned k f0 f1 f3 f4 f5
section
variable {X : Cx} {pins : List (Addr × Obj)} {σ : L2.St} {H : Hp}
theorem lt_IL {s : Shared} {a b : Addr} {l m : List Nat} {Q : Value → Shared → Prop} {E : Value → Shared → Prop} (hu : X.A.units + 64 < cLine) (I : L2.Inv X pins σ H s) (h1 : IL X.K H a l) (h2 : IL X.K H b m) (e : l.length = m.length) (q : Q (.bool (lexLt l m)) s) :
    wpAny (model X.prog X.w) X.A.in1 (richCompare .Lt (.ref a) (.ref b)) Q E s := by
  obtain ⟨its, r1, p1, _⟩ := I.list h1.sq
  obtain ⟨its2, r2, p2, _⟩ := I.list h2.sq
  have c1 : ∀ l : List Nat, l.map nV = (l.map fun (n : Nat) => (n : Int)).map V.int := fun l => by rw [List.map_map]; rfl
  rw [c1] at r1 r2
  refine lt_listInts p1.isList p2.isList (intsAre_of r1) (intsAre_of r2) (by rw [List.length_map, List.length_map]; exact e) (by show X.A.units + 1 < cLine; omega) ?_
  rw [lexLt_cast]
  exact q
theorem min_loopL {a : Addr} {us : List V} {ls : List (List Nat)} {n : Nat} (hc : X.calm = true) (hSq : SqL X.K H a us) (hP : Paired (RL X.K H) us ls) (hu : X.A.units + 64 < cLine) (hlen : ∀ l ∈ ls, l.length = n) {I S : Addr} (hIS : S ≠ I) {R : Result → Shared → Prop}
    (hR : ∀ v u s', L2.Inv X pins σ H s' → RelV v u → RL X.K H v (minL ls) → R (.ok (.ret u)) s') :
    ∀ (r j : Nat) (s : Shared) (ub : Value) (vb : V) (c : Nat), us.length - (j + 1) = r → j + 1 ≤ us.length → L2.Inv X pins σ H s → FpOk X pins H I → FpOk X pins H S → s.heap.IsListIter I a (j + 1) → s.heap.get? S = some (seqObj "list" #[ub, ub] c) →
      RelV vb ub → RL X.K H vb (minL (ls.take (j + 1))) → codeAny (model X.prog X.w) X.A (.builtin "min.loop" ⟨[.ref I, .none, .ref S], []⟩) R s := by
  have hname : (toString "min" ++ toString ".loop" : String) = "min.loop" := by decide
  have hul := paired_length hP
  intro r
  induction r with
  | zero =>
    intro j s ub vb c hr hj Iv fI fS hit hS rb hb
    have hin : j + 1 = us.length := by omega
    obtain ⟨its, rv, pl, _⟩ := Iv.list hSq
    have hvl := rv.length
    have hnI : a ≠ I := fun e => by
      obtain ⟨o, q1, q2, _⟩ := pl.isList
      obtain ⟨o', q3, q4, _⟩ := id hit
      rw [e, q3] at q1
      cases q1
      rw [q4] at q2
      exact absurd q2 (by decide)
    have W := Walks.list (prog := X.prog) (w := X.w) (A := X.A.in1) (Iv.ok.hd hc) I a hnI its.toArray
    have hsz : its.toArray.size = us.length := by rw [List.size_toArray]; exact hvl.symm
    refine codeAny_builtin PySem.F.entry_min_loop ?_
    rw [Around.under_plainId PySem.F.plain_min_loop _]
    show wpAny _ X.A.in1 (seqItems? (.ref S) >>= _) _ _ _
    refine wpAny_bind (wpAny_seqItems hS rfl ?_)
    show wpAny _ X.A.in1 (tryCatch (pyNext (.ref I)) _ >>= _) _ _ _
    refine wpAny_bind (wpAny_tryCatch (W.done _ _ _ ⟨by rw [hsz, ← hin]; exact hit, pl.isList⟩ fun h' tk' hk' => ?_))
    have I1 : L2.Inv X pins σ H { s with heap := h', toks := tk' } := fp_set Iv fI fun b o hb e => hk' b o (by simpa using hb) e
    have hS' := hk' S _ (by simpa using hIS) hS
    have s1 := Heap.SameBut.update h' S (Obj.mapSeq fun _ => (#[] : Array Value))
    show wpAny _ X.A.in1 (updateSeq S (fun _ => #[]) >>= _) _ _ _
    refine wpAny_bind ?_
    refine wpAny_updateSeq hS' rfl (wpAny_bind (wpAny_letGo (wpAny_pure ?_)))
    refine hR vb ub _ (fp_set I1 fS fun b o hb e => (s1.2 b hb).trans e) rb ?_
    rw [List.take_of_length_le (by omega)] at hb
    exact hb
  | succ r ih =>
    intro j s ub vb c hr hj Iv fI fS hit hS rb hb
    have hlt : j + 1 < us.length := by omega
    obtain ⟨its, rv, pl, _⟩ := Iv.list hSq
    have hvl := rv.length
    have hnI : a ≠ I := fun e => by
      obtain ⟨o, q1, q2, _⟩ := pl.isList
      obtain ⟨o', q3, q4, _⟩ := id hit
      rw [e, q3] at q1
      cases q1
      rw [q4] at q2
      exact absurd q2 (by decide)
    have W := Walks.list (prog := X.prog) (w := X.w) (A := X.A.in1) (Iv.ok.hd hc) I a hnI its.toArray
    have hsz : its.toArray.size = us.length := by rw [List.size_toArray]; exact hvl.symm
    refine codeAny_builtin PySem.F.entry_min_loop ?_
    rw [Around.under_plainId PySem.F.plain_min_loop _]
    show wpAny _ X.A.in1 (seqItems? (.ref S) >>= _) _ _ _
    refine wpAny_bind (wpAny_seqItems hS rfl ?_)
    show wpAny _ X.A.in1 (tryCatch (pyNext (.ref I)) _ >>= _) _ _ _
    refine wpAny_bind (wpAny_tryCatch (W.item (j + 1) _ _ _ (by rw [hsz]; exact hlt) ⟨hit, pl.isList⟩ fun v h' tk' hPv hst' hk' => ?_))
    have hv : its[j + 1]? = some v := by simpa using hPv
    have hu1 : ∃ x, us[j + 1]? = some x := ⟨_, List.getElem?_eq_getElem hlt⟩
    obtain ⟨x, hx⟩ := hu1
    obtain ⟨v', hv', rx⟩ := rv.get hx
    rw [hv] at hv'
    cases hv'
    obtain ⟨l, hl, hxl⟩ := paired_get hP hx
    obtain ⟨bx, rfl, hbx⟩ := hxl
    obtain ⟨bb, rfl, hbb⟩ := hb
    cases rx
    cases rb
    have I1 : L2.Inv X pins σ H { s with heap := h', toks := tk' } := fp_set Iv fI fun b o hb e => hk' b o (by simpa using hb) e
    have hS' := hk' S _ (by simpa using hIS) hS
    have le : l.length = (minL (ls.take (j + 1))).length := by
      rw [hlen l (List.mem_of_getElem? hl), minL_len (n := n) (fun m hm => hlen m (List.mem_of_mem_take hm)) (fun e => by
        have := congrArg List.length e
        rw [List.length_take, List.length_nil] at this
        omega)]
    show wpAny _ X.A.in1 (tryCatch (holding [.ref bx, .ref bx] (richCompare .Lt (.ref bx) (.ref bb) >>= _)) _ >>= _) _ _ _
    refine wpAny_bind (wpAny_tryCatch (wpAny_holding (wpAny_bind (lt_IL hu I1 hbx hbb le ?_))))
    refine wpAny_bind (wpAny_holding (wpAny_truthy_bool ?_))
    refine wpAny_bind (wpAny_letGo (wpAny_pure ?_))
    have mt := minL_take (ls := ls) (j := j) hl
    by_cases hb' : lexLt l (minL (ls.take (j + 1))) = true
    · have s1 := Heap.SameBut.update h' S (Obj.mapSeq fun _ => #[Value.ref bx, Value.ref bx])
      obtain ⟨c2, hc2⟩ : ∃ c2, (h'.update S (Obj.mapSeq fun _ => #[Value.ref bx, Value.ref bx])).get? S = some (seqObj "list" #[Value.ref bx, Value.ref bx] c2) := ⟨_, get?_update_seq hS' fun _ => #[Value.ref bx, Value.ref bx]⟩
      rw [if_pos hb'] at mt
      simp only [hb', if_true]
      refine wpAny_bind ?_
      refine wpAny_updateSeq hS' rfl (wpAny_bind (wpAny_letGo ?_))
      rw [hname]
      obtain ⟨oI, q1, q2⟩ := id hst'.1
      refine wpAny_pure ⟨plainId_quiet PySem.F.plain_min_loop _, ih (j + 1) _ _ (.ref bx) c2 (by omega) hlt (fp_set I1 fS fun b o hb e => (s1.2 b hb).trans e) fI fS ⟨oI, (s1.2 I hIS.symm).trans q1, q2⟩ hc2 rfl ?_⟩
      rw [mt]
      exact ⟨bx, rfl, hbx⟩
    · rw [if_neg hb'] at mt
      simp only [hb', Bool.false_eq_true, if_false]
      refine wpAny_bind (wpAny_letGo ?_)
      rw [hname]
      refine wpAny_pure ⟨plainId_quiet PySem.F.plain_min_loop _, ih (j + 1) _ _ (.ref bb) c (by omega) hlt I1 fI fS hst'.1 hS' rfl ?_⟩
      rw [mt]
      exact ⟨bb, rfl, hbb⟩
end
noncomputable def rMin (K : PySem.W.Frag) : List V → Hp → VK → Prop := fun xs H Q => ∃ a ls n, xs = [.ref a] ∧ LL K H a ls ∧ ls ≠ [] ∧ (∀ l ∈ ls, l.length = n) ∧ ∀ v, RL K H v (minL ls) → Q v H
theorem call_minLL {X : Cx} (K : PySem.W.Frag) (hc : X.calm = true) (hu : X.A.units + 64 < cLine) : CallR X (.builtin "min") (rMin K) := by
  have hname : (toString "min" ++ toString ".loop" : String) = "min.loop" := by decide
  intro pins s σ H xs us' Q Iv r h
  obtain ⟨a, ls, n, rfl, ⟨us, hUs, (hP : Paired (RL X.K H) us ls)⟩, hne, hlen, (q : ∀ v, RL X.K H v (minL ls) → Q v H)⟩ := h
  have hSq : SqL X.K H a us := SqL.of hUs
  obtain ⟨u, rfl, rx⟩ := vals1 r
  cases rx
  have hul := paired_length hP
  have hpos : 0 < us.length := by
    rw [hul]
    cases ls with
    | nil => exact absurd rfl hne
    | cons _ _ => exact Nat.succ_pos _
  obtain ⟨its, rv, pl, _⟩ := Iv.list hSq
  have hvl := rv.length
  have hll : a < s.heap.objs.size := by
    obtain ⟨o, q1, _⟩ := pl.isList
    exact Heap.lt_size q1
  refine call_function_tree F.kind_min F.plain_min F.entry_min (F.args_min1 _) ?_
  show wpAny _ X.A.in1 (Builtin.Builtins.bindParams "min" ["key", "default"] 0 ⟨[], []⟩ >>= _) _ _ s
  refine wpAny_bind (wpAny_of_eq (show Builtin.Builtins.bindParams "min" ["key", "default"] 0 ⟨[], []⟩ = pure [none, none] from rfl) ?_)
  refine wpAny_bind (wpAny_pure ?_)
  refine wpAny_bind (wpAny_pyIter_list pl.isList ?_)
  refine wpAny_bind (wpAny_newObj_type ?_)
  rw [hname]
  have I1 : L2.Inv X pins σ H { s with heap := s.heap.push { cls := .type "list_iterator", data := .fields #[.ref a, .int 0 0] } } := Iv.kept (t' := s.toks) fun b o e => Heap.get?_push_of_some _ e
  have fI : FpOk X pins H s.heap.objs.size := Iv.fpOk (Nat.le_refl _) (Iv.hok.fresh (Nat.le_refl _))
  have hSI : (s.heap.push { cls := .type "list_iterator", data := .fields #[.ref a, .int 0 0] }).objs.size ≠ s.heap.objs.size := by rw [Heap.size_push]; exact Nat.ne_of_gt (Nat.lt_succ_self _)
  have fS : FpOk X pins H (s.heap.push { cls := .type "list_iterator", data := .fields #[.ref a, .int 0 0] }).objs.size := I1.fpOk (Nat.le_refl _) (I1.hok.fresh (Nat.le_refl _))
  have I2 : L2.Inv X pins σ H { s with heap := (s.heap.push { cls := .type "list_iterator", data := .fields #[.ref a, .int 0 0] }).push (seqObj "list" #[] 0) } := I1.kept (t' := s.toks) fun b o e => Heap.get?_push_of_some _ e
  have gI : ((s.heap.push { cls := .type "list_iterator", data := .fields #[.ref a, .int 0 0] }).push (seqObj "list" #[] 0)).get? s.heap.objs.size = some { cls := .type "list_iterator", data := .fields #[.ref a, .int 0 0] } :=
    Heap.get?_push_of_some _ (Heap.get?_push_size _ rfl)
  have gS : ((s.heap.push { cls := .type "list_iterator", data := .fields #[.ref a, .int 0 0] }).push (seqObj "list" #[] 0)).get? (s.heap.push { cls := .type "list_iterator", data := .fields #[.ref a, .int 0 0] }).objs.size = some (seqObj "list" #[] 0) := Heap.get?_push_size _ rfl
  obtain ⟨its, rv, pl, _⟩ := I2.list hSq
  have hvl := rv.length
  have hnI : a ≠ s.heap.objs.size := Nat.ne_of_lt hll
  have W := Walks.list (prog := X.prog) (w := X.w) (A := X.A.in1) (Iv.ok.hd hc) s.heap.objs.size a hnI its.toArray
  have hsz : its.toArray.size = us.length := by rw [List.size_toArray]; exact hvl.symm
  refine wpAny_pure ⟨plainId_quiet PySem.F.plain_min_loop _, ?_⟩
  refine codeAny_builtin PySem.F.entry_min_loop ?_
  rw [Around.under_plainId PySem.F.plain_min_loop _]
  show wpAny _ X.A.in1 (seqItems? (.ref _) >>= _) _ _ _
  refine wpAny_bind (wpAny_seqItems gS rfl ?_)
  show wpAny _ X.A.in1 (tryCatch (pyNext (.ref s.heap.objs.size)) _ >>= _) _ _ _
  refine wpAny_bind (wpAny_tryCatch (W.item 0 _ _ _ (by rw [hsz]; exact hpos) ⟨⟨_, gI, rfl, rfl⟩, pl.isList⟩ fun v h' tk' hPv hst' hk' => ?_))
  have hv : its[0]? = some v := by simpa using hPv
  obtain ⟨x, hx⟩ : ∃ x, us[0]? = some x := ⟨_, List.getElem?_eq_getElem hpos⟩
  obtain ⟨v', hv', rx⟩ := rv.get hx
  rw [hv] at hv'
  cases hv'
  obtain ⟨l, hl, hxl⟩ := paired_get hP hx
  obtain ⟨bx, rfl, hbx⟩ := hxl
  cases rx
  have kk : ∀ b o, b ≠ s.heap.objs.size → ((s.heap.push { cls := .type "list_iterator", data := .fields #[.ref a, .int 0 0] }).push (seqObj "list" #[] 0)).get? b = some o → h'.get? b = some o := fun b o hb e => hk' b o (by simpa using hb) e
  have I3 : L2.Inv X pins σ H { s with heap := h', toks := tk' } := by
    have z := fp_set (h' := h') (t' := tk') I2 fI kk
    exact z
  have hS' := hk' _ _ (by simpa using hSI) gS
  have s1 := Heap.SameBut.update h' (s.heap.push { cls := .type "list_iterator", data := .fields #[.ref a, .int 0 0] }).objs.size (Obj.mapSeq fun _ => #[Value.ref bx, Value.ref bx])
  obtain ⟨c2, hc2⟩ : ∃ c2, (h'.update (s.heap.push { cls := .type "list_iterator", data := .fields #[.ref a, .int 0 0] }).objs.size (Obj.mapSeq fun _ => #[Value.ref bx, Value.ref bx])).get? (s.heap.push { cls := .type "list_iterator", data := .fields #[.ref a, .int 0 0] }).objs.size = some (seqObj "list" #[Value.ref bx, Value.ref bx] c2) := ⟨_, get?_update_seq hS' fun _ => #[Value.ref bx, Value.ref bx]⟩
  show wpAny _ X.A.in1 (updateSeq (s.heap.push { cls := .type "list_iterator", data := .fields #[.ref a, .int 0 0] }).objs.size (fun _ => #[Value.ref bx, Value.ref bx]) >>= _) _ _ _
  refine wpAny_bind ?_
  refine wpAny_updateSeq hS' rfl ?_
  rw [hname]
  obtain ⟨oI, q1, q2⟩ := id hst'.1
  refine wpAny_pure ⟨plainId_quiet PySem.F.plain_min_loop _, min_loopL hc hSq hP hu hlen hSI (fun v u s' I' r' q' => ⟨v, H, I', r', q v q'⟩) _ 0 _ _ (.ref bx) c2 rfl (by omega) (fp_set I3 fS fun b o hb e => (s1.2 b hb).trans e) fI fS ⟨oI, (s1.2 _ hSI.symm).trans q1, q2⟩ hc2 rfl ?_⟩
  refine ⟨bx, rfl, ?_⟩
  have e : minL (ls.take (0 + 1)) = l := by
    cases ls with
    | nil => exact absurd rfl hne
    | cons b r =>
      have : b = l := Option.some.inj hl
      subst this
      rfl
  rw [e]
  exact hbx
/-! ### list(range(n)) -/
theorem call_list_rng {X : Cx} (hc : X.calm = true) : CallR X (.type "list") (fun xs H Q => ∃ (r : Addr) (n : Nat), xs = [.ref r] ∧ H r = some (.rng 0 (n : Int)) ∧ n ≤ 1000 ∧ ∀ l, H l = none → Q (.ref l) (upd H l (.lst ((List.range n).map nV)))) := by
  intro pins s σ H xs us Q I r h
  obtain ⟨ra, n, rfl, hr, hn, q⟩ := h
  obtain ⟨u, rfl, rx⟩ := vals1 r
  cases rx
  obtain ⟨t, t', t'', e⟩ := I.hok _ _ hr
  have hsz : Builtin.Range.rangeSize 0 (n : Int) 1 = n := by rw [rangeSize_one]; split <;> omega
  refine call_list_range (I.ok.hd hc) e (small_one (by omega) (by omega) (by omega) (by omega)) hsz (by omega) fun h' tk acc c' kp hS hacc => ?_
  have hv : Vals ((List.range n).map nV) acc.toList := by
    obtain ⟨z, hit⟩ := hacc
    have key : ∀ (m : Nat) (us : List Value), us.length = m → (∀ (j : Nat) (v : Value), us[j]? = some v → ∃ t, v = Value.int (0 + (j : Int) * 1) t) → Vals ((List.range m).map nV) us := by
      intro m
      induction m with
      | zero => intro us h _; rw [List.eq_nil_of_length_eq_zero h]; exact .nil
      | succ m ih =>
        intro us h hj
        have hd : us = us.take m ++ us.drop m := (List.take_append_drop m us).symm
        have hl : (us.drop m).length = 1 := by rw [List.length_drop]; omega
        obtain ⟨u, hu⟩ := List.length_eq_one_iff.mp hl
        rw [hd, hu, List.range_succ, List.map_append]
        refine Vals.append (ih _ (by rw [List.length_take]; omega) fun j v hv => ?_) (.cons ?_ .nil)
        · rw [List.getElem?_take] at hv
          split at hv
          · exact hj j v hv
          · cases hv
        · have : us[m]? = some u := by
            have e0 : (us.drop m)[0]? = some u := by rw [hu]; rfl
            rw [List.getElem?_drop] at e0
            exact e0
          obtain ⟨t, rfl⟩ := hj m u this
          exact ⟨t, by simp⟩
    exact key n acc.toList (by simpa using z) fun j v hjv => hit j v (by simpa using hjv)
  refine ⟨.ref s.heap.objs.size, _, I.laid (t' := tk) kp (Nat.le_refl _) (show ObjOk X.prog X.w _ h' _ (.lst ((List.range n).map nV)) from ⟨?_, acc.toList, c', hv, hS⟩), rfl, q _ (I.hok.fresh (Nat.le_refl _))⟩
  rw [List.length_map, List.length_range]
  exact size9 hn
/-- range(n) as a value -/
theorem pe_rng {X : Cx} {a : Expr} {ta : TA} {p pos : Pos} (hg : Gl X "range") (hm : X.mg "range" = none) (ha : PA X [a] ta) (hs : starEach [a] X.env = [(false, eval a X.env)] := by rfl) :
    PE X (.Call (.Name "range" p) [a] [] pos) (fun σ H Q => ta σ H fun vs H1 => ∃ j : Nat, vs = [nV j] ∧ ∀ r, H1 r = none → Q (.ref r) (upd H1 r (.rng 0 (j : Int)))) := by
  intro pins s σ H Q I h
  refine Call_ (ld_blt I hg hm boot_range (PyProof.Rows.callWith_type1 (thn (ha pos pins s σ H _ I h) fun us s1 ⟨vs, H1, I1, r1, q1⟩ => ?_) hs rfl))
  obtain ⟨j, e, q⟩ := q1
  subst e
  cases r1 with
  | cons r rr =>
    cases rr
    obtain ⟨t, rfl⟩ := r
    refine call_range_1 ?_
    exact ⟨.ref s1.heap.objs.size, _, I1.laid (fun b o e => Heap.get?_push_of_some _ e) (Nat.le_refl _) (show ObjOk X.prog X.w _ _ _ (.rng 0 (j : Int)) from ⟨_, _, _, Heap.get?_push_size _ rfl⟩), rfl, q _ (I1.hok.fresh (Nat.le_refl _))⟩
end Dk
end
section
set_option Elab.async false
set_option linter.all false
set_option maxRecDepth 100000
set_option maxHeartbeats 2000000
namespace Dk
open PySem PySem.Spec PyProof.Rows L2
/-! ### the text by places -/
noncomputable def top (i : Nat) : Stmt := PySem.Challenge.pw_darkkeys_s01_answers.main.body.getD i (.Pass ⟨0, 0, 0, 0⟩)
/-- what of the builtins the module's names leave as they are -/
structure Env1 (mg : Str → Option Value) : Prop where
  range : mg "range" = none
  len : mg "len" = none
  list : mg "list" = none
  enumerate : mg "enumerate" = none
  min : mg "min" = none
  all : mg "all" = none
/-- a def that keeps its promise, as a name of the module -/
structure Def (P : Program) (w : World) (K : PySem.W.Frag) (mg : Str → Option Value) (base : Heap) (x : Str) (k : Nat) (ps : List Str) (sp : Sp) : Prop where
  ex : ∃ f fd, FnOk P w K mg base CX0 k f fd ps sp ∧ mg x = some (.ref f) ∧ PySem.W.keepIn K (.ref f) = true ∧ Binds K fd ps []
theorem pe_def {X : Cx} {x : Str} {j k : Nat} {ps : List Str} {sp : Sp} {p pos : Pos} {e : Expr} {es : List Expr} {t : TA} (D : Def X.prog X.w X.K X.mg X.base x k ps sp) (hr : Room j X.A) (hj : k ≤ j) (hg : Gl X x) (ha : PA X (e :: es) t)
    (hdb : (x == ("__debug__" : Str)) = false := by decide) (he : starEach (e :: es) X.env = (false, eval e X.env) :: starEach es X.env := by rfl) (hpl : (backTo pos (starEach es X.env)).any (·.1) = false := by rfl) :
    PE X (.Call (.Name x p) (e :: es) [] pos) (tCall sp [] E0 t) := by
  obtain ⟨f, fd, F, hm, hk, hb⟩ := D.ex
  exact pe_call F (hr.mono hj) hg hm hk hb .nil pass0 ha hdb he hpl
noncomputable abbrev oV (o : Bool) : V := V.int (if o = true then 1 else 0)
noncomputable abbrev sTurnBy : Stmt := top 9
noncomputable abbrev sTurnOver : Stmt := top 10
noncomputable abbrev sAllTurns : Stmt := top 11
noncomputable abbrev sTurned : Stmt := top 12
noncomputable abbrev sShows : Stmt := top 13
noncomputable abbrev sSilent : Stmt := top 14
noncomputable abbrev sSilentN : Stmt := top 15
noncomputable abbrev sReached : Stmt := top 16
noncomputable abbrev sAlike : Stmt := top 17
noncomputable abbrev sTold : Stmt := top 18
noncomputable abbrev sLooks : Stmt := top 19
noncomputable abbrev sForm : Stmt := top 20
section
variable {P : Program} {w : World} {K : PySem.W.Frag} {mg : Str → Option Value} {base : Heap}
/-! #### turn_by, turn_over_by -/
noncomputable def spTurnBy (K : PySem.W.Frag) : Sp := fun vs H Q _ => ∃ n s : Nat, vs = [nV n, nV s] ∧ 0 < n ∧ n ≤ 9 ∧ ∀ H' p, Same H H' → H p = none → IL K H' p (turnBy n s) → Q (.ref p) H'
noncomputable abbrev nmTurnBy : List Str := ["many", "step", "place"]
theorem scTurnBy : FnScope nmTurnBy ["many", "step"] (defScope sTurnBy) := ⟨rfl, rfl, rfl, by decide +kernel, rfl, by decide +kernel, by decide +kernel⟩
theorem ok_turn_by {f : Addr} {fd : FuncData} (F : Fun K "turn_by" "turn_by" sTurnBy f fd) (T : Env1 mg) : FnOk P w K mg base CX0 1 f fd ["many", "step"] (spTurnBy K) := by
  refine F.ok scTurnBy (fun vs H Q E h => ?_) (fun cdv A outer s H vs Q E hr h => ?_)
  · obtain ⟨n, s, rfl, _⟩ := h
    rfl
  · obtain ⟨n, s, rfl, h0, h9, k⟩ := h
    refine ⟨_, pss_one (ps_ret (pe_lc rfl scTurnBy.nd (pi_range1 rfl T.range (pa_cons (pv 0) pa_nil)) (blk_of (N := nmTurnBy) (sc := defScope sTurnBy) (own := [("place", 2)]) rfl rfl (by decide +kernel)) (fun _ _ _ _ _ => pg_name (i := 2) scTurnBy.nd rfl (Or.inl rfl)) (fun _ _ _ _ _ => pts_nil)
      (fun _ _ _ _ _ => pe_op op_mod (pe_op op_add (pv 2) (pv 1)) (pv 0)))), ?_⟩
    refine ⟨_, rfl, (n : Int), rfl, by omega, by omega, fun D hD => ?_⟩
    refine lcF RI RI.mono n (fun _ => true) (fun i => (i + s) % n) hD (size9 (by omega)) go_rng stop_rng ?_ ?_
    · rintro i H2 x H2' K1 K2 hi s2 hDs ⟨rfl, rfl⟩ k1 k2
      refine ⟨rfl, ?_⟩
      refine ⟨_, rfl, _, rfl, _, _, rfl, rfl, _, rfl, _, _, rfl, rfl, (by omega), ?_⟩
      refine k1 _ _ same_refl ?_ rfl
      show V.int _ = V.int _
      congr 1
      simp
    · intro H2 us s2 hus hp
      rw [range_all] at hp
      exact k H2 D s2 hD (IL_of hus hp)
noncomputable def spTurnOver (K : PySem.W.Frag) : Sp := fun vs H Q _ => ∃ n s : Nat, vs = [nV n, nV s] ∧ 0 < n ∧ n ≤ 9 ∧ ∀ H' p, Same H H' → H p = none → IL K H' p (turnOver n s) → Q (.ref p) H'
theorem scTurnOver : FnScope nmTurnBy ["many", "step"] (defScope sTurnOver) := ⟨rfl, rfl, rfl, by decide +kernel, rfl, by decide +kernel, by decide +kernel⟩
theorem ok_turn_over {f : Addr} {fd : FuncData} (F : Fun K "turn_over_by" "turn_over_by" sTurnOver f fd) (T : Env1 mg) : FnOk P w K mg base CX0 1 f fd ["many", "step"] (spTurnOver K) := by
  refine F.ok scTurnOver (fun vs H Q E h => ?_) (fun cdv A outer s H vs Q E hr h => ?_)
  · obtain ⟨n, s, rfl, _⟩ := h
    rfl
  · obtain ⟨n, s, rfl, h0, h9, k⟩ := h
    refine ⟨_, pss_one (ps_ret (pe_lc rfl scTurnOver.nd (pi_range1 rfl T.range (pa_cons (pv 0) pa_nil)) (blk_of (N := nmTurnBy) (sc := defScope sTurnOver) (own := [("place", 2)]) rfl rfl (by decide +kernel)) (fun _ _ _ _ _ => pg_name (i := 2) scTurnOver.nd rfl (Or.inl rfl)) (fun _ _ _ _ _ => pts_nil)
      (fun _ _ _ _ _ => pe_op op_mod (pe_op op_sub (pv 1) (pv 2)) (pv 0)))), ?_⟩
    refine ⟨_, rfl, (n : Int), rfl, by omega, by omega, fun D hD => ?_⟩
    refine lcF RI RI.mono n (fun _ => true) (fun i => (s + n - i) % n) hD (size9 (by omega)) go_rng stop_rng ?_ ?_
    · rintro i H2 x H2' K1 K2 hi s2 hDs ⟨rfl, rfl⟩ k1 k2
      refine ⟨rfl, ?_⟩
      refine ⟨_, rfl, _, rfl, _, _, rfl, rfl, _, rfl, _, _, rfl, rfl, (by omega), ?_⟩
      refine k1 _ _ same_refl ?_ rfl
      show V.int _ = V.int _
      congr 1
      have e : ((s : Int) - (0 + (i : Int))) % (n : Int) = ((s + n - i : Nat) : Int) % (n : Int) := by
        rw [show ((s + n - i : Nat) : Int) = ((s : Int) - (0 + (i : Int))) + (n : Int) by omega, Int.add_emod_right]
      rw [e]
      exact (Int.natCast_emod _ _).symm
    · intro H2 us s2 hus hp
      rw [range_all] at hp
      exact k H2 D s2 hD (IL_of hus hp)
/-! #### all_turns -/
noncomputable def spAllTurns (K : PySem.W.Frag) : Sp := fun vs H Q _ => ∃ (n : Nat) (o : Bool), vs = [nV n, oV o] ∧ 0 < n ∧ n ≤ 9 ∧ ∀ H' p, Same H H' → H p = none → LL K H' p (allTurns n o) → Q (.ref p) H'
noncomputable abbrev nmAllTurns : List Str := ["many", "over", "turns", "step"]
theorem scAllTurns : FnScope nmAllTurns ["many", "over"] (defScope sAllTurns) := ⟨rfl, rfl, rfl, by decide +kernel, rfl, by decide +kernel, by decide +kernel⟩
theorem ok_all_turns {f : Addr} {fd : FuncData} (F : Fun K "all_turns" "all_turns" sAllTurns f fd) (T : Env1 mg) (D1 : Def P w K mg base "turn_by" 1 ["many", "step"] (spTurnBy K)) (D2 : Def P w K mg base "turn_over_by" 1 ["many", "step"] (spTurnOver K)) :
    FnOk P w K mg base CX0 2 f fd ["many", "over"] (spAllTurns K) := by
  refine F.ok scAllTurns (fun vs H Q E h => ?_) (fun cdv A outer s H vs Q E hr h => ?_)
  · obtain ⟨n, s, rfl, _⟩ := h
    rfl
  · obtain ⟨n, o, rfl, h0, h9, k⟩ := h
    refine ⟨_, pss_cons (ps_setLc (i := 2) (y := "turns") rfl scAllTurns.nd rfl rfl (sw_true rfl rfl rfl rfl) (pi_range1 rfl T.range (pa_cons (pv 0) pa_nil)) (blk_of (N := nmAllTurns) (sc := defScope sAllTurns) (own := [("step", 3)]) rfl rfl (by decide +kernel)) (fun _ _ _ _ _ => pg_name (i := 3) scAllTurns.nd rfl (Or.inl rfl)) (fun _ _ _ _ _ => pts_nil)
        (fun _ _ _ _ _ => pe_def D1 hr (Nat.le_refl _) rfl (pa_cons (pv 0) (pa_cons (pv 3) pa_nil))))
      (pss_cons (ps_if (pt_cmpR op_eq (pv 1) pe_int (nomark _)) (pss_one (ps_expr (pe_bm PySem.F.plainAttrs_list PySem.F.slot_list_extend PySem.F.type_list_extend mt_extend (pv 2) (pa_cons
        (pe_lc rfl scAllTurns.nd (pi_range1 rfl T.range (pa_cons (pv 0) pa_nil)) (blk_of (N := nmAllTurns) (sc := defScope sAllTurns) (own := [("step", 3)]) rfl rfl (by decide +kernel)) (fun _ _ _ _ _ => pg_name (i := 3) scAllTurns.nd rfl (Or.inl rfl)) (fun _ _ _ _ _ => pts_nil)
          (fun _ _ _ _ _ => pe_def D2 hr (Nat.le_refl _) rfl (pa_cons (pv 0) (pa_cons (pv 3) pa_nil)))) pa_nil)))) pss_nil)
      (pss_one (ps_ret (pv 2)))), ?_⟩
    refine ⟨_, rfl, (n : Int), rfl, by omega, by omega, fun D hD => ?_⟩
    refine lcF (RL K) RL.mono n (fun _ => true) (turnBy n) hD (size9 (by omega)) go_rng stop_rng ?_ ?_
    · rintro i H2 x H2' K1 K2 hi s2 hDs ⟨rfl, rfl⟩ k1 k2
      refine ⟨rfl, ?_⟩
      refine ⟨_, rfl, _, rfl, n, i, ?_, h0, h9, fun H3 p s3 fp il => ?_⟩
      · simp
      · exact k1 _ _ s3 ⟨p, rfl, il.del (ne_new hDs fp)⟩ rfl
    · intro H2 us s2 hus hp
      rw [range_all] at hp
      refine ⟨_, rfl, rfl, _, rfl, ?_⟩
      cases o with
      | false =>
        refine iteF ?_
        refine ⟨_, rfl, k H2 D s2 hD ?_⟩
        refine LL_of hus ?_
        unfold allTurns
        rw [if_neg (by simp), List.append_nil]
        exact hp
      | true =>
        refine iteT ?_
        refine ⟨_, rfl, .inl ⟨rfl, _, SqL.of hus⟩, ?_⟩
        refine ⟨_, rfl, (n : Int), rfl, by omega, by omega, fun D2 hD2 => ?_⟩
        refine lcF (fun H v l => RL K (del H D) v l) (fun s q => RL.mono (same_del2 s) q) n (fun _ => true) (turnOver n) hD2 (size9 (by omega)) go_rng stop_rng ?_ ?_
        · rintro i H3 x H3' K1 K2 hi s3 hDs ⟨rfl, rfl⟩ k1 k2
          refine ⟨rfl, ?_⟩
          refine ⟨_, rfl, _, rfl, n, i, ?_, h0, h9, fun H4 p s4 fp il => ?_⟩
          · simp
          · exact k1 _ _ s4 ⟨p, rfl, (il.del (ne_new hDs fp)).del (ne_new ⟨_, s3 _ _ hus⟩ fp)⟩ rfl
        · intro H3 us3 s3 hus3 hp3
          rw [range_all] at hp3
          have l1 := paired_length hp
          have l2 := paired_length hp3
          rw [List.length_map, List.length_range] at l1 l2
          refine ⟨D, D2, us, us3, rfl, rfl, s3 _ _ hus, hus3, size9 (by omega), ?_⟩
          refine ⟨_, rfl, k _ D (fun b o e => ?_) hD ?_⟩
          · rw [upd_ne (ne_of_none e hD)]
            exact s3 _ _ (s2 _ _ e)
          · refine ⟨_, upd_same, ?_⟩
            unfold allTurns
            rw [if_pos rfl]
            refine paired_append (Paired.mapP hp fun _ _ q => RL.mono (fun b o e => ?_) q) (Paired.mapP hp3 fun _ _ q => RL.mono (fun b o e => ?_) q)
            · obtain ⟨e1, e2⟩ := del_some e
              rw [upd_ne e1]
              exact s3 _ _ e2
            · obtain ⟨e1, e2⟩ := del_some e
              rw [upd_ne e1]
              exact (del_some e2).2
end
end Dk
end
section
set_option Elab.async false
set_option linter.all false
set_option maxRecDepth 100000
set_option maxHeartbeats 2000000
namespace Dk
open PySem PySem.Spec PyProof.Rows L2
/-- over enumerate of a list that the body leaves as it is -/
theorem for_enm {K : PySem.W.Frag} {a : Addr} {xs : List V} {g : TG} {tb : TS} {D : Ends} {σ : L2.St} {H : Hp} (Pv : Nat → L2.St → Hp → Prop) (h0 : Pv 0 σ H) (hl : ∀ i σ H, i ≤ xs.length → Pv i σ H → SqL K H a xs)
    (hs : ∀ i x σ H T, xs[i]? = some x → H T = none → Pv i σ H → g (.ref T) σ (upd H T (.tup [.int (i : Nat), x])) fun σ2 H2 => tb { D with nx := Pv (i + 1), ct := Pv (i + 1), bk := D.nx } σ2 H2) (hd : ∀ σ H, Pv xs.length σ H → D.nx σ H) :
    ∃ W : Nat → Nat → L2.St → Hp → Prop, (∃ m, W 0 m σ H) ∧ ∀ i m σ H, W i m σ H →
      ((Ite K a).stop i H ∧ D.nx σ H) ∨ ((Ite K a).go i H ∧ ∃ N : L2.St → Hp → Prop, (∀ σ' H', N σ' H' → ∃ m', m' < m ∧ W (i + 1) m' σ' H') ∧ ∀ x H', (Ite K a).yld i H x H' → g x σ H' fun σ2 H2 => tb { D with nx := N, ct := N, bk := D.nx } σ2 H2) := by
  refine ⟨fun i m σ H => m = xs.length - i ∧ i ≤ xs.length ∧ Pv i σ H, ⟨xs.length, by simp, Nat.zero_le _, h0⟩, ?_⟩
  rintro i m σ H ⟨rfl, hi, p⟩
  have q := hl i σ H hi p
  by_cases hlt : i < xs.length
  · refine .inr ⟨⟨xs, xs[i], q, by simp [hlt]⟩, Pv (i + 1), fun σ' H' p' => ⟨xs.length - (i + 1), by omega, rfl, hlt, p'⟩, fun x H' y => ?_⟩
    obtain ⟨T, x, rfl, hT, rfl, y⟩ := y
    exact hs i x σ _ T (y xs q) hT p
  · have e : i = xs.length := by omega
    subst e
    exact .inl ⟨⟨xs, q, Nat.le_refl _⟩, hd σ H p⟩
theorem ixN_of {n j : Nat} (h : j < n) : ixN n (j : Int) = some j := by
  unfold ixN
  rw [if_pos (by omega), if_pos (by omega)]
  simp
theorem map_set (l : List Nat) (j x : Nat) : (l.map nV).set j (nV x) = (l.set j x).map nV := by
  rw [List.map_set]
theorem getD_mem {l : List Nat} {i : Nat} (h : i < l.length) : l.getD i 0 ∈ l := by
  rw [List.getD_eq_getElem?_getD, List.getElem?_eq_getElem h]
  exact List.getElem_mem h
section
variable {P : Program} {w : World} {K : PySem.W.Frag} {mg : Str → Option Value} {base : Heap}
/-! #### turned -/
noncomputable def spTurned (K : PySem.W.Frag) : Sp := fun vs H Q _ => ∃ (a b : Addr) (l t : List Nat), vs = [.ref a, .ref b] ∧ IL K H a l ∧ IL K H b t ∧ l.length ≤ 9 ∧ t.length = l.length ∧ (∀ p ∈ t, p < l.length) ∧ ∀ H' p, Same H H' → H p = none → IL K H' p (turned l t) → Q (.ref p) H'
noncomputable abbrev nmTurned : List Str := ["heads", "turn", "behind", "place", "head"]
theorem scTurned : FnScope nmTurned ["heads", "turn"] (defScope sTurned) := ⟨rfl, rfl, rfl, by decide +kernel, rfl, by decide +kernel, by decide +kernel⟩
theorem ok_turned {f : Addr} {fd : FuncData} (F : Fun K "turned" "turned" sTurned f fd) (T : Env1 mg) : FnOk P w K mg base CX0 1 f fd ["heads", "turn"] (spTurned K) := by
  refine F.ok scTurned (fun vs H Q E h => ?_) (fun cdv A outer s H vs Q E hr h => ?_)
  · obtain ⟨a, b, l, t, rfl, _⟩ := h
    rfl
  · obtain ⟨a, b, l, t, rfl, ha, hb, h9, ht, hp, k⟩ := h
    refine ⟨_, pss_cons (ps_set (i := 2) scTurned.nd rfl (Or.inl rfl) (pe_callTy call_list_of (by rfl) T.list PyProof.Rows.boot_list (pa_cons (pv 0) pa_nil)))
      (pss_cons (ps_for PassesOwn.never rfl (pi_enum rfl T.enumerate (pa_cons (pv 0) pa_nil)) (pg_tup rfl (pgs_cons (pg_name (i := 3) scTurned.nd rfl (Or.inl rfl)) (pgs_cons (pg_name (i := 4) scTurned.nd rfl (Or.inl rfl)) pgs_nil)))
        (pss_one (ps_asg (pv 4) (pg_sub (pv 2) (pe_ix ix_list (pv 1) (pv 3) (fun _ _ => rfl)) set_list))))
      (pss_one (ps_ret (pv 2)))), ?_⟩
    refine ⟨_, rfl, a, _, rfl, .inl ha.sq, fun c hc => ?_⟩
    have s1 : Same H (upd H c (.lst (l.map nV))) := same_upd hc
    refine ⟨_, rfl, a, _, rfl, s1.seq ha.sq, for_enm (K := K) (a := a) (xs := l.map nV) (fun i σ H' => ∃ v3 v4 : Option V, σ = [some (.ref a), some (.ref b), some (.ref c), v3, v4] ∧ Same H H' ∧ IL K H' c (turnedTo l t i))
      ⟨none, none, rfl, s1, upd_same⟩ (fun i σ H' _ ⟨_, _, _, s2, _⟩ => s2.seq ha.sq) ?_ ?_⟩
    · rintro i x σ H' T' hx hT ⟨v3, v4, rfl, s2, il⟩
      obtain ⟨hi, rfl⟩ := nv_at hx
      have s3 : Same H' (upd H' T' (.tup [.int (i : Nat), nV (l.getD i 0)])) := same_upd hT
      have hti : t.getD i 0 < l.length := hp _ (getD_mem (by omega))
      refine ⟨T', _, rfl, SqT.of upd_same, rfl, _, _, rfl, _, _, rfl, rfl, ?_⟩
      refine ⟨_, rfl, _, rfl, _, rfl, _, rfl, b, _, _, _, rfl, rfl, (s3.seq (s2.seq hb.sq)), atI_nat (hb.at (by omega)), c, _, _, t.getD i 0, rfl, rfl, s3 _ _ il, ixN_of (by rw [List.length_map, turnedTo_length]; exact hti), ?_⟩
      refine ⟨_, _, rfl, fun b' o e => ?_, ?_⟩
      · rw [upd_ne (ne_of_none e hc)]
        exact s3 _ _ (s2 _ _ e)
      · rw [turnedTo_succ]
        show upd _ _ _ _ = _
        rw [upd_same, map_set]
    · rintro σ H' ⟨v3, v4, rfl, s2, il⟩
      refine ⟨_, rfl, k H' c s2 hc ?_⟩
      rw [List.length_map] at il
      exact il
/-! #### shows_nothing -/
noncomputable def spShows (K : PySem.W.Frag) : Sp := fun vs H Q _ => ∃ (a b : Addr) (l t : List Nat), vs = [.ref a, .ref b] ∧ IL K H a l ∧ IL K H b t ∧ l.length ≤ 9 ∧ t.length = l.length ∧ (∀ p ∈ t, p < l.length) ∧ ∀ H', Same H H' → Q (.bl (shows0 l t)) H'
noncomputable abbrev nmShows : List Str := ["heads", "turn"]
theorem scShows : FnScope nmShows ["heads", "turn"] (defScope sShows) := ⟨rfl, rfl, rfl, by decide +kernel, rfl, by decide +kernel, by decide +kernel⟩
theorem ok_shows {f : Addr} {fd : FuncData} (F : Fun K "shows_nothing" "shows_nothing" sShows f fd) (D1 : Def P w K mg base "turned" 1 ["heads", "turn"] (spTurned K)) : FnOk P w K mg base CX0 2 f fd ["heads", "turn"] (spShows K) := by
  refine F.ok scShows (fun vs H Q E h => ?_) (fun cdv A outer s H vs Q E hr h => ?_)
  · obtain ⟨a, b, l, t, rfl, _⟩ := h
    rfl
  · obtain ⟨a, b, l, t, rfl, ha, hb, h9, ht, hp, k⟩ := h
    refine ⟨_, pss_one (ps_ret (pe_cmpR (op_eqIL K hr.units) (pe_def D1 hr (Nat.le_refl _) rfl (pa_cons (pv 0) (pa_cons (pv 1) pa_nil))) (pv 0) (nomark _))), ?_⟩
    refine ⟨_, rfl, _, rfl, a, b, l, t, rfl, ha, hb, h9, ht, hp, fun H' p s' fp il => ?_⟩
    exact ⟨_, rfl, p, a, _, l, rfl, rfl, il, ha.mono s', k H' s'⟩
/-! #### silent_turns, silent_numbers -/
noncomputable def spSilent (K : PySem.W.Frag) : Sp := fun vs H Q _ => ∃ (a : Addr) (l : List Nat) (o : Bool), vs = [.ref a, oV o] ∧ IL K H a l ∧ 0 < l.length ∧ l.length ≤ 9 ∧ ∀ H' p, Same H H' → H p = none → LL K H' p (silentTurns l o) → Q (.ref p) H'
noncomputable abbrev nmSilent : List Str := ["heads", "over", "turn"]
theorem scSilent : FnScope nmSilent ["heads", "over"] (defScope sSilent) := ⟨rfl, rfl, rfl, by decide +kernel, rfl, by decide +kernel, by decide +kernel⟩
theorem allTurns_length {n : Nat} {o : Bool} : (allTurns n o).length ≤ 2 * n := by
  unfold allTurns
  rw [List.length_append, List.length_map, List.length_range]
  cases o with
  | false => simp; omega
  | true => simp; omega
theorem LL.get {K : PySem.W.Frag} {H : Hp} {us : List V} {ls : List (List Nat)} {i : Nat} {x : V} (h : Paired (RL K H) us ls) (e : us[i]? = some x) : ∃ b, x = .ref b ∧ IL K H b (ls.getD i []) ∧ i < ls.length := by
  obtain ⟨l, hl, b, rfl, il⟩ := paired_get h e
  refine ⟨b, rfl, ?_, (List.getElem?_eq_some_iff.mp hl).1⟩
  rw [List.getD_eq_getElem?_getD, hl]
  exact il
theorem getD_mem' {ls : List (List Nat)} {i : Nat} (h : i < ls.length) : ls.getD i [] ∈ ls := by
  rw [List.getD_eq_getElem?_getD, List.getElem?_eq_getElem h]
  exact List.getElem_mem h
theorem ok_silent {f : Addr} {fd : FuncData} (F : Fun K "silent_turns" "silent_turns" sSilent f fd) (T : Env1 mg) (D1 : Def P w K mg base "all_turns" 2 ["many", "over"] (spAllTurns K)) (D2 : Def P w K mg base "shows_nothing" 2 ["heads", "turn"] (spShows K)) :
    FnOk P w K mg base CX0 3 f fd ["heads", "over"] (spSilent K) := by
  refine F.ok scSilent (fun vs H Q E h => ?_) (fun cdv A outer s H vs Q E hr h => ?_)
  · obtain ⟨a, l, o, rfl, _⟩ := h
    rfl
  · obtain ⟨a, l, o, rfl, ha, h0, h9, k⟩ := h
    refine ⟨_, pss_one (ps_ret (pe_lc rfl scSilent.nd (pi_list (pe_def D1 hr (Nat.le_refl _) rfl (pa_cons (pe_callB call_len_seq (by rfl) T.len PySem.boot_len (pa_cons (pv 0) pa_nil)) (pa_cons (pv 1) pa_nil)))) (blk_of (N := nmSilent) (sc := defScope sSilent) (own := [("turn", 2)]) rfl rfl (by decide +kernel))
      (fun _ _ _ _ _ => pg_name (i := 2) scSilent.nd rfl (Or.inl rfl)) (fun _ _ _ _ _ => pts_one (pt_val (pe_def D2 hr (Nat.le_refl _) rfl (pa_cons (pv 0) (pa_cons (pv 2) pa_nil)))))
      (fun _ _ _ _ _ => pv 2))), ?_⟩
    refine ⟨_, rfl, a, _, rfl, .inl ha.sq, _, rfl, l.length, o, by simp, h0, h9, fun H1 p s1 fp ll => ?_⟩
    obtain ⟨us, hus, hp⟩ := ll
    have hlen := paired_length hp
    have h2n := allTurns_length (n := l.length) (o := o)
    refine ⟨p, rfl, ⟨us, SqL.of hus⟩, fun D hD => ?_⟩
    refine lcF (RL K) RL.mono us.length (fun i => shows0 l ((allTurns l.length o).getD i [])) (fun i => (allTurns l.length o).getD i []) hD (size9 (by omega)) (go_lst (SqL.of hus)) (stop_lst (SqL.of hus)) ?_ ?_
    · rintro i H2 x H2' K1 K2 hi s2 hDs y k1 k2
      obtain ⟨rfl, hx⟩ := yld_lst (s2.seq (SqL.of hus)) y
      obtain ⟨b, rfl, il, hi'⟩ := LL.get hp hx
      obtain ⟨m1, m2⟩ := allTurns_mem h0 (getD_mem' hi')
      refine ⟨rfl, ?_⟩
      refine ⟨_, rfl, _, rfl, a, b, l, _, rfl, ha.mono (s1.trans s2), il.mono s2, h9, m1, m2, fun H3 s3 => ⟨_, rfl, ?_⟩⟩
      cases e : shows0 l ((allTurns l.length o).getD i []) with
      | true =>
        refine iteT ⟨_, rfl, k1 _ _ s3 ⟨b, rfl, il.mono (same_to_del (s2.trans s3) hD)⟩ e⟩
      | false => exact iteF (k2 _ s3 e)
    · intro H2 us2 s2 hus2 hp2
      rw [hlen, filter_getD (d := ([] : List Nat)) (q := shows0 l) (allTurns l.length o)] at hp2
      exact k H2 D (s1.trans s2) (s1.free hD) (LL_of hus2 hp2)
noncomputable def spSilentN (K : PySem.W.Frag) : Sp := fun vs H Q _ => ∃ (a : Addr) (l : List Nat) (o : Bool), vs = [.ref a, oV o] ∧ IL K H a l ∧ 0 < l.length ∧ l.length ≤ 9 ∧ ∀ H' p, Same H H' → H p = none → IL K H' p (silentNumbers l o) → Q (.ref p) H'
noncomputable abbrev nmSilentN : List Str := ["heads", "over", "turns", "number", "turn"]
theorem scSilentN : FnScope nmSilentN ["heads", "over"] (defScope sSilentN) := ⟨rfl, rfl, rfl, by decide +kernel, rfl, by decide +kernel, by decide +kernel⟩
theorem ok_silentN {f : Addr} {fd : FuncData} (F : Fun K "silent_numbers" "silent_numbers" sSilentN f fd) (T : Env1 mg) (D1 : Def P w K mg base "all_turns" 2 ["many", "over"] (spAllTurns K)) (D2 : Def P w K mg base "shows_nothing" 2 ["heads", "turn"] (spShows K)) :
    FnOk P w K mg base CX0 3 f fd ["heads", "over"] (spSilentN K) := by
  refine F.ok scSilentN (fun vs H Q E h => ?_) (fun cdv A outer s H vs Q E hr h => ?_)
  · obtain ⟨a, l, o, rfl, _⟩ := h
    rfl
  · obtain ⟨a, l, o, rfl, ha, h0, h9, k⟩ := h
    refine ⟨_, pss_cons (ps_set (i := 2) scSilentN.nd rfl (Or.inl rfl) (pe_def D1 hr (Nat.le_refl _) rfl (pa_cons (pe_callB call_len_seq (by rfl) T.len PySem.boot_len (pa_cons (pv 0) pa_nil)) (pa_cons (pv 1) pa_nil))))
      (pss_one (ps_ret (pe_lc (g := gTup K 2 (gCons (gName 3) (gCons (gName 4) gNil))) rfl scSilentN.nd (pi_enum rfl T.enumerate (pa_cons (pv 2) pa_nil)) (blk_of (N := nmSilentN) (sc := defScope sSilentN) (own := [("number", 3), ("turn", 4)]) rfl rfl (by decide +kernel))
      (fun _ _ _ _ _ => pg_tup (n := 2) rfl (pgs_cons (pg_name (i := 3) scSilentN.nd rfl (Or.inl rfl) (.inr rfl)) (pgs_cons (pg_name (i := 4) scSilentN.nd rfl (Or.inl rfl) (.inr rfl)) pgs_nil))) (fun _ _ _ _ _ => pts_one (pt_val (pe_def D2 hr (Nat.le_refl _) rfl (pa_cons (pv 0) (pa_cons (pv 4) pa_nil)))))
      (fun _ _ _ _ _ => pv 3)))), ?_⟩
    refine ⟨_, rfl, a, _, rfl, .inl ha.sq, _, rfl, l.length, o, by simp, h0, h9, fun H1 p s1 fp ll => ?_⟩
    obtain ⟨us, hus, hp⟩ := ll
    have hlen := paired_length hp
    have h2n := allTurns_length (n := l.length) (o := o)
    refine ⟨_, rfl, p, us, rfl, SqL.of hus, fun D hD => ?_⟩
    refine lcF RI RI.mono us.length (fun i => shows0 l ((allTurns l.length o).getD i [])) (fun i => i) hD (size9 (by omega)) (go_enm (SqL.of hus)) (stop_enm (SqL.of hus)) ?_ ?_
    · rintro i H2 x H2' K1 K2 hi s2 hDs y k1 k2
      obtain ⟨T', x', rfl, hT, rfl, y⟩ := y
      have hx := y us (s2.seq (SqL.of hus))
      obtain ⟨b, rfl, il, hi'⟩ := LL.get hp hx
      obtain ⟨m1, m2⟩ := allTurns_mem h0 (getD_mem' hi')
      have s3 : Same H2 (upd H2 T' (.tup [.int (i : Nat), .ref b])) := same_upd hT
      refine ⟨T', _, rfl, SqT.of upd_same, rfl, _, _, rfl, _, _, rfl, rfl, rfl, ?_⟩
      refine ⟨_, rfl, _, rfl, a, b, l, _, rfl, ha.mono (s1.trans (s2.trans s3)), il.mono (s2.trans s3), h9, m1, m2, fun H3 s4 => ⟨_, rfl, ?_⟩⟩
      cases e : shows0 l ((allTurns l.length o).getD i []) with
      | true => exact iteT ⟨_, rfl, k1 _ _ (s3.trans s4) rfl e⟩
      | false => exact iteF (k2 _ (s3.trans s4) e)
    · intro H2 us2 s2 hus2 hp2
      rw [range_id, hlen] at hp2
      exact k H2 D (s1.trans s2) (s1.free hD) (IL_of hus2 hp2)
end
end Dk
end
section
set_option Elab.async false
set_option linter.all false
set_option maxRecDepth 100000
set_option maxHeartbeats 2000000
namespace Dk
open PySem PySem.Spec PyProof.Rows L2
theorem inV_nat : ∀ (l : List Nat) (x : Nat), inV (nV x) (l.map nV) = l.contains x
  | [], _ => rfl
  | y :: l, x => by
    have ih := inV_nat l x
    unfold inV at ih ⊢
    rw [List.map_cons, List.any_cons, ih]
    show (((y : Int) == (x : Int)) || l.contains x) = (y :: l).contains x
    rw [List.contains_cons]
    congr 1
    by_cases e : y = x
    · subst e; simp
    · rw [beq_eq_false_iff_ne.mpr (show ¬ (y : Int) = (x : Int) by omega)]
      exact (beq_eq_false_iff_ne.mpr fun z => e z.symm).symm
theorem flat_nat (l : List Nat) : (l.map nV).all flatV = true := by
  rw [List.all_eq_true]
  intro v hv
  obtain ⟨n, _, rfl⟩ := List.mem_map.mp hv
  rfl
section
variable {P : Program} {w : World} {K : PySem.W.Frag} {mg : Str → Option Value} {base : Heap}
/-! #### reached_places -/
noncomputable def spReached (K : PySem.W.Frag) : Sp := fun vs H Q _ => ∃ (a : Addr) (ts : List (List Nat)) (p n : Nat), vs = [.ref a, nV p] ∧ LL K H a ts ∧ ts ≠ [] ∧ ts.length ≤ 18 ∧ (∀ t ∈ ts, t.length = n) ∧ p < n ∧ n ≤ 9 ∧ ∀ H' q, Same H H' → H q = none → IL K H' q (reached n ts p) → Q (.ref q) H'
noncomputable abbrev nmReached : List Str := ["turns", "place", "reached", "turn", "other"]
theorem scReached : FnScope nmReached ["turns", "place"] (defScope sReached) := ⟨rfl, rfl, rfl, by decide +kernel, rfl, by decide +kernel, by decide +kernel⟩
theorem ok_reached {f : Addr} {fd : FuncData} (F : Fun K "reached_places" "reached_places" sReached f fd) (T : Env1 mg) : FnOk P w K mg base CX0 1 f fd ["turns", "place"] (spReached K) := by
  refine F.ok scReached (fun vs H Q E h => ?_) (fun cdv A outer s H vs Q E hr h => ?_)
  · obtain ⟨a, ts, p, n, rfl, _⟩ := h
    rfl
  · obtain ⟨a, ts, p, n, rfl, ⟨us, hus, hp⟩, hne, h18, hlen, hpn, h9, k⟩ := h
    refine ⟨_, pss_cons (ps_set (i := 2) scReached.nd rfl (Or.inr rfl) (pe_lc (te := tOp (rIxL K) (tVar 3) (tVar 1)) rfl scReached.nd (pi_list (pv 0)) (blk_of (N := nmReached) (sc := defScope sReached) (own := [("turn", 3)]) rfl rfl (by decide +kernel))
        (fun _ _ _ _ _ => pg_name (i := 3) scReached.nd rfl (Or.inl rfl)) (fun _ _ _ _ _ => pts_nil) (fun _ _ _ _ _ => pe_ix ix_list (pv 3) (pv 1) (fun _ _ => rfl))))
      (pss_one (ps_ret (pe_lc (tt := tTest (tOp (rIn K false) (tVar 4) (tVar 2))) rfl scReached.nd (pi_range1 rfl T.range (pa_cons (pe_callB call_len_seq (by rfl) T.len PySem.boot_len (pa_cons (pe_ix ix_list (pv 0) pe_int (fun _ _ => rfl)) pa_nil)) pa_nil)) (blk_of (N := nmReached) (sc := defScope sReached) (own := [("other", 4)]) rfl rfl (by decide +kernel))
        (fun _ _ _ _ _ => pg_name (i := 4) scReached.nd rfl (Or.inl rfl)) (fun _ _ _ _ _ => pts_one (pt_cmpR op_in_seq (pv 4) (pv 2) (by with_unfolding_all rfl))) (fun _ _ _ _ _ => pv 4)))), ?_⟩
    have hul := paired_length hp
    refine ⟨_, rfl, a, rfl, ⟨us, SqL.of hus⟩, fun D hD => ?_⟩
    refine lcF RI RI.mono us.length (fun _ => true) (fun i => (ts.getD i []).getD p 0) hD (size9 (by omega)) (go_lst (SqL.of hus)) (stop_lst (SqL.of hus)) ?_ ?_
    · rintro i H2 x H2' K1 K2 hi s2 hDs y k1 k2
      obtain ⟨rfl, hx⟩ := yld_lst (s2.seq (SqL.of hus)) y
      obtain ⟨b, rfl, il, hi'⟩ := LL.get hp hx
      have hl := hlen _ (getD_mem' hi')
      refine ⟨rfl, ?_⟩
      refine ⟨_, rfl, _, rfl, b, _, _, _, rfl, rfl, (il.mono s2).sq, atI_nat (il.at (by omega)), ?_⟩
      exact k1 _ _ same_refl rfl rfl
    · intro H2 us2 s2 hus2 hp2
      rw [hul, map_getD (f := fun t : List Nat => t.getD p 0) (d := ([] : List Nat)) ts] at hp2
      have il2 : IL K H2 D (ts.map fun t => t.getD p 0) := IL_of hus2 hp2
      obtain ⟨t0, tr, rfl⟩ : ∃ t0 tr, ts = t0 :: tr := by
        cases ts with
        | nil => exact absurd rfl hne
        | cons t0 tr => exact ⟨t0, tr, rfl⟩
      cases hp with
      | cons p0 pr =>
        obtain ⟨b0, rfl, il0⟩ := p0
        refine ⟨_, rfl, a, _, 0, _, rfl, rfl, s2.seq (SqL.of hus), atI_nat (j := 0) rfl, ?_⟩
        refine ⟨b0, _, rfl, .inl (il0.mono s2).sq, ?_⟩
        have hl0 := hlen t0 List.mem_cons_self
        refine ⟨(n : Int), ?_, by omega, by omega, fun D2 hD2 => ?_⟩
        · rw [List.length_map, hl0]
        · refine lcF RI RI.mono n (fun i => ((t0 :: tr).map fun t => t.getD p 0).contains i) (fun i => i) hD2 (size9 (by omega)) go_rng stop_rng ?_ ?_
          · rintro i H3 x H3' K1 K2 hi s3 hDs ⟨rfl, rfl⟩ k1 k2
            refine ⟨rfl, ?_⟩
            refine ⟨_, rfl, _, rfl, D, _, rfl, .inl (il2.mono s3).sq, rfl, flat_nat _, _, rfl, ?_⟩
            rw [show (0 + (i : Int)) = (i : Int) by omega]
            rw [inV_nat]
            cases e : ((t0 :: tr).map fun t => t.getD p 0).contains i with
            | true =>
              refine iteT ⟨_, rfl, k1 _ _ same_refl ?_ e⟩
              show V.int _ = V.int _
              simp
            | false => exact iteF (k2 _ same_refl e)
          · intro H3 us3 s3 hus3 hp3
            rw [range_id] at hp3
            exact k H3 D2 (s2.trans s3) (s2.free hD2) (IL_of hus3 hp3)
/-! #### alike_places -/
noncomputable def spAlike (K : PySem.W.Frag) : Sp := fun vs H Q _ => ∃ (a : Addr) (l : List Nat) (o : Bool) (p : Nat), vs = [.ref a, oV o, nV p] ∧ IL K H a l ∧ l.length ≤ 9 ∧ p < l.length ∧ ∀ H' q, Same H H' → H q = none → IL K H' q (alikeP l o p) → Q (.ref q) H'
noncomputable abbrev nmAlike : List Str := ["heads", "over", "place"]
theorem scAlike : FnScope nmAlike ["heads", "over", "place"] (defScope sAlike) := ⟨rfl, rfl, rfl, by decide +kernel, rfl, by decide +kernel, by decide +kernel⟩
theorem silent_ne {l : List Nat} {o : Bool} (h : 0 < l.length) : silentTurns l o ≠ [] := by
  obtain ⟨r, e⟩ := silent_first h o
  rw [e]
  exact List.cons_ne_nil _ _
theorem silent_18 {l : List Nat} {o : Bool} (h : l.length ≤ 9) : (silentTurns l o).length ≤ 18 := by
  have h1 : (silentTurns l o).length ≤ (allTurns l.length o).length := List.length_filter_le _ _
  have h2 := allTurns_length (n := l.length) (o := o)
  omega
theorem ok_alike {f : Addr} {fd : FuncData} (F : Fun K "alike_places" "alike_places" sAlike f fd) (D1 : Def P w K mg base "silent_turns" 3 ["heads", "over"] (spSilent K)) (D2 : Def P w K mg base "reached_places" 1 ["turns", "place"] (spReached K)) :
    FnOk P w K mg base CX0 4 f fd ["heads", "over", "place"] (spAlike K) := by
  refine F.ok scAlike (fun vs H Q E h => ?_) (fun cdv A outer s H vs Q E hr h => ?_)
  · obtain ⟨a, l, o, p, rfl, _⟩ := h
    rfl
  · obtain ⟨a, l, o, p, rfl, ha, h9, hp, k⟩ := h
    refine ⟨_, pss_one (ps_ret (pe_def D2 hr (by decide) rfl (pa_cons (pe_def D1 hr (Nat.le_refl _) rfl (pa_cons (pv 0) (pa_cons (pv 1) pa_nil))) (pa_cons (pv 2) pa_nil)))), ?_⟩
    refine ⟨_, rfl, _, rfl, a, l, o, rfl, ha, by omega, h9, fun H1 q s1 fq ll => ?_⟩
    exact ⟨_, rfl, q, _, p, l.length, rfl, ll, silent_ne (by omega), silent_18 h9, fun t ht => silent_len ht, hp, h9, fun H2 q2 s2 f2 il => k H2 q2 (s1.trans s2) (s1.free f2) il⟩
/-! #### told_places -/
noncomputable def spTold (K : PySem.W.Frag) : Sp := fun vs H Q _ => ∃ (a : Addr) (l : List Nat) (o : Bool), vs = [.ref a, oV o] ∧ IL K H a l ∧ 0 < l.length ∧ l.length ≤ 9 ∧ ∀ H' q, Same H H' → H q = none → IL K H' q (toldP l o) → Q (.ref q) H'
noncomputable abbrev nmTold : List Str := ["heads", "over", "turns", "place"]
theorem scTold : FnScope nmTold ["heads", "over"] (defScope sTold) := ⟨rfl, rfl, rfl, by decide +kernel, rfl, by decide +kernel, by decide +kernel⟩
theorem ok_told {f : Addr} {fd : FuncData} (F : Fun K "told_places" "told_places" sTold f fd) (T : Env1 mg) (D1 : Def P w K mg base "silent_turns" 3 ["heads", "over"] (spSilent K)) (D2 : Def P w K mg base "reached_places" 1 ["turns", "place"] (spReached K)) :
    FnOk P w K mg base CX0 4 f fd ["heads", "over"] (spTold K) := by
  refine F.ok scTold (fun vs H Q E h => ?_) (fun cdv A outer s H vs Q E hr h => ?_)
  · obtain ⟨a, l, o, rfl, _⟩ := h
    rfl
  · obtain ⟨a, l, o, rfl, ha, h0, h9, k⟩ := h
    refine ⟨_, pss_cons (ps_set (i := 2) scTold.nd rfl (Or.inr rfl) (pe_def D1 hr (Nat.le_refl _) rfl (pa_cons (pv 0) (pa_cons (pv 1) pa_nil))))
      (pss_one (ps_ret (pe_lc rfl scTold.nd (pi_range1 rfl T.range (pa_cons (pe_callB call_len_seq (by rfl) T.len PySem.boot_len (pa_cons (pv 0) pa_nil)) pa_nil)) (blk_of (N := nmTold) (sc := defScope sTold) (own := [("place", 3)]) rfl rfl (by decide +kernel))
        (fun _ _ _ _ _ => pg_name (i := 3) scTold.nd rfl (Or.inl rfl)) (fun _ _ _ _ _ => pts_one (pt_cmpR (op_eqIL K hr.units) (pe_def D2 hr (by decide) rfl (pa_cons (pv 2) (pa_cons (pv 3) pa_nil))) (pe_lst (pa_cons (pv 3) pa_nil)) (nomark _))) (fun _ _ _ _ _ => pv 3)))), ?_⟩
    refine ⟨_, rfl, _, rfl, a, l, o, rfl, ha, h0, h9, fun H1 q s1 fq ll => ?_⟩
    refine ⟨_, rfl, a, _, rfl, .inl (ha.mono s1).sq, (l.length : Int), by rw [List.length_map], by omega, by omega, fun D hD => ?_⟩
    refine lcF RI RI.mono l.length (fun p => reached l.length (silentTurns l o) p == [p]) (fun i => i) hD (size9 (by omega)) go_rng stop_rng ?_ ?_
    · rintro i H2 x H2' K1 K2 hi s2 hDs ⟨rfl, rfl⟩ k1 k2
      refine ⟨rfl, ?_⟩
      refine ⟨_, rfl, _, rfl, q, _, i, l.length, ?_, ll.mono s2, silent_ne h0, silent_18 h9, fun t ht => silent_len ht, hi, h9, fun H3 q3 s3 f3 il => ?_⟩
      · simp
      · refine ⟨_, rfl, (by show 1 ≤ sizeLine; decide), fun q4 f4 => ?_⟩
        have s4 : Same H3 (upd H3 q4 (.lst [nV i])) := same_upd f4
        refine ⟨q3, q4, _, [i], rfl, rfl, il.mono ?_, ?_, _, rfl, ?_⟩
        · refine same_upd f4
        · show upd _ _ _ _ = _
          rw [upd_same]
          simp
        · cases e : reached l.length (silentTurns l o) i == [i] with
          | true =>
            refine iteT ⟨_, rfl, k1 _ _ (s3.trans (same_upd f4)) ?_ e⟩
            show V.int _ = V.int _
            simp
          | false => exact iteF (k2 _ (s3.trans (same_upd f4)) e)
    · intro H2 us2 s2 hus2 hp2
      rw [range_id] at hp2
      exact k H2 D (s1.trans s2) (s1.free hD) (IL_of hus2 hp2)
/-! #### all_looks, form_of -/
noncomputable def spLooks (K : PySem.W.Frag) : Sp := fun vs H Q _ => ∃ (a : Addr) (l : List Nat) (o : Bool), vs = [.ref a, oV o] ∧ IL K H a l ∧ 0 < l.length ∧ l.length ≤ 9 ∧ ∀ H' q, Same H H' → H q = none → LL K H' q (allLooks l o) → Q (.ref q) H'
noncomputable abbrev nmLooks : List Str := ["heads", "over", "turn"]
theorem scLooks : FnScope nmLooks ["heads", "over"] (defScope sLooks) := ⟨rfl, rfl, rfl, by decide +kernel, rfl, by decide +kernel, by decide +kernel⟩
theorem ok_looks {f : Addr} {fd : FuncData} (F : Fun K "all_looks" "all_looks" sLooks f fd) (T : Env1 mg) (D1 : Def P w K mg base "all_turns" 2 ["many", "over"] (spAllTurns K)) (D2 : Def P w K mg base "turned" 1 ["heads", "turn"] (spTurned K)) :
    FnOk P w K mg base CX0 3 f fd ["heads", "over"] (spLooks K) := by
  refine F.ok scLooks (fun vs H Q E h => ?_) (fun cdv A outer s H vs Q E hr h => ?_)
  · obtain ⟨a, l, o, rfl, _⟩ := h
    rfl
  · obtain ⟨a, l, o, rfl, ha, h0, h9, k⟩ := h
    refine ⟨_, pss_one (ps_ret (pe_lc rfl scLooks.nd (pi_list (pe_def D1 hr (Nat.le_refl _) rfl (pa_cons (pe_callB call_len_seq (by rfl) T.len PySem.boot_len (pa_cons (pv 0) pa_nil)) (pa_cons (pv 1) pa_nil)))) (blk_of (N := nmLooks) (sc := defScope sLooks) (own := [("turn", 2)]) rfl rfl (by decide +kernel))
      (fun _ _ _ _ _ => pg_name (i := 2) scLooks.nd rfl (Or.inl rfl)) (fun _ _ _ _ _ => pts_nil)
      (fun _ _ _ _ _ => pe_def D2 hr (by decide) rfl (pa_cons (pv 0) (pa_cons (pv 2) pa_nil))))), ?_⟩
    refine ⟨_, rfl, a, _, rfl, .inl ha.sq, _, rfl, l.length, o, by simp, h0, h9, fun H1 p s1 fp ll => ?_⟩
    obtain ⟨us, hus, hp⟩ := ll
    have hlen := paired_length hp
    have h2n := allTurns_length (n := l.length) (o := o)
    refine ⟨p, rfl, ⟨us, SqL.of hus⟩, fun D hD => ?_⟩
    refine lcF (RL K) RL.mono us.length (fun _ => true) (fun i => turned l ((allTurns l.length o).getD i [])) hD (size9 (by omega)) (go_lst (SqL.of hus)) (stop_lst (SqL.of hus)) ?_ ?_
    · rintro i H2 x H2' K1 K2 hi s2 hDs y k1 k2
      obtain ⟨rfl, hx⟩ := yld_lst (s2.seq (SqL.of hus)) y
      obtain ⟨b, rfl, il, hi'⟩ := LL.get hp hx
      obtain ⟨m1, m2⟩ := allTurns_mem h0 (getD_mem' hi')
      refine ⟨rfl, ?_⟩
      refine ⟨_, rfl, _, rfl, a, b, l, _, rfl, ha.mono (s1.trans s2), il.mono s2, h9, m1, m2, fun H3 q s3 fq il3 => ?_⟩
      exact k1 _ _ s3 ⟨q, rfl, il3.del (ne_new hDs fq)⟩ rfl
    · intro H2 us2 s2 hus2 hp2
      rw [hlen, map_getD (f := turned l) (d := ([] : List Nat)) (allTurns l.length o)] at hp2
      exact k H2 D (s1.trans s2) (s1.free hD) (LL_of hus2 hp2)
theorem allTurns_ne {n : Nat} {o : Bool} (h : 0 < n) : allTurns n o ≠ [] := by
  rw [allTurns_eq]
  obtain ⟨r, e⟩ := turns_cons h o
  rw [e]
  exact List.cons_ne_nil _ _
theorem looks_ne {l : List Nat} {o : Bool} (h : 0 < l.length) : allLooks l o ≠ [] := by
  unfold allLooks
  intro e
  exact allTurns_ne h (List.map_eq_nil_iff.mp e)
theorem looks_len {l : List Nat} {o : Bool} : ∀ m ∈ allLooks l o, m.length = l.length := by
  intro m hm
  obtain ⟨t, _, rfl⟩ := List.mem_map.mp hm
  exact turned_length l t
noncomputable def spForm (K : PySem.W.Frag) : Sp := fun vs H Q _ => ∃ (a : Addr) (l : List Nat) (o : Bool), vs = [.ref a, oV o] ∧ IL K H a l ∧ 0 < l.length ∧ l.length ≤ 9 ∧ ∀ H' q, Same H H' → IL K H' q (formOf l o) → Q (.ref q) H'
noncomputable abbrev nmForm : List Str := ["heads", "over"]
theorem scForm : FnScope nmForm ["heads", "over"] (defScope sForm) := ⟨rfl, rfl, rfl, by decide +kernel, rfl, by decide +kernel, by decide +kernel⟩
theorem ok_form {f : Addr} {fd : FuncData} (F : Fun K "form_of" "form_of" sForm f fd) (T : Env1 mg) (D1 : Def P w K mg base "all_looks" 3 ["heads", "over"] (spLooks K)) : FnOk P w K mg base CX0 4 f fd ["heads", "over"] (spForm K) := by
  refine F.ok scForm (fun vs H Q E h => ?_) (fun cdv A outer s H vs Q E hr h => ?_)
  · obtain ⟨a, l, o, rfl, _⟩ := h
    rfl
  · obtain ⟨a, l, o, rfl, ha, h0, h9, k⟩ := h
    refine ⟨_, pss_one (ps_ret (pe_callB (call_minLL K rfl hr.units) (by rfl) T.min PyProof.Rows.boot_min (pa_cons (pe_def D1 hr (Nat.le_refl _) rfl (pa_cons (pv 0) (pa_cons (pv 1) pa_nil))) pa_nil))), ?_⟩
    refine ⟨_, rfl, _, rfl, a, l, o, rfl, ha, h0, h9, fun H1 p s1 fp ll => ?_⟩
    refine ⟨p, _, l.length, rfl, ll, looks_ne h0, looks_len, fun v hv => ?_⟩
    obtain ⟨q, rfl, il⟩ := hv
    exact k H1 q s1 il
end
end Dk
end
section
set_option Elab.async false
set_option linter.all false
set_option maxRecDepth 100000
set_option maxHeartbeats 2000000
namespace Dk
open PySem PySem.Spec PyProof.Rows L2
/-! ### len, an item: of a list that is tracked -/
noncomputable def rLen : List V → Hp → VK → Prop := fun xs H Q => ∃ p ys, xs = [.ref p] ∧ H p = some (.lst ys) ∧ Q (.int ys.length) H
theorem call_lenH {X : Cx} : CallR X (.builtin "len") rLen := fun pins s σ H xs us Q I r ⟨p, ys, e, h, q⟩ => call_len_seq pins s σ H xs us Q I r ⟨p, ys, e, .inl (SqL.of h), q⟩
noncomputable def rIxH : R2 := fun x y H Q => ∃ p xs i v, x = .ref p ∧ y = .int i ∧ H p = some (.lst xs) ∧ atI xs i = some v ∧ Q v H
theorem ix_lst {X : Cx} : IxR X rIxH := fun value slice pins s σ H x y v u Q I rx ry ⟨p, xs, i, z, e1, e2, h, e3, q⟩ hs => ix_list value slice pins s σ H x y v u Q I rx ry ⟨p, xs, i, z, e1, e2, SqL.of h, e3, q⟩ hs
/-! ### a constant of the module -/
structure Cst (mg : Str → Option Value) (x : Str) (i : Int) : Prop where
  ex : ∃ t, mg x = some (.int i t)
theorem pe_cst {X : Cx} {x : Str} {i : Int} {pos : Pos} (c : Cst X.mg x i) (hg : Gl X x) (hd : (x == ("__debug__" : Str)) = false := by decide) : PE X (.Name x pos) (tC (.int i)) := by
  obtain ⟨t, e⟩ := c.ex
  exact pe_glob hg e ⟨t, rfl⟩ hd
noncomputable abbrev sFeltT : Stmt := top 3
noncomputable abbrev sAllFelt : Stmt := top 4
noncomputable abbrev sLastP : Stmt := top 5
noncomputable abbrev sIsSure : Stmt := top 6
noncomputable abbrev sLeast : Stmt := top 7
section
variable {P : Program} {w : World} {K : PySem.W.Frag} {mg : Str → Option Value} {base : Heap}
/-! #### felt_towards -/
noncomputable def spFeltT (K : PySem.W.Frag) : Sp := fun vs H Q _ => ∃ (a : Addr) (l : List Nat) (q m : Nat) (z : Int), vs = [.ref a, nV q, .int z, nV m] ∧ IL K H a l ∧ 0 < l.length ∧ l.length ≤ 9 ∧ (z = 1 ∨ z = -1) ∧ m ≤ 20 ∧ ∀ H' p, Same H H' → H p = none → IL K H' p (feltT l q z m) → Q (.ref p) H'
noncomputable abbrev nmFeltT : List Str := ["heads", "last", "step", "many", "first", "number"]
theorem scFeltT : FnScope nmFeltT ["heads", "last", "step", "many"] (defScope sFeltT) := ⟨rfl, rfl, rfl, by decide +kernel, rfl, by decide +kernel, by decide +kernel⟩
theorem ok_feltT {f : Addr} {fd : FuncData} (F : Fun K "felt_towards" "felt_towards" sFeltT f fd) (T : Env1 mg) : FnOk P w K mg base CX0 1 f fd ["heads", "last", "step", "many"] (spFeltT K) := by
  refine F.ok scFeltT (fun vs H Q E h => ?_) (fun cdv A outer s H vs Q E hr h => ?_)
  · obtain ⟨a, l, q, m, z, rfl, _⟩ := h
    rfl
  · obtain ⟨a, l, q, m, z, rfl, ha, h0, h9, hz, hm, k⟩ := h
    refine ⟨_, pss_cons (ps_set (i := 4) scFeltT.nd rfl (Or.inr rfl) (pe_op op_sub (pv 1) (pe_op op_mul (pv 2) (pe_op op_sub (pv 3) pe_int))))
      (pss_one (ps_ret (pe_lc rfl scFeltT.nd (pi_range1 rfl T.range (pa_cons (pv 3) pa_nil)) (blk_of (N := nmFeltT) (sc := defScope sFeltT) (own := [("number", 5)]) rfl rfl (by decide +kernel))
        (fun _ _ _ _ _ => pg_name (i := 5) scFeltT.nd rfl (Or.inl rfl)) (fun _ _ _ _ _ => pts_nil)
        (fun _ _ _ _ _ => pe_ix ix_lst (pv 0) (pe_op op_mod (pe_op op_add (pv 4) (pe_op op_mul (pv 2) (pv 5))) (pe_callB call_lenH (by rfl) T.len PySem.boot_len (pa_cons (pv 0) pa_nil))) (fun _ _ => rfl))))), ?_⟩
    have zb : -(2 ^ 64) < z ∧ z < 2 ^ 64 := by omega
    refine ⟨_, rfl, _, rfl, _, rfl, _, _, rfl, rfl, _, _, rfl, rfl, .inl zb, _, _, rfl, rfl, ?_⟩
    refine ⟨_, rfl, (m : Int), rfl, by omega, by omega, fun D hD => ?_⟩
    refine lcF RI RI.mono m (fun _ => true) (fun (i : Nat) => l.getD (((q : Int) - z * ((m : Int) - 1) + z * (i : Int)) % (l.length : Int)).toNat 0) hD (size9 (by omega)) go_rng stop_rng ?_ ?_
    · rintro i H2 x H2' K1 K2 hi s2 hDs ⟨rfl, rfl⟩ k1 k2
      refine ⟨rfl, ?_⟩
      have e0 : ((l.map nV).length : Int) = (l.length : Int) := by rw [List.length_map]
      refine ⟨_, rfl, _, rfl, _, rfl, _, rfl, _, _, rfl, rfl, .inl zb, _, _, rfl, rfl, _, rfl, a, _, rfl, ha.mono s2, _, _, rfl, rfl, (by rw [e0]; omega), a, _, _, nV (l.getD (((q : Int) - z * ((m : Int) - 1) + z * (0 + (i : Int))) % (l.length : Int)).toNat 0), rfl, rfl, ha.mono s2, ?_, ?_⟩
      · rw [e0]
        have hr0 := Int.emod_nonneg ((q : Int) - z * ((m : Int) - 1) + z * (0 + (i : Int))) (show (l.length : Int) ≠ 0 by omega)
        have hr1 := Int.emod_lt_of_pos ((q : Int) - z * ((m : Int) - 1) + z * (0 + (i : Int))) (show (0 : Int) < (l.length : Int) by omega)
        exact at_of (j := (((q : Int) - z * ((m : Int) - 1) + z * (0 + (i : Int))) % (l.length : Int)).toNat) (by omega) (ha.at (by omega))
      · refine k1 _ _ same_refl ?_ rfl
        show V.int _ = V.int _
        rw [show (0 + (i : Int)) = (i : Int) by omega]
    · intro H2 us s2 hus hp
      rw [range_all] at hp
      exact k H2 D s2 hD (IL_of hus hp)
/-! #### all_felt_towards -/
noncomputable def spAllFelt (K : PySem.W.Frag) : Sp := fun vs H Q _ => ∃ (a : Addr) (l : List Nat) (o : Bool) (q m : Nat), vs = [.ref a, oV o, nV q, nV m] ∧ IL K H a l ∧ 0 < l.length ∧ l.length ≤ 9 ∧ m ≤ 20 ∧ ∀ H' p, Same H H' → H p = none → LL K H' p (allFelt l o q m) → Q (.ref p) H'
noncomputable abbrev nmAllFelt : List Str := ["heads", "over", "last", "many", "ways_along", "step"]
theorem scAllFelt : FnScope nmAllFelt ["heads", "over", "last", "many"] (defScope sAllFelt) := ⟨rfl, rfl, rfl, by decide +kernel, rfl, by decide +kernel, by decide +kernel⟩
theorem ok_allFelt {f : Addr} {fd : FuncData} (F : Fun K "all_felt_towards" "all_felt_towards" sAllFelt f fd) (T : Env1 mg) (cR : Cst mg "RISING" 1) (cF : Cst mg "FALLING" (-1)) (D1 : Def P w K mg base "felt_towards" 1 ["heads", "last", "step", "many"] (spFeltT K)) :
    FnOk P w K mg base CX0 2 f fd ["heads", "over", "last", "many"] (spAllFelt K) := by
  refine F.ok scAllFelt (fun vs H Q E h => ?_) (fun cdv A outer s H vs Q E hr h => ?_)
  · obtain ⟨a, l, o, q, m, rfl, _⟩ := h
    rfl
  · obtain ⟨a, l, o, q, m, rfl, ha, h0, h9, hm, k⟩ := h
    refine ⟨_, pss_cons (ps_set (i := 4) scAllFelt.nd rfl (Or.inl rfl) (pe_ifExp (pt_cmpR op_eq (pv 1) pe_int (nomark _)) (pe_lst (pa_cons (pe_cst cR rfl) (pa_cons (pe_cst cF rfl) pa_nil))) (pe_lst (pa_cons (pe_cst cR rfl) pa_nil))))
      (pss_one (ps_ret (pe_lc rfl scAllFelt.nd (pi_list (pv 4)) (blk_of (N := nmAllFelt) (sc := defScope sAllFelt) (own := [("step", 5)]) rfl rfl (by decide +kernel))
        (fun _ _ _ _ _ => pg_name (i := 5) scAllFelt.nd rfl (Or.inl rfl)) (fun _ _ _ _ _ => pts_nil)
        (fun _ _ _ _ _ => pe_def D1 hr (Nat.le_refl _) rfl (pa_cons (pv 0) (pa_cons (pv 2) (pa_cons (pv 5) (pa_cons (pv 3) pa_nil)))))))), ?_⟩
    have main : ∀ (c : Addr) (zs : List Int) (Hc : Hp), (∀ z ∈ zs, z = 1 ∨ z = -1) → zs.length ≤ 2 → Same H Hc → Hc c = some (.lst (zs.map V.int)) → ((List.range zs.length).map fun i => feltT l q (zs.getD i 0) m) = allFelt l o q m →
        tRet (tLc (iList K (tVar 4)) (gName 5) tYes (tCall (spFeltT K) [] E0 (tCons (tVar 0) (tCons (tVar 2) (tCons (tVar 5) (tCons (tVar 3) tNil))))) [5]) { nx := fun _ H' => Q .non H', rt := Q } [some (.ref a), some (oV o), some (nV q), some (nV m), some (.ref c), none] Hc := by
      intro c zs Hc hz hl sc hc he
      refine ⟨_, rfl, c, rfl, ⟨_, SqL.of hc⟩, fun D hD => ?_⟩
      have e0 : (zs.map V.int).length = zs.length := List.length_map _
      refine lcF (RL K) RL.mono (zs.map V.int).length (fun _ => true) (fun i => feltT l q (zs.getD i 0) m) hD (size9 (by omega)) (go_lst (SqL.of hc)) (stop_lst (SqL.of hc)) ?_ ?_
      · rintro i H2 x H2' K1 K2 hi s2 hDs y k1 k2
        obtain ⟨rfl, hx⟩ := yld_lst (s2.seq (SqL.of hc)) y
        rw [e0] at hi
        rw [List.getElem?_map, List.getElem?_eq_getElem hi] at hx
        have ex : V.int zs[i] = x := Option.some.inj hx
        subst ex
        have eg : zs.getD i 0 = zs[i] := by simp [List.getD, hi]
        refine ⟨rfl, ?_⟩
        refine ⟨_, rfl, _, rfl, _, rfl, _, rfl, a, l, q, m, zs[i], rfl, (ha.mono sc).mono s2, h0, h9, hz _ (List.getElem_mem hi), hm, fun H3 p s3 fp il => ?_⟩
        refine k1 _ _ s3 ⟨p, rfl, ?_⟩ rfl
        show IL K _ p (feltT l q (zs.getD i 0) m)
        rw [eg]
        exact il.del (ne_new hDs fp)
      · intro H2 us s2 hus hp
        rw [range_all, e0, he] at hp
        exact k H2 D (sc.trans s2) (sc.free hD) (LL_of hus hp)
    refine ⟨_, rfl, rfl, _, rfl, ?_⟩
    cases o with
    | true =>
      refine iteT ⟨(by show 2 ≤ sizeLine; decide), fun c hc => ?_⟩
      exact main c [1, -1] _ (by intro z hz; simpa using hz) (by decide) (same_upd hc) upd_same rfl
    | false =>
      refine iteF ⟨(by show 1 ≤ sizeLine; decide), fun c hc => ?_⟩
      exact main c [1] _ (by intro z hz; left; simpa using hz) (by decide) (same_upd hc) upd_same rfl
/-! #### last_places -/
noncomputable def spLastP (K : PySem.W.Frag) : Sp := fun vs H Q _ => ∃ (a b : Addr) (l g : List Nat) (o : Bool), vs = [.ref a, oV o, .ref b] ∧ IL K H a l ∧ IL K H b g ∧ 0 < l.length ∧ l.length ≤ 9 ∧ g.length ≤ 20 ∧ ∀ H' p, Same H H' → H p = none → IL K H' p (lastP l o g) → Q (.ref p) H'
noncomputable abbrev nmLastP : List Str := ["heads", "over", "felt", "many", "last"]
theorem scLastP : FnScope nmLastP ["heads", "over", "felt"] (defScope sLastP) := ⟨rfl, rfl, rfl, by decide +kernel, rfl, by decide +kernel, by decide +kernel⟩
theorem ok_lastP {f : Addr} {fd : FuncData} (F : Fun K "last_places" "last_places" sLastP f fd) (T : Env1 mg) (D1 : Def P w K mg base "all_felt_towards" 2 ["heads", "over", "last", "many"] (spAllFelt K)) :
    FnOk P w K mg base CX0 3 f fd ["heads", "over", "felt"] (spLastP K) := by
  refine F.ok scLastP (fun vs H Q E h => ?_) (fun cdv A outer s H vs Q E hr h => ?_)
  · obtain ⟨a, b, l, g, o, rfl, _⟩ := h
    rfl
  · obtain ⟨a, b, l, g, o, rfl, ha, hb, h0, h9, hg, k⟩ := h
    refine ⟨_, pss_cons (ps_set (i := 3) scLastP.nd rfl (Or.inr rfl) (pe_callB call_lenH (by rfl) T.len PySem.boot_len (pa_cons (pv 2) pa_nil)))
      (pss_one (ps_ret (pe_lc rfl scLastP.nd (pi_range1 rfl T.range (pa_cons (pe_callB call_lenH (by rfl) T.len PySem.boot_len (pa_cons (pv 0) pa_nil)) pa_nil)) (blk_of (N := nmLastP) (sc := defScope sLastP) (own := [("last", 4)]) rfl rfl (by decide +kernel))
        (fun _ _ _ _ _ => pg_name (i := 4) scLastP.nd rfl (Or.inl rfl))
        (fun _ _ _ _ _ => pts_one (pt_cmpR (op_inLL K hr.units) (pv 2) (pe_def D1 hr (Nat.le_refl _) rfl (pa_cons (pv 0) (pa_cons (pv 1) (pa_cons (pv 4) (pa_cons (pv 3) pa_nil))))) (by with_unfolding_all rfl)))
        (fun _ _ _ _ _ => pv 4)))), ?_⟩
    refine ⟨_, rfl, b, _, rfl, hb, ?_⟩
    refine ⟨_, rfl, a, _, rfl, ha, (l.length : Int), by rw [List.length_map], by omega, by omega, fun D hD => ?_⟩
    refine lcF RI RI.mono l.length (fun i => (allFelt l o i g.length).contains g) (fun i => i) hD (size9 (by omega)) go_rng stop_rng ?_ ?_
    · rintro i H2 x H2' K1 K2 hi s2 hDs ⟨rfl, rfl⟩ k1 k2
      refine ⟨rfl, ?_⟩
      refine ⟨_, rfl, _, rfl, _, rfl, _, rfl, _, rfl, a, l, o, i, g.length, ?_, ha.mono s2, h0, h9, hg, fun H3 p s3 fp ll => ?_⟩
      · simp
      · refine ⟨b, p, g, _, rfl, rfl, (hb.mono s2).mono s3, ll, _, rfl, ?_⟩
        cases e : (allFelt l o i g.length).contains g with
        | true =>
          refine iteT ⟨_, rfl, k1 _ _ s3 ?_ e⟩
          show V.int _ = V.int _
          simp
        | false => exact iteF (k2 _ s3 e)
    · intro H2 us s2 hus hp
      rw [range_id] at hp
      exact k H2 D s2 hD (IL_of hus hp)
/-! #### is_sure -/
noncomputable def spIsSure (K : PySem.W.Frag) : Sp := fun vs H Q _ => ∃ (a : Addr) (l : List Nat) (o : Bool) (m : Nat), vs = [.ref a, oV o, nV m] ∧ IL K H a l ∧ 0 < l.length ∧ l.length ≤ 9 ∧ m ≤ 20 ∧ ∀ H', Same H H' → Q (.bl (isSure l o m)) H'
noncomputable abbrev nmIsSure : List Str := ["heads", "over", "many", "last", "felt"]
theorem scIsSure : FnScope nmIsSure ["heads", "over", "many"] (defScope sIsSure) := ⟨rfl, rfl, rfl, by decide +kernel, rfl, by decide +kernel, by decide +kernel⟩
theorem allFelt_mem {l : List Nat} {o : Bool} {q m : Nat} {g : List Nat} (h : g ∈ allFelt l o q m) : g.length = m := by
  obtain ⟨d, _, rfl⟩ := mem_allFelt.mp h
  exact feltT_length _ _ _ _
theorem ok_isSure {f : Addr} {fd : FuncData} (F : Fun K "is_sure" "is_sure" sIsSure f fd) (T : Env1 mg) (D1 : Def P w K mg base "all_felt_towards" 2 ["heads", "over", "last", "many"] (spAllFelt K)) (D2 : Def P w K mg base "last_places" 3 ["heads", "over", "felt"] (spLastP K)) :
    FnOk P w K mg base CX0 4 f fd ["heads", "over", "many"] (spIsSure K) := by
  refine F.ok scIsSure (fun vs H Q E h => ?_) (fun cdv A outer s H vs Q E hr h => ?_)
  · obtain ⟨a, l, o, m, rfl, _⟩ := h
    rfl
  · obtain ⟨a, l, o, m, rfl, ha, h0, h9, hm, k⟩ := h
    refine ⟨_, pss_cons (ps_for PassesOwn.never rfl (pi_range1 rfl T.range (pa_cons (pe_callB call_lenH (by rfl) T.len PySem.boot_len (pa_cons (pv 0) pa_nil)) pa_nil)) (pg_name (i := 3) scIsSure.nd rfl (Or.inl rfl))
        (pss_one (ps_for PassesOwn.never rfl (pi_list (pe_def D1 hr (by decide) rfl (pa_cons (pv 0) (pa_cons (pv 1) (pa_cons (pv 3) (pa_cons (pv 2) pa_nil)))))) (pg_name (i := 4) scIsSure.nd rfl (Or.inl rfl))
          (pss_one (ps_if (pt_cmpR (op_neIL K hr.units) (pe_def D2 hr (by decide) rfl (pa_cons (pv 0) (pa_cons (pv 1) (pa_cons (pv 4) pa_nil)))) (pe_lst (pa_cons (pv 3) pa_nil)) (nomark _)) (pss_one (ps_ret pe_bl)) pss_nil)))))
      (pss_one (ps_ret pe_bl)), ?_⟩
    refine ⟨_, rfl, a, _, rfl, ha, (l.length : Int), by rw [List.length_map], by omega, by omega, ?_⟩
    refine for_range (lo := 0) (n := l.length) (fun i σ H' => ∃ v3 v4 : Option V, σ = [some (.ref a), some (oV o), some (nV m), v3, v4] ∧ Same H H' ∧ ∀ j, j < i → ((allFelt l o j m).all fun f => lastP l o f == [j]) = true)
      ⟨none, none, rfl, same_refl, fun j hj => absurd hj (Nat.not_lt_zero _)⟩ ?_ ?_
    · rintro i σ H1 hi ⟨v3, v4, rfl, s1, ih⟩
      refine ⟨_, rfl, _, rfl, _, rfl, _, rfl, a, l, o, i, m, ?_, ha.mono s1, h0, h9, hm, fun H2 p s2 fp ll => ?_⟩
      · simp
      · obtain ⟨us, hus, hp⟩ := ll
        have hul := paired_length hp
        refine ⟨p, rfl, ⟨us, SqL.of hus⟩, for_list (K := K) (a := p) (xs := us) (fun j σ H' => ∃ v4 : Option V, σ = [some (.ref a), some (oV o), some (nV m), some (.int (0 + (i : Int))), v4] ∧ Same H2 H' ∧ ∀ j', j' < j → (lastP l o ((allFelt l o i m).getD j' []) == [i]) = true)
          ⟨v4, rfl, same_refl, fun j hj => absurd hj (Nat.not_lt_zero _)⟩ (fun j σ H' _ ⟨_, _, s3, _⟩ => s3.seq (SqL.of hus)) ?_ ?_⟩
        · rintro j x σ H3 hx ⟨v4', rfl, s3, ih2⟩
          obtain ⟨b, rfl, il, hj⟩ := LL.get hp hx
          have hl := allFelt_mem (getD_mem' hj)
          refine ⟨_, rfl, _, rfl, _, rfl, a, b, l, _, o, rfl, (ha.mono s1).mono (s2.trans s3), il.mono s3, h0, h9, by omega, fun H4 p4 s4 fp4 il4 => ?_⟩
          refine ⟨_, rfl, (by show 1 ≤ sizeLine; decide), fun p5 f5 => ?_⟩
          have s5 : Same H4 (upd H4 p5 (.lst [.int (0 + (i : Int))])) := same_upd f5
          refine ⟨p4, p5, _, [i], rfl, rfl, il4.mono s5, ?_, _, rfl, ?_⟩
          · show upd _ _ _ _ = _
            rw [upd_same]
            simp
          · cases e : lastP l o ((allFelt l o i m).getD j []) == [i] with
            | true =>
              refine iteF ⟨_, rfl, (s3.trans s4).trans s5, fun j' hj' => ?_⟩
              by_cases ej : j' = j
              · subst ej; exact e
              · exact ih2 j' (by omega)
            | false =>
              refine iteT ?_
              have ef : isSure l o m = false := by
                rw [Bool.eq_false_iff]
                intro et
                unfold isSure at et
                have e1 := List.all_eq_true.mp et i (List.mem_range.mpr hi)
                have e2 := List.all_eq_true.mp e1 _ (getD_mem' hj)
                rw [e] at e2
                cases e2
              have := k (upd H4 p5 (.lst [.int (0 + (i : Int))])) (((s1.trans s2).trans (s3.trans s4)).trans s5)
              rw [ef] at this
              exact this
        · rintro σ H3 ⟨v4', rfl, s3, ih2⟩
          refine ⟨_, _, rfl, (s1.trans s2).trans s3, fun j hj => ?_⟩
          by_cases ej : j = i
          · subst ej
            rw [List.all_eq_true]
            intro g hg
            obtain ⟨j', hj', rfl⟩ := List.getElem_of_mem hg
            have := ih2 j' (by omega)
            rw [List.getD_eq_getElem?_getD, List.getElem?_eq_getElem hj'] at this
            exact this
          · exact ih j (by omega)
    · rintro σ H1 ⟨v3, v4, rfl, s1, ih⟩
      have et : isSure l o m = true := by
        unfold isSure
        rw [List.all_eq_true]
        intro j hj
        exact ih j (List.mem_range.mp hj)
      have := k H1 s1
      rw [et] at this
      exact this
/-! #### least_sure -/
noncomputable def spLeast (K : PySem.W.Frag) : Sp := fun vs H Q _ => ∃ (a : Addr) (l : List Nat) (o : Bool), vs = [.ref a, oV o] ∧ IL K H a l ∧ 0 < l.length ∧ l.length ≤ 9 ∧ ∀ H', Same H H' → Q (match leastSure l o with | none => .non | some m => nV m) H'
noncomputable abbrev nmLeast : List Str := ["heads", "over", "many"]
theorem scLeast : FnScope nmLeast ["heads", "over"] (defScope sLeast) := ⟨rfl, rfl, rfl, by decide +kernel, rfl, by decide +kernel, by decide +kernel⟩
theorem find_first {n i : Nat} {p : Nat → Bool} (hi : i < n) (h : ∀ j, j < i → p (j + 1) = false) (hp : p (i + 1) = true) : ((List.range n).map fun m => m + 1).find? p = some (i + 1) := by
  obtain ⟨d, rfl⟩ : ∃ d, n = i + (d + 1) := ⟨n - i - 1, by omega⟩
  rw [List.range_add, List.map_append, List.find?_append]
  have e1 : ((List.range i).map fun m => m + 1).find? p = none := by
    rw [List.find?_eq_none]
    intro x hx
    obtain ⟨j, hj, rfl⟩ := List.mem_map.mp hx
    rw [h j (List.mem_range.mp hj)]
    simp
  rw [e1, List.range_succ_eq_map, List.map_cons, List.map_cons, List.find?_cons]
  have : p (i + 0 + 1) = true := hp
  rw [this]
  rfl
theorem ok_least {f : Addr} {fd : FuncData} (F : Fun K "least_sure" "least_sure" sLeast f fd) (T : Env1 mg) (D1 : Def P w K mg base "is_sure" 4 ["heads", "over", "many"] (spIsSure K)) :
    FnOk P w K mg base CX0 5 f fd ["heads", "over"] (spLeast K) := by
  refine F.ok scLeast (fun vs H Q E h => ?_) (fun cdv A outer s H vs Q E hr h => ?_)
  · obtain ⟨a, l, o, rfl, _⟩ := h
    rfl
  · obtain ⟨a, l, o, rfl, ha, h0, h9, k⟩ := h
    refine ⟨_, pss_cons (ps_for PassesOwn.never rfl (pi_range2 rfl T.range (pa_cons pe_int (pa_cons (pe_op op_add (pe_callB call_lenH (by rfl) T.len PySem.boot_len (pa_cons (pv 0) pa_nil)) pe_int) pa_nil))) (pg_name (i := 2) scLeast.nd rfl (Or.inl rfl))
        (pss_one (ps_if (pt_val (pe_def D1 hr (Nat.le_refl _) rfl (pa_cons (pv 0) (pa_cons (pv 1) (pa_cons (pv 2) pa_nil))))) (pss_one (ps_ret (pv 2))) pss_nil)))
      (pss_one (ps_ret pe_non)), ?_⟩
    refine ⟨_, rfl, a, _, rfl, ha, _, _, rfl, rfl, 1, (l.length : Int) + 1, by rw [List.length_map], ⟨by omega, by omega, by omega, by omega⟩, ?_⟩
    rw [show ((l.length : Int) + 1 - 1).toNat = l.length by omega]
    refine for_range (lo := 1) (n := l.length) (fun i σ H' => ∃ v2 : Option V, σ = [some (.ref a), some (oV o), v2] ∧ Same H H' ∧ ∀ j, j < i → isSure l o (j + 1) = false)
      ⟨none, rfl, same_refl, fun j hj => absurd hj (Nat.not_lt_zero _)⟩ ?_ ?_
    · rintro i σ H1 hi ⟨v2, rfl, s1, ih⟩
      refine ⟨_, rfl, _, rfl, _, rfl, a, l, o, i + 1, ?_, ha.mono s1, h0, h9, by omega, fun H2 s2 => ⟨_, rfl, ?_⟩⟩
      · simp
        omega
      · cases e : isSure l o (i + 1) with
        | true =>
          refine iteT ⟨_, rfl, ?_⟩
          have := k H2 (s1.trans s2)
          have ef : leastSure l o = some (i + 1) := find_first hi ih e
          rw [ef] at this
          have e1 : nV (i + 1) = V.int (1 + (i : Int)) := by
            show V.int _ = V.int _
            congr 1
            omega
          rw [← e1]
          exact this
        | false =>
          refine iteF ⟨_, rfl, s1.trans s2, fun j hj => ?_⟩
          by_cases ej : j = i
          · subst ej; exact e
          · exact ih j (by omega)
    · rintro σ H1 ⟨v2, rfl, s1, ih⟩
      have ef : leastSure l o = none := by
        unfold leastSure
        rw [List.find?_eq_none]
        intro x hx
        obtain ⟨j, hj, rfl⟩ := List.mem_map.mp hx
        rw [ih j (List.mem_range.mp hj)]
        simp
      have := k H1 s1
      rw [ef] at this
      exact this
end
end Dk
end
section
set_option Elab.async false
set_option linter.all false
set_option maxRecDepth 100000
set_option maxHeartbeats 2000000
namespace Dk
open PySem PySem.Spec PyProof.Rows L2
noncomputable abbrev sAllRings : Stmt := top 22
noncomputable abbrev sMoving : Stmt := top 23
noncomputable abbrev sIsGood : Stmt := top 24
noncomputable abbrev sGoodRings : Stmt := top 25
noncomputable abbrev sFewest : Stmt := top 26
noncomputable abbrev sIsForm : Stmt := top 27
noncomputable abbrev sCount : Stmt := top 28
noncomputable abbrev sDiffs : Stmt := top 29
theorem size_big {n : Nat} (h : n ≤ 100000) : n ≤ sizeLine := Nat.le_trans h (by decide)
theorem size_lt {n : Nat} (h : n ≤ 100000) : n < sizeLine := Nat.lt_of_le_of_lt h (by decide)
theorem longer_take {k : Nat} {rs : List (List Nat)} {j : Nat} {r : List Nat} (h : rs[j]? = some r) : longer k (rs.take (j + 1)) = longer k (rs.take j) ++ (List.range k).map fun x => r ++ [x] := by
  rw [List.take_add_one, h]
  unfold longer
  rw [List.flatMap_append]
  simp
section
variable {P : Program} {w : World} {K : PySem.W.Frag} {mg : Str → Option Value} {base : Heap}
/-! #### all_rings -/
noncomputable def spAllRings (K : PySem.W.Frag) : Sp := fun vs H Q _ => ∃ n k : Nat, vs = [nV n, nV k] ∧ n ≤ 8 ∧ k ≤ 4 ∧ ∀ H' p, Same H H' → LL K H' p (allRings k n) → Q (.ref p) H'
noncomputable abbrev nmAllRings : List Str := ["many", "shapes", "rings", "place", "longer", "heads", "head"]
theorem scAllRings : FnScope nmAllRings ["many", "shapes"] (defScope sAllRings) := ⟨rfl, rfl, rfl, by decide +kernel, rfl, by decide +kernel, by decide +kernel⟩
theorem ok_allRings {f : Addr} {fd : FuncData} (F : Fun K "all_rings" "all_rings" sAllRings f fd) (T : Env1 mg) : FnOk P w K mg base CX0 1 f fd ["many", "shapes"] (spAllRings K) := by
  refine F.ok scAllRings (fun vs H Q E h => ?_) (fun cdv A outer s H vs Q E hr h => ?_)
  · obtain ⟨n, k, rfl, _⟩ := h
    rfl
  · obtain ⟨n, k, rfl, h8, h4, kk⟩ := h
    refine ⟨_, pss_cons (ps_set (i := 2) scAllRings.nd rfl (Or.inl rfl) (pe_lst (pa_cons (pe_lst pa_nil) pa_nil)))
      (pss_cons (ps_for PassesOwn.never rfl (pi_range1 rfl T.range (pa_cons (pv 0) pa_nil)) (pg_name (i := 3) scAllRings.nd rfl (Or.inl rfl))
        (pss_cons (ps_set (i := 4) scAllRings.nd rfl (Or.inl rfl) (pe_lst pa_nil))
        (pss_cons (ps_for PassesOwn.never rfl (pi_list (pv 2)) (pg_name (i := 5) scAllRings.nd rfl (Or.inl rfl))
          (pss_one (ps_for PassesOwn.never rfl (pi_range1 rfl T.range (pa_cons (pv 1) pa_nil)) (pg_name (i := 6) scAllRings.nd rfl (Or.inl rfl))
            (pss_one (ps_expr (pe_bm PySem.F.plainAttrs_list PySem.F.slot_list_append PySem.F.type_list_append mt_append (pv 4) (pa_cons (pe_op op_cat (pv 5) (pe_lst (pa_cons (pv 6) pa_nil))) pa_nil)))))))
        (pss_one (ps_set (i := 2) scAllRings.nd rfl (Or.inl rfl) (pv 4))))))
      (pss_one (ps_ret (pv 2)))), ?_⟩
    refine ⟨Nat.zero_le _, fun e0 he0 => ⟨(by show 1 ≤ sizeLine; decide), fun r0 hr0 => ?_⟩⟩
    have ne0 : e0 ≠ r0 := ne_of_none (H := upd H e0 (.lst [])) upd_same hr0
    have sr0 : Same H (upd (upd H e0 (.lst [])) r0 (.lst [.ref e0])) := (same_upd he0).trans (same_upd hr0)
    refine ⟨_, rfl, (n : Int), rfl, by omega, by omega, ?_⟩
    refine for_range (lo := 0) (n := n) (fun i σ H' => ∃ (r : Addr) (v3 v4 v5 v6 : Option V), σ = [some (nV n), some (nV k), some (.ref r), v3, v4, v5, v6] ∧ Same H H' ∧ LL K H' r (allRings k i))
      ⟨r0, none, none, none, none, rfl, sr0, [.ref e0], upd_same, .cons ⟨e0, rfl, by show upd _ _ _ _ = _; rw [upd_ne ne0, upd_same]; rfl⟩ .nil⟩ ?_ ?_
    · rintro i σ H1 hi ⟨r, v3, v4, v5, v6, rfl, s1, ⟨us, hus, hp⟩⟩
      have hul := paired_length hp
      rw [allRings_length] at hul
      have hpw : k ^ (i + 1) ≤ 65536 := pow_small h4 (by omega)
      rw [Nat.pow_succ] at hpw
      refine ⟨Nat.zero_le _, fun c hc => ?_⟩
      have s2 : Same H1 (upd H1 c (.lst [])) := same_upd hc
      refine ⟨_, rfl, r, rfl, ⟨us, SqL.of (s2 _ _ hus)⟩, ?_⟩
      refine for_list (K := K) (a := r) (xs := us) (fun j σ H' => ∃ (v5 v6 : Option V), σ = [some (nV n), some (nV k), some (.ref r), some (.int (0 + (i : Int))), some (.ref c), v5, v6] ∧ Same H1 H' ∧ ∃ ws, H' c = some (.lst ws) ∧ Paired (RL K (del H' c)) ws (longer k ((allRings k i).take j)))
        ⟨v5, v6, rfl, s2, [], upd_same, .nil⟩ (fun j σ H' _ ⟨_, _, _, s3, _⟩ => s3.seq (SqL.of hus)) ?_ ?_
      · rintro j x σ H2 hx ⟨v5', v6', rfl, s3, ws, hws, hpw'⟩
        obtain ⟨b, rfl, il, hj⟩ := LL.get hp hx
        rw [allRings_length] at hj
        have hbc : b ≠ c := ne_of_none il hc
        have hgj : (allRings k i)[j]? = some ((allRings k i).getD j []) := by
          rw [List.getD_eq_getElem?_getD, List.getElem?_eq_getElem (by rw [allRings_length]; exact hj)]
          rfl
        refine ⟨_, rfl, (k : Int), rfl, by omega, by omega, ?_⟩
        refine for_range (lo := 0) (n := k) (fun x σ H' => ∃ (v6 : Option V), σ = [some (nV n), some (nV k), some (.ref r), some (.int (0 + (i : Int))), some (.ref c), some (.ref b), v6] ∧ Same H1 H' ∧ ∃ ws, H' c = some (.lst ws) ∧ Paired (RL K (del H' c)) ws (longer k ((allRings k i).take j) ++ (List.range x).map fun y => (allRings k i).getD j [] ++ [y]))
          ⟨v6', rfl, s3, ws, hws, by simpa using hpw'⟩ ?_ ?_
        · rintro x σ H3 hx' ⟨v6'', rfl, s4, ws3, hws3, hp3⟩
          have hwl := paired_length hp3
          rw [List.length_append, longer_length, List.length_take, allRings_length, List.length_map, List.length_range, Nat.min_eq_left (by omega)] at hwl
          have hjk : k * j + k ≤ k * k ^ i := by
            rw [← Nat.mul_succ]
            exact Nat.mul_le_mul_left k hj
          have hwb : ws3.length < sizeLine := size_lt (by rw [Nat.mul_comm] at hpw; omega)
          refine ⟨_, rfl, .inl ⟨rfl, _, SqL.of hws3⟩, _, rfl, _, rfl, (by show 1 ≤ sizeLine; decide), fun q1 f1 => ?_⟩
          have ilb := il.mono s4
          have il1 : Same H3 (upd H3 q1 (.lst [.int (0 + (x : Int))])) := same_upd f1
          have hlen : ((allRings k i).getD j []).length = i := by
            have hm : (allRings k i).getD j [] ∈ allRings k i := List.mem_of_getElem? hgj
            exact (allRings_mem hm).1
          refine ⟨b, q1, _, _, rfl, rfl, ilb.mono il1, upd_same, size9 (by rw [List.length_map, hlen]; show i + 1 ≤ 1000; omega), fun p fp => ?_⟩
          have s5 : Same H3 (upd (upd H3 q1 (.lst [.int (0 + (x : Int))])) p (.lst (((allRings k i).getD j []).map nV ++ [.int (0 + (x : Int))]))) := il1.trans (same_upd fp)
          have hpc : p ≠ c := (ne_of_none (il1 _ _ hws3) fp).symm
          refine ⟨c, ws3, .ref p, rfl, rfl, s5 _ _ hws3, hwb, ?_⟩
          refine ⟨_, rfl, fun b' o e => ?_, ws3 ++ [.ref p], upd_same, ?_⟩
          · rw [upd_ne (ne_of_none e hc)]
            exact s5 _ _ (s4 _ _ e)
          · rw [List.range_succ, List.map_append, ← List.append_assoc]
            refine paired_snoc (Paired.mapP hp3 fun _ _ q => RL.mono ((same_del2 s5).trans same_del_upd) q) ⟨p, rfl, ?_⟩
            show del _ _ _ = _
            rw [del_ne hpc, upd_ne hpc, upd_same, List.map_append]
            simp
        · rintro σ H3 ⟨v6'', rfl, s4, ws3, hws3, hp3⟩
          refine ⟨_, _, rfl, s4, ws3, hws3, ?_⟩
          rw [longer_take hgj]
          exact hp3
      · rintro σ H2 ⟨v5', v6', rfl, s3, ws, hws, hpw'⟩
        refine ⟨_, rfl, c, _, _, _, _, rfl, s1.trans s3, ws, hws, ?_⟩
        rw [List.take_of_length_le (by rw [allRings_length]; omega)] at hpw'
        exact Paired.mapP hpw' fun _ _ q => RL.mono same_del q
    · rintro σ H1 ⟨r, v3, v4, v5, v6, rfl, s1, ll⟩
      exact ⟨_, rfl, kk H1 r s1 ll⟩
/-! #### moving_turns -/
noncomputable def spMoving (K : PySem.W.Frag) : Sp := fun vs H Q _ => ∃ (n : Nat) (o : Bool), vs = [nV n, oV o] ∧ 0 < n ∧ n ≤ 9 ∧ ∀ H' p, Same H H' → LL K H' p (moving n o) → Q (.ref p) H'
noncomputable abbrev nmMoving : List Str := ["many", "over", "unmoved", "turn"]
theorem scMoving : FnScope nmMoving ["many", "over"] (defScope sMoving) := ⟨rfl, rfl, rfl, by decide +kernel, rfl, by decide +kernel, by decide +kernel⟩
theorem ok_moving {f : Addr} {fd : FuncData} (F : Fun K "moving_turns" "moving_turns" sMoving f fd) (T : Env1 mg) (D1 : Def P w K mg base "all_turns" 2 ["many", "over"] (spAllTurns K)) : FnOk P w K mg base CX0 3 f fd ["many", "over"] (spMoving K) := by
  refine F.ok scMoving (fun vs H Q E h => ?_) (fun cdv A outer s H vs Q E hr h => ?_)
  · obtain ⟨n, k, rfl, _⟩ := h
    rfl
  · obtain ⟨n, o, rfl, h0, h9, k⟩ := h
    refine ⟨_, pss_cons (ps_set (i := 2) scMoving.nd rfl (Or.inr rfl) (pe_callTy (call_list_rng rfl) (by rfl) T.list PyProof.Rows.boot_list (pa_cons (pe_rng rfl T.range (pa_cons (pv 0) pa_nil)) pa_nil)))
      (pss_one (ps_ret (pe_lc rfl scMoving.nd (pi_list (pe_def D1 hr (Nat.le_refl _) rfl (pa_cons (pv 0) (pa_cons (pv 1) pa_nil)))) (blk_of (N := nmMoving) (sc := defScope sMoving) (own := [("turn", 3)]) rfl rfl (by decide +kernel))
        (fun _ _ _ _ _ => pg_name (i := 3) scMoving.nd rfl (Or.inl rfl)) (fun _ _ _ _ _ => pts_one (pt_cmpR (op_neIL K hr.units) (pv 3) (pv 2) (nomark _))) (fun _ _ _ _ _ => pv 3)))), ?_⟩
    refine ⟨_, rfl, n, rfl, fun r hr' => ⟨r, n, rfl, upd_same, by omega, fun c hc => ?_⟩⟩
    have sc : Same H (upd (upd H r (.rng 0 (n : Int))) c (.lst ((List.range n).map nV))) := (same_upd hr').trans (same_upd hc)
    have ilc : IL K (upd (upd H r (.rng 0 (n : Int))) c (.lst ((List.range n).map nV))) c (List.range n) := upd_same
    refine ⟨_, rfl, _, rfl, n, o, rfl, h0, h9, fun H1 p s1 fp ll => ?_⟩
    obtain ⟨us, hus, hp⟩ := ll
    have hlen := paired_length hp
    have h2n := allTurns_length (n := n) (o := o)
    refine ⟨p, rfl, ⟨us, SqL.of hus⟩, fun D hD => ?_⟩
    refine lcF (RL K) RL.mono us.length (fun i => !((allTurns n o).getD i [] == List.range n)) (fun i => (allTurns n o).getD i []) hD (size9 (by omega)) (go_lst (SqL.of hus)) (stop_lst (SqL.of hus)) ?_ ?_
    · rintro i H2 x H2' K1 K2 hi s2 hDs y k1 k2
      obtain ⟨rfl, hx⟩ := yld_lst (s2.seq (SqL.of hus)) y
      obtain ⟨b, rfl, il, hi'⟩ := LL.get hp hx
      refine ⟨rfl, ?_⟩
      refine ⟨_, rfl, _, rfl, b, c, _, _, rfl, rfl, il.mono s2, (ilc.mono s1).mono s2, _, rfl, ?_⟩
      cases e : !((allTurns n o).getD i [] == List.range n) with
      | true => exact iteT ⟨_, rfl, k1 _ _ same_refl ⟨b, rfl, il.mono (same_to_del s2 hD)⟩ e⟩
      | false => exact iteF (k2 _ same_refl e)
    · intro H2 us2 s2 hus2 hp2
      rw [hlen, filter_getD (d := ([] : List Nat)) (q := fun t => !(t == List.range n)) (allTurns n o)] at hp2
      exact k H2 D (sc.trans (s1.trans s2)) (LL_of hus2 hp2)
/-! #### is_good -/
noncomputable def spIsGood (K : PySem.W.Frag) : Sp := fun vs H Q _ => ∃ (a b : Addr) (l : List Nat) (ts : List (List Nat)), vs = [.ref a, .ref b] ∧ IL K H a l ∧ LL K H b ts ∧ l.length ≤ 9 ∧ (∀ t ∈ ts, t.length = l.length ∧ ∀ p ∈ t, p < l.length) ∧ ∀ H', Same H H' → Q (.bl (isGood l ts)) H'
noncomputable abbrev nmIsGood : List Str := ["heads", "moving", "turn"]
theorem scIsGood : FnScope nmIsGood ["heads", "moving"] (defScope sIsGood) := ⟨rfl, rfl, rfl, by decide +kernel, rfl, by decide +kernel, by decide +kernel⟩
theorem ok_isGood {f : Addr} {fd : FuncData} (F : Fun K "is_good" "is_good" sIsGood f fd) (D1 : Def P w K mg base "shows_nothing" 2 ["heads", "turn"] (spShows K)) : FnOk P w K mg base CX0 3 f fd ["heads", "moving"] (spIsGood K) := by
  refine F.ok scIsGood (fun vs H Q E h => ?_) (fun cdv A outer s H vs Q E hr h => ?_)
  · obtain ⟨a, b, l, ts, rfl, _⟩ := h
    rfl
  · obtain ⟨a, b, l, ts, rfl, ha, ⟨us, hus, hp⟩, h9, ht, k⟩ := h
    refine ⟨_, pss_cons (ps_for PassesOwn.never rfl (pi_list (pv 1)) (pg_name (i := 2) scIsGood.nd rfl (Or.inl rfl))
        (pss_one (ps_if (pt_val (pe_def D1 hr (Nat.le_refl _) rfl (pa_cons (pv 0) (pa_cons (pv 2) pa_nil)))) (pss_one (ps_ret pe_bl)) pss_nil)))
      (pss_one (ps_ret pe_bl)), ?_⟩
    have hul := paired_length hp
    refine ⟨_, rfl, b, rfl, ⟨us, SqL.of hus⟩, for_list (K := K) (a := b) (xs := us) (fun i σ H' => ∃ v2 : Option V, σ = [some (.ref a), some (.ref b), v2] ∧ Same H H' ∧ ∀ j, j < i → shows0 l (ts.getD j []) = false)
      ⟨none, rfl, same_refl, fun j hj => absurd hj (Nat.not_lt_zero _)⟩ (fun j σ H' _ ⟨_, _, s3, _⟩ => s3.seq (SqL.of hus)) ?_ ?_⟩
    · rintro i x σ H1 hx ⟨v2, rfl, s1, ih⟩
      obtain ⟨c, rfl, il, hi⟩ := LL.get hp hx
      obtain ⟨t1, t2⟩ := ht _ (getD_mem' hi)
      refine ⟨_, rfl, _, rfl, a, c, l, _, rfl, ha.mono s1, il.mono s1, h9, t1, t2, fun H2 s2 => ⟨_, rfl, ?_⟩⟩
      cases e : shows0 l (ts.getD i []) with
      | true =>
        refine iteT ?_
        have ef : isGood l ts = false := by
          rw [Bool.eq_false_iff]
          intro et
          have e1 := List.all_eq_true.mp et _ (getD_mem' hi)
          rw [e] at e1
          cases e1
        have := k H2 (s1.trans s2)
        rw [ef] at this
        exact this
      | false =>
        refine iteF ⟨_, rfl, s1.trans s2, fun j hj => ?_⟩
        by_cases ej : j = i
        · subst ej; exact e
        · exact ih j (by omega)
    · rintro σ H1 ⟨v2, rfl, s1, ih⟩
      have et : isGood l ts = true := by
        unfold isGood
        rw [List.all_eq_true]
        intro t htm
        obtain ⟨j, hj, rfl⟩ := List.getElem_of_mem htm
        have := ih j (by omega)
        rw [List.getD_eq_getElem?_getD, List.getElem?_eq_getElem hj] at this
        rw [show shows0 l ts[j] = false from this]
        rfl
      have := k H1 s1
      rw [et] at this
      exact this
/-! #### good_rings -/
noncomputable def spGoodRings (K : PySem.W.Frag) : Sp := fun vs H Q _ => ∃ (n k : Nat) (o : Bool), vs = [nV n, oV o, nV k] ∧ 0 < n ∧ n ≤ 8 ∧ k ≤ 4 ∧ ∀ H' p, Same H H' → H p = none → LL K H' p (goodRings n o k) → Q (.ref p) H'
noncomputable abbrev nmGoodRings : List Str := ["many", "over", "shapes", "moving", "heads"]
theorem scGoodRings : FnScope nmGoodRings ["many", "over", "shapes"] (defScope sGoodRings) := ⟨rfl, rfl, rfl, by decide +kernel, rfl, by decide +kernel, by decide +kernel⟩
theorem moving_mem {n : Nat} {o : Bool} (h0 : 0 < n) : ∀ t ∈ moving n o, t.length = n ∧ ∀ p ∈ t, p < n := fun t ht => allTurns_mem h0 (List.mem_filter.mp ht).1
theorem ok_goodRings {f : Addr} {fd : FuncData} (F : Fun K "good_rings" "good_rings" sGoodRings f fd) (D1 : Def P w K mg base "moving_turns" 3 ["many", "over"] (spMoving K)) (D2 : Def P w K mg base "all_rings" 1 ["many", "shapes"] (spAllRings K)) (D3 : Def P w K mg base "is_good" 3 ["heads", "moving"] (spIsGood K)) :
    FnOk P w K mg base CX0 4 f fd ["many", "over", "shapes"] (spGoodRings K) := by
  refine F.ok scGoodRings (fun vs H Q E h => ?_) (fun cdv A outer s H vs Q E hr h => ?_)
  · obtain ⟨n, kk, o, rfl, _⟩ := h
    rfl
  · obtain ⟨n, kk, o, rfl, h0, h8, h4, k⟩ := h
    refine ⟨_, pss_cons (ps_set (i := 3) scGoodRings.nd rfl (Or.inr rfl) (pe_def D1 hr (Nat.le_refl _) rfl (pa_cons (pv 0) (pa_cons (pv 1) pa_nil))))
      (pss_one (ps_ret (pe_lc rfl scGoodRings.nd (pi_list (pe_def D2 hr (by decide) rfl (pa_cons (pv 0) (pa_cons (pv 2) pa_nil)))) (blk_of (N := nmGoodRings) (sc := defScope sGoodRings) (own := [("heads", 4)]) rfl rfl (by decide +kernel))
        (fun _ _ _ _ _ => pg_name (i := 4) scGoodRings.nd rfl (Or.inl rfl)) (fun _ _ _ _ _ => pts_one (pt_val (pe_def D3 hr (Nat.le_refl _) rfl (pa_cons (pv 4) (pa_cons (pv 3) pa_nil))))) (fun _ _ _ _ _ => pv 4)))), ?_⟩
    refine ⟨_, rfl, _, rfl, n, o, rfl, h0, by omega, fun H1 m s1 lm => ?_⟩
    refine ⟨_, rfl, _, rfl, n, kk, rfl, h8, h4, fun H2 p s2 ll => ?_⟩
    obtain ⟨us, hus, hp⟩ := ll
    have hlen := paired_length hp
    have hpw := pow_small h4 h8
    rw [allRings_length] at hlen
    refine ⟨p, rfl, ⟨us, SqL.of hus⟩, fun D hD => ?_⟩
    refine lcF (RL K) RL.mono us.length (fun i => isGood ((allRings kk n).getD i []) (moving n o)) (fun i => (allRings kk n).getD i []) hD (size_big (by omega)) (go_lst (SqL.of hus)) (stop_lst (SqL.of hus)) ?_ ?_
    · rintro i H3 x H3' K1 K2 hi s3 hDs y k1 k2
      obtain ⟨rfl, hx⟩ := yld_lst (s3.seq (SqL.of hus)) y
      obtain ⟨b, rfl, il, hi'⟩ := LL.get hp hx
      obtain ⟨m1, _⟩ := allRings_mem (getD_mem' hi')
      refine ⟨rfl, ?_⟩
      refine ⟨_, rfl, _, rfl, b, m, _, _, rfl, il.mono s3, (lm.mono s2).mono s3, by omega, fun t ht => ?_, fun H4 s4 => ⟨_, rfl, ?_⟩⟩
      · rw [m1]
        exact moving_mem h0 t ht
      · cases e : isGood ((allRings kk n).getD i []) (moving n o) with
        | true => exact iteT ⟨_, rfl, k1 _ _ s4 ⟨b, rfl, il.mono (same_to_del (s3.trans s4) hD)⟩ e⟩
        | false => exact iteF (k2 _ s4 e)
    · intro H3 us2 s3 hus2 hp2
      rw [hlen, ← allRings_length, filter_getD (d := ([] : List Nat)) (q := fun l => isGood l (moving n o)) (allRings kk n)] at hp2
      exact k H3 D (s1.trans (s2.trans s3)) ((s1.trans s2).free hD) (LL_of hus2 hp2)
end
end Dk
end
section
set_option Elab.async false
set_option linter.all false
set_option maxRecDepth 100000
set_option maxHeartbeats 2000000
namespace Dk
open PySem PySem.Spec PyProof.Rows L2
theorem dec_len0 {n : Nat} : decide (V.int (n : Int) = V.int 0) = (n == 0) := by
  rw [dec_int, Bool.eq_iff_iff, beq_iff_eq, beq_iff_eq]
  omega
section
variable {P : Program} {w : World} {K : PySem.W.Frag} {mg : Str → Option Value} {base : Heap}
/-! #### fewest_shapes -/
noncomputable def spFewest (K : PySem.W.Frag) : Sp := fun vs H Q _ => ∃ (n : Nat) (o : Bool), vs = [nV n, oV o] ∧ 0 < n ∧ n ≤ 8 ∧ ∀ H', Same H H' → Q (nV (leastK n o)) H'
noncomputable abbrev nmFewest : List Str := ["many", "over", "shapes"]
theorem scFewest : FnScope nmFewest ["many", "over"] (defScope sFewest) := ⟨rfl, rfl, rfl, by decide +kernel, rfl, by decide +kernel, by decide +kernel⟩
theorem leastK_is {n : Nat} {o : Bool} {k : Nat} (h1 : 1 ≤ k) (h3 : k ≤ 3) (hg : (goodRings n o k).isEmpty = false) (hl : ∀ j, 1 ≤ j → j < k → (goodRings n o j).isEmpty = true) : leastK n o = k := by
  unfold leastK
  match k, h1, h3 with
  | 1, _, _ => rw [if_neg (by rw [hg]; exact Bool.false_ne_true)]
  | 2, _, _ => rw [if_pos (hl 1 (by omega) (by omega)), if_neg (by rw [hg]; exact Bool.false_ne_true)]
  | 3, _, _ => rw [if_pos (hl 1 (by omega) (by omega)), if_pos (hl 2 (by omega) (by omega))]
theorem ok_fewest {f : Addr} {fd : FuncData} (F : Fun K "fewest_shapes" "fewest_shapes" sFewest f fd) (T : Env1 mg) (D1 : Def P w K mg base "good_rings" 4 ["many", "over", "shapes"] (spGoodRings K)) : FnOk P w K mg base CX0 5 f fd ["many", "over"] (spFewest K) := by
  refine F.ok scFewest (fun vs H Q E h => ?_) (fun cdv A outer s H vs Q E hr h => ?_)
  · obtain ⟨n, o, rfl, _⟩ := h
    rfl
  · obtain ⟨n, o, rfl, h0, h8, k⟩ := h
    refine ⟨_, pss_cons (ps_set (i := 2) scFewest.nd rfl (Or.inl rfl) pe_int)
      (pss_cons (ps_while PassesOwn.never (pt_cmpR op_eq (pe_callB call_lenH (by rfl) T.len PySem.boot_len (pa_cons (pe_def D1 hr (Nat.le_refl _) rfl (pa_cons (pv 0) (pa_cons (pv 1) (pa_cons (pv 2) pa_nil)))) pa_nil)) pe_int (nomark _))
        (pss_one (ps_aug (i := 2) scFewest.nd rfl (Or.inl rfl) pe_int ip_add)))
      (pss_one (ps_ret (pv 2)))), ?_⟩
    refine ⟨fun m σ H' => ∃ kk : Nat, σ = [some (nV n), some (oV o), some (nV kk)] ∧ Same H H' ∧ 1 ≤ kk ∧ kk ≤ 3 ∧ m = 3 - kk ∧ ∀ j, 1 ≤ j → j < kk → (goodRings n o j).isEmpty = true,
      ⟨2, 1, rfl, same_refl, by omega, by omega, rfl, fun j h1 h2 => by omega⟩, ?_⟩
    rintro m σ H1 ⟨kk, rfl, s1, k1, k3, rfl, ih⟩
    refine ⟨_, rfl, _, rfl, _, rfl, n, kk, o, rfl, h0, h8, by omega, fun H2 p s2 fp ll => ?_⟩
    obtain ⟨us, hus, hp⟩ := ll
    have hul := paired_length hp
    refine ⟨p, us, rfl, hus, rfl, _, rfl, ?_⟩
    rw [dec_len0]
    have e0 : (us.length == 0) = (goodRings n o kk).isEmpty := by
      rw [hul]
      cases goodRings n o kk <;> rfl
    rw [e0]
    cases e : (goodRings n o kk).isEmpty with
    | true =>
      have k2 : kk < 3 := by
        rcases Nat.lt_or_ge kk 3 with h | h
        · exact h
        · have : kk = 3 := by omega
          subst this
          rw [good_some h0 h8] at e
          cases e
      refine iteT ⟨fun σ' H' => σ' = [some (nV n), some (oV o), some (nV (kk + 1))] ∧ Same H H', fun σ' H' ⟨e1, e2⟩ => ⟨3 - (kk + 1), by omega, kk + 1, e1, e2, by omega, by omega, rfl, fun j h1 h2 => ?_⟩, ?_⟩
      · by_cases ej : j = kk
        · subst ej; exact e
        · exact ih j h1 (by omega)
      · exact ⟨_, rfl, _, _, rfl, rfl, rfl, s1.trans s2⟩
    | false =>
      refine iteF ⟨_, rfl, ?_⟩
      have := k H2 (s1.trans s2)
      rw [leastK_is k1 k3 e ih] at this
      exact this
/-! #### is_its_form -/
noncomputable def spIsForm (K : PySem.W.Frag) : Sp := fun vs H Q _ => ∃ (a b : Addr) (l : List Nat) (ts : List (List Nat)), vs = [.ref a, .ref b] ∧ IL K H a l ∧ LL K H b ts ∧ l.length ≤ 9 ∧ ts ≠ [] ∧ ts.length ≤ 18 ∧ (∀ t ∈ ts, t.length = l.length ∧ ∀ p ∈ t, p < l.length) ∧ ∀ H', Same H H' → Q (.bl (isForm l ts)) H'
noncomputable abbrev nmIsForm : List Str := ["heads", "turns", "turn"]
theorem scIsForm : FnScope nmIsForm ["heads", "turns"] (defScope sIsForm) := ⟨rfl, rfl, rfl, by decide +kernel, rfl, by decide +kernel, by decide +kernel⟩
theorem ok_isForm {f : Addr} {fd : FuncData} (F : Fun K "is_its_form" "is_its_form" sIsForm f fd) (T : Env1 mg) (D1 : Def P w K mg base "turned" 1 ["heads", "turn"] (spTurned K)) : FnOk P w K mg base CX0 2 f fd ["heads", "turns"] (spIsForm K) := by
  refine F.ok scIsForm (fun vs H Q E h => ?_) (fun cdv A outer s H vs Q E hr h => ?_)
  · obtain ⟨a, b, l, ts, rfl, _⟩ := h
    rfl
  · obtain ⟨a, b, l, ts, rfl, ha, ⟨us, hus, hp⟩, h9, hne, h18, ht, k⟩ := h
    refine ⟨_, pss_one (ps_ret (pe_cmpR (op_eqIL K hr.units) (pv 0) (pe_callB (call_minLL K rfl hr.units) (by rfl) T.min PyProof.Rows.boot_min (pa_cons
      (pe_lc rfl scIsForm.nd (pi_list (pv 1)) (blk_of (N := nmIsForm) (sc := defScope sIsForm) (own := [("turn", 2)]) rfl rfl (by decide +kernel))
        (fun _ _ _ _ _ => pg_name (i := 2) scIsForm.nd rfl (Or.inl rfl)) (fun _ _ _ _ _ => pts_nil) (fun _ _ _ _ _ => pe_def D1 hr (Nat.le_refl _) rfl (pa_cons (pv 0) (pa_cons (pv 2) pa_nil)))) pa_nil)) (nomark _))), ?_⟩
    have hul := paired_length hp
    refine ⟨_, rfl, _, rfl, b, rfl, ⟨us, SqL.of hus⟩, fun D hD => ?_⟩
    refine lcF (RL K) RL.mono us.length (fun _ => true) (fun i => turned l (ts.getD i [])) hD (size9 (by omega)) (go_lst (SqL.of hus)) (stop_lst (SqL.of hus)) ?_ ?_
    · rintro i H2 x H2' K1 K2 hi s2 hDs y k1 k2
      obtain ⟨rfl, hx⟩ := yld_lst (s2.seq (SqL.of hus)) y
      obtain ⟨c, rfl, il, hi'⟩ := LL.get hp hx
      obtain ⟨m1, m2⟩ := ht _ (getD_mem' hi')
      refine ⟨rfl, ?_⟩
      refine ⟨_, rfl, _, rfl, a, c, l, _, rfl, ha.mono s2, il.mono s2, h9, m1, m2, fun H3 q s3 fq il3 => ?_⟩
      exact k1 _ _ s3 ⟨q, rfl, il3.del (ne_new hDs fq)⟩ rfl
    · intro H2 us2 s2 hus2 hp2
      rw [hul, map_getD (f := turned l) (d := ([] : List Nat)) ts] at hp2
      refine ⟨D, _, l.length, rfl, LL_of hus2 hp2, fun e => hne (List.map_eq_nil_iff.mp e), fun m hm => ?_, fun v hv => ?_⟩
      · obtain ⟨t, _, rfl⟩ := List.mem_map.mp hm
        exact turned_length l t
      · obtain ⟨q, rfl, il⟩ := hv
        exact ⟨a, q, l, _, rfl, rfl, ha.mono s2, il, k H2 s2⟩
/-! #### count_of_forms -/
noncomputable def spCount (K : PySem.W.Frag) : Sp := fun vs H Q _ => ∃ (a : Addr) (rs : List (List Nat)) (n : Nat) (o : Bool), vs = [.ref a, nV n, oV o] ∧ LL K H a rs ∧ 0 < n ∧ n ≤ 8 ∧ rs.length ≤ 65536 ∧ (∀ l ∈ rs, l.length = n) ∧ ∀ H', Same H H' → Q (nV (countForms rs n o)) H'
noncomputable abbrev nmCount : List Str := ["rings", "many", "over", "turns", "heads"]
theorem scCount : FnScope nmCount ["rings", "many", "over"] (defScope sCount) := ⟨rfl, rfl, rfl, by decide +kernel, rfl, by decide +kernel, by decide +kernel⟩
theorem ok_count {f : Addr} {fd : FuncData} (F : Fun K "count_of_forms" "count_of_forms" sCount f fd) (T : Env1 mg) (D1 : Def P w K mg base "all_turns" 2 ["many", "over"] (spAllTurns K)) (D2 : Def P w K mg base "is_its_form" 2 ["heads", "turns"] (spIsForm K)) :
    FnOk P w K mg base CX0 3 f fd ["rings", "many", "over"] (spCount K) := by
  refine F.ok scCount (fun vs H Q E h => ?_) (fun cdv A outer s H vs Q E hr h => ?_)
  · obtain ⟨a, rs, n, o, rfl, _⟩ := h
    rfl
  · obtain ⟨a, rs, n, o, rfl, ⟨us, hus, hp⟩, h0, h8, hrl, hrn, k⟩ := h
    refine ⟨_, pss_cons (ps_set (i := 3) scCount.nd rfl (Or.inr rfl) (pe_def D1 hr (Nat.le_refl _) rfl (pa_cons (pv 1) (pa_cons (pv 2) pa_nil))))
      (pss_one (ps_ret (pe_callB call_lenH (by rfl) T.len PySem.boot_len (pa_cons (pe_lc rfl scCount.nd (pi_list (pv 0)) (blk_of (N := nmCount) (sc := defScope sCount) (own := [("heads", 4)]) rfl rfl (by decide +kernel))
        (fun _ _ _ _ _ => pg_name (i := 4) scCount.nd rfl (Or.inl rfl)) (fun _ _ _ _ _ => pts_one (pt_val (pe_def D2 hr (Nat.le_refl _) rfl (pa_cons (pv 4) (pa_cons (pv 3) pa_nil))))) (fun _ _ _ _ _ => pv 4)) pa_nil)))), ?_⟩
    have hul := paired_length hp
    refine ⟨_, rfl, _, rfl, n, o, rfl, h0, by omega, fun H1 m s1 fm lm => ?_⟩
    refine ⟨_, rfl, a, rfl, ⟨us, SqL.of (s1 _ _ hus)⟩, fun D hD => ?_⟩
    have h2n := allTurns_length (n := n) (o := o)
    refine lcF (RL K) RL.mono us.length (fun i => isForm (rs.getD i []) (allTurns n o)) (fun i => rs.getD i []) hD (size_big (by omega)) (go_lst (SqL.of (s1 _ _ hus))) (stop_lst (SqL.of (s1 _ _ hus))) ?_ ?_
    · rintro i H3 x H3' K1 K2 hi s3 hDs y k1 k2
      obtain ⟨rfl, hx⟩ := yld_lst ((s1.trans s3).seq (SqL.of hus)) y
      obtain ⟨b, rfl, il, hi'⟩ := LL.get hp hx
      have hl := hrn _ (getD_mem' hi')
      refine ⟨rfl, ?_⟩
      refine ⟨_, rfl, _, rfl, b, m, _, _, rfl, il.mono (s1.trans s3), lm.mono s3, by omega, allTurns_ne h0, by omega, fun t ht => ?_, fun H4 s4 => ⟨_, rfl, ?_⟩⟩
      · rw [hl]
        exact allTurns_mem h0 ht
      · cases e : isForm (rs.getD i []) (allTurns n o) with
        | true => exact iteT ⟨_, rfl, k1 _ _ s4 ⟨b, rfl, (il.mono s1).mono (same_to_del (s3.trans s4) hD)⟩ e⟩
        | false => exact iteF (k2 _ s4 e)
    · intro H3 us2 s3 hus2 hp2
      rw [hul, filter_getD (d := ([] : List Nat)) (q := fun l => isForm l (allTurns n o)) rs] at hp2
      have hl2 := paired_length hp2
      refine ⟨D, us2, rfl, hus2, ?_⟩
      rw [hl2]
      exact k H3 (s1.trans s3)
/-! #### differences -/
noncomputable def spDiffs (K : PySem.W.Frag) : Sp := fun vs H Q _ => ∃ (a b : Addr) (l m : List Nat), vs = [.ref a, .ref b] ∧ IL K H a l ∧ IL K H b m ∧ l.length ≤ 9 ∧ m.length = l.length ∧ ∀ H', Same H H' → Q (nV (diffs l m)) H'
noncomputable abbrev nmDiffs : List Str := ["heads", "others", "place", "head"]
theorem scDiffs : FnScope nmDiffs ["heads", "others"] (defScope sDiffs) := ⟨rfl, rfl, rfl, by decide +kernel, rfl, by decide +kernel, by decide +kernel⟩
theorem ok_diffs {f : Addr} {fd : FuncData} (F : Fun K "differences" "differences" sDiffs f fd) (T : Env1 mg) : FnOk P w K mg base CX0 1 f fd ["heads", "others"] (spDiffs K) := by
  refine F.ok scDiffs (fun vs H Q E h => ?_) (fun cdv A outer s H vs Q E hr h => ?_)
  · obtain ⟨a, b, l, m, rfl, _⟩ := h
    rfl
  · obtain ⟨a, b, l, m, rfl, ha, hb, h9, hm, k⟩ := h
    refine ⟨_, pss_one (ps_ret (pe_callB call_lenH (by rfl) T.len PySem.boot_len (pa_cons (pe_lc (g := gTup K 2 (gCons (gName 2) (gCons (gName 3) gNil))) rfl scDiffs.nd (pi_enum rfl T.enumerate (pa_cons (pv 0) pa_nil)) (blk_of (N := nmDiffs) (sc := defScope sDiffs) (own := [("place", 2), ("head", 3)]) rfl rfl (by decide +kernel))
      (fun _ _ _ _ _ => pg_tup (n := 2) rfl (pgs_cons (pg_name (i := 2) scDiffs.nd rfl (Or.inl rfl) (.inr rfl)) (pgs_cons (pg_name (i := 3) scDiffs.nd rfl (Or.inl rfl) (.inr rfl)) pgs_nil)))
      (fun _ _ _ _ _ => pts_one (pt_cmpR op_ne (pv 3) (pe_ix ix_lst (pv 1) (pv 2) (fun _ _ => rfl)) (nomark _))) (fun _ _ _ _ _ => pv 2)) pa_nil))), ?_⟩
    refine ⟨_, rfl, a, _, rfl, ha.sq, fun D hD => ?_⟩
    have e0 : (l.map nV).length = l.length := List.length_map _
    refine lcF RI RI.mono (l.map nV).length (fun p => l.getD p 0 != m.getD p 0) (fun i => i) hD (size9 (by omega)) (go_enm ha.sq) (stop_enm ha.sq) ?_ ?_
    · rintro i H2 x H2' K1 K2 hi s2 hDs y k1 k2
      obtain ⟨T', x', rfl, hT, rfl, y⟩ := y
      obtain ⟨hi', rfl⟩ := nv_at (y _ (s2.seq ha.sq))
      have s3 : Same H2 (upd H2 T' (.tup [.int (i : Nat), nV (l.getD i 0)])) := same_upd hT
      refine ⟨T', _, rfl, SqT.of upd_same, rfl, _, _, rfl, _, _, rfl, rfl, rfl, ?_⟩
      refine ⟨_, rfl, _, rfl, _, rfl, b, _, _, nV (m.getD i 0), rfl, rfl, hb.mono (s2.trans s3), atI_nat (hb.at (by omega)), rfl, _, rfl, ?_⟩
      have ed : (!decide (nV (l.getD i 0) = nV (m.getD i 0))) = (l.getD i 0 != m.getD i 0) := by
        rw [dec_int]
        show (!_) = (!_)
        congr 1
        rw [Bool.eq_iff_iff, beq_iff_eq, beq_iff_eq]
        omega
      rw [ed]
      cases e : l.getD i 0 != m.getD i 0 with
      | true => exact iteT ⟨_, rfl, k1 _ _ s3 rfl e⟩
      | false => exact iteF (k2 _ s3 e)
    · intro H2 us2 s2 hus2 hp2
      rw [range_id, e0] at hp2
      have hl2 := paired_length hp2
      refine ⟨D, us2, rfl, hus2, ?_⟩
      rw [hl2]
      exact k H2 s2
end
end Dk
end
section
set_option Elab.async false
set_option linter.all false
set_option maxRecDepth 100000
set_option maxHeartbeats 2000000
namespace Dk
open PySem PySem.Spec PyProof.Rows L2
/-! ### min(ls, key = f): the first of the least -/
theorem bestBy_take {f : List Nat → Nat} {ls : List (List Nat)} {j : Nat} {x : List Nat} (hj : ls[j + 1]? = some x) :
    bestBy f (ls.take (j + 1 + 1)) = if f x < f (bestBy f (ls.take (j + 1))) then x else bestBy f (ls.take (j + 1)) := by
  match ls, hj with
  | a :: r, hj =>
    have e : (a :: r).take (j + 1 + 1) = ((a :: r).take (j + 1)) ++ [x] := by
      rw [List.take_add_one (i := j + 1), hj]
      rfl
    rw [e]
    show bestBy f (a :: r.take j ++ [x]) = _
    show (r.take j ++ [x]).foldl _ a = _
    rw [List.foldl_append]
    rfl
section
variable {X : Cx} {pins : List (Addr × Obj)} {σ : L2.St} {H0 : Hp}
/-- the key's call, whatever else is pinned -/
noncomputable def KeyOk (X : Cx) (pins : List (Addr × Obj)) (σ : L2.St) (H0 : Hp) (q : Addr) (ls : List (List Nat)) (f : List Nat → Nat) : Prop :=
  ∀ (x : V) (u : Value) (m : List Nat) (more : List (Addr × Obj)) (H : Hp) (s : Shared), RelV x u → RL X.K H x m → m ∈ ls → L2.Inv X (pins ++ more) σ H s → Same H0 H →
    wpAny (model X.prog X.w) X.A.in1 (call (.ref q) [u]) (EP X (pins ++ more) σ fun v H' => v = nV (f m) ∧ Same H H') (fun _ _ => False) s
theorem min_loopK {a q : Addr} {us : List V} {ls : List (List Nat)} {f : List Nat → Nat} (hc : X.calm = true) (hSq : H0 a = some (.lst us)) (hP : Paired (RL X.K H0) us ls) (hk : KeyOk X pins σ H0 q ls f) {I S : Addr} (hIS : S ≠ I) {R : Result → Shared → Prop}
    (hR : ∀ v u H s', L2.Inv X pins σ H s' → Same H0 H → RelV v u → RL X.K H v (bestBy f ls) → R (.ok (.ret u)) s') :
    ∀ (r j : Nat) (s : Shared) (H : Hp) (ub : Value) (vb : V) (tb : Tok) (c : Nat), us.length - (j + 1) = r → j + 1 ≤ us.length → L2.Inv X pins σ H s → Same H0 H → FpOk X pins H I → FpOk X pins H S → s.heap.IsListIter I a (j + 1) →
      s.heap.get? S = some (seqObj "list" #[ub, .int (f (bestBy f (ls.take (j + 1))) : Nat) tb] c) →
      RelV vb ub → RL X.K H vb (bestBy f (ls.take (j + 1))) → codeAny (model X.prog X.w) X.A (.builtin "min.loop" ⟨[.ref I, .ref q, .ref S], []⟩) R s := by
  have hname : (toString "min" ++ toString ".loop" : String) = "min.loop" := by decide
  have hul := paired_length hP
  intro r
  induction r with
  | zero =>
    intro j s H ub vb tb c hr hj Iv sm fI fS hit hS rb hb
    have hin : j + 1 = us.length := by omega
    obtain ⟨its, rv, pl, _⟩ := Iv.list (SqL.of (sm _ _ hSq))
    have hvl := rv.length
    have hnI : a ≠ I := fun e => by
      obtain ⟨o, q1, q2, _⟩ := pl.isList
      obtain ⟨o', q3, q4, _⟩ := id hit
      rw [e, q3] at q1
      cases q1
      rw [q4] at q2
      exact absurd q2 (by decide)
    have W := Walks.list (prog := X.prog) (w := X.w) (A := X.A.in1) (Iv.ok.hd hc) I a hnI its.toArray
    have hsz : its.toArray.size = us.length := by rw [List.size_toArray]; exact hvl.symm
    refine codeAny_builtin PySem.F.entry_min_loop ?_
    rw [Around.under_plainId PySem.F.plain_min_loop _]
    show wpAny _ X.A.in1 (seqItems? (.ref S) >>= _) _ _ _
    refine wpAny_bind (wpAny_seqItems hS rfl ?_)
    show wpAny _ X.A.in1 (tryCatch (pyNext (.ref I)) _ >>= _) _ _ _
    refine wpAny_bind (wpAny_tryCatch (W.done _ _ _ ⟨by rw [hsz, ← hin]; exact hit, pl.isList⟩ fun h' tk' hk' => ?_))
    have I1 : L2.Inv X pins σ H { s with heap := h', toks := tk' } := fp_set Iv fI fun b o hb e => hk' b o (by simpa using hb) e
    have hS' := hk' S _ (by simpa using hIS) hS
    have s1 := Heap.SameBut.update h' S (Obj.mapSeq fun _ => (#[] : Array Value))
    show wpAny _ X.A.in1 (updateSeq S (fun _ => #[]) >>= _) _ _ _
    refine wpAny_bind ?_
    refine wpAny_updateSeq hS' rfl (wpAny_bind (wpAny_letGo (wpAny_pure ?_)))
    refine hR vb ub H _ (fp_set I1 fS fun b o hb e => (s1.2 b hb).trans e) sm rb ?_
    rw [List.take_of_length_le (by omega)] at hb
    exact hb
  | succ r ih =>
    intro j s H ub vb tb c hr hj Iv sm fI fS hit hS rb hb
    have hlt : j + 1 < us.length := by omega
    obtain ⟨its, rv, pl, _⟩ := Iv.list (SqL.of (sm _ _ hSq))
    have hvl := rv.length
    have hnI : a ≠ I := fun e => by
      obtain ⟨o, q1, q2, _⟩ := pl.isList
      obtain ⟨o', q3, q4, _⟩ := id hit
      rw [e, q3] at q1
      cases q1
      rw [q4] at q2
      exact absurd q2 (by decide)
    have W := Walks.list (prog := X.prog) (w := X.w) (A := X.A.in1) (Iv.ok.hd hc) I a hnI its.toArray
    have hsz : its.toArray.size = us.length := by rw [List.size_toArray]; exact hvl.symm
    refine codeAny_builtin PySem.F.entry_min_loop ?_
    rw [Around.under_plainId PySem.F.plain_min_loop _]
    show wpAny _ X.A.in1 (seqItems? (.ref S) >>= _) _ _ _
    refine wpAny_bind (wpAny_seqItems hS rfl ?_)
    show wpAny _ X.A.in1 (tryCatch (pyNext (.ref I)) _ >>= _) _ _ _
    refine wpAny_bind (wpAny_tryCatch (W.item (j + 1) _ _ _ (by rw [hsz]; exact hlt) ⟨hit, pl.isList⟩ fun v h' tk' hPv hst' hk' => ?_))
    have hv : its[j + 1]? = some v := by simpa using hPv
    obtain ⟨x, hx⟩ : ∃ x, us[j + 1]? = some x := ⟨_, List.getElem?_eq_getElem hlt⟩
    obtain ⟨v', hv', rx⟩ := rv.get hx
    rw [hv] at hv'
    cases hv'
    obtain ⟨l, hl, hxl⟩ := paired_get hP hx
    have I1 : L2.Inv X pins σ H { s with heap := h', toks := tk' } := fp_set Iv fI fun b o hb e => hk' b o (by simpa using hb) e
    have hS' := hk' S _ (by simpa using hIS) hS
    obtain ⟨oI, q1, q2, q3⟩ := id hst'.1
    have I2 := I1.pinned (fp := [S, I]) (fun b hb => by
        rcases List.mem_cons.mp hb with e | hb
        · rw [e]; exact fS
        · rw [List.mem_singleton.mp hb]; exact fI) (fun b hb => by
        rcases List.mem_cons.mp hb with e | hb
        · rw [e]; exact ⟨_, hS', fun v z => nomatch z⟩
        · rw [List.mem_singleton.mp hb]; exact ⟨_, q1, fun v z => by rw [q3] at z; cases z⟩)
    have mS := mem_pinsAt (fp := [S, I]) (h := h') List.mem_cons_self hS'
    have mI := mem_pinsAt (fp := [S, I]) (h := h') (List.mem_cons_of_mem _ (List.mem_singleton.mpr rfl)) q1
    show wpAny _ X.A.in1 (tryCatch (holding [v] (call (.ref q) [v])) _ >>= _) _ _ _
    refine wpAny_bind (wpAny_tryCatch (wpAny_holding (wpAny_mono (hk x v l _ H _ rx (RL.mono sm hxl) (List.mem_of_getElem? hl) I2 sm) (fun y s2 he => ?_) fun _ _ hF => hF.elim)))
    obtain ⟨yv, H2, I3, ry, ⟨rfl, sm2⟩⟩ := he
    obtain ⟨t2, rfl⟩ := ry
    obtain ⟨pS, nS, _⟩ := I3.pin _ (List.mem_append_right _ (List.mem_append_right _ mS))
    obtain ⟨pI, nI, _⟩ := I3.pin _ (List.mem_append_right _ (List.mem_append_right _ mI))
    have I4 := I3.unpinned
    have fS2 : FpOk X pins H2 S := ⟨nS, fS.2⟩
    have fI2 : FpOk X pins H2 I := ⟨nI, fI.2⟩
    have hit2 : s2.heap.IsListIter I a (j + 1 + 1) := ⟨oI, pI, q2, q3⟩
    show wpAny _ X.A.in1 (tryCatch (holding [v, .int (f l : Nat) t2] (richCompare .Lt (.int (f l : Nat) t2) (.int (f (bestBy f (ls.take (j + 1))) : Nat) tb) >>= _)) _ >>= _) _ _ _
    refine wpAny_bind (wpAny_tryCatch (wpAny_holding (wpAny_bind (HT.rcLt_int _ _ _ _ _ _ _ _ _ _ ?_))))
    refine wpAny_bind (wpAny_holding (wpAny_truthy_bool ?_))
    refine wpAny_bind (wpAny_letGo (wpAny_pure ?_))
    have mt := bestBy_take (f := f) (ls := ls) (j := j) hl
    by_cases hb' : f l < f (bestBy f (ls.take (j + 1)))
    · have hbi : ((f l : Nat) : Int) < ((f (bestBy f (ls.take (j + 1))) : Nat) : Int) := by omega
      have s1 := Heap.SameBut.update s2.heap S (Obj.mapSeq fun _ => #[v, Value.int (f l : Nat) t2])
      obtain ⟨c2, hc2⟩ : ∃ c2, (s2.heap.update S (Obj.mapSeq fun _ => #[v, Value.int (f l : Nat) t2])).get? S = some (seqObj "list" #[v, Value.int (f l : Nat) t2] c2) := ⟨_, get?_update_seq pS fun _ => #[v, Value.int (f l : Nat) t2]⟩
      rw [if_pos hb'] at mt
      simp only [hbi, decide_true, if_true]
      refine wpAny_bind ?_
      refine wpAny_updateSeq pS rfl (wpAny_bind (wpAny_letGo ?_))
      rw [hname]
      refine wpAny_pure ⟨plainId_quiet PySem.F.plain_min_loop _, ih (j + 1) _ H2 v x t2 c2 (by omega) hlt (fp_set (t' := s2.toks) I4 fS2 fun b o hb e => (s1.2 b hb).trans e) (sm.trans sm2) fI2 fS2 ⟨oI, (s1.2 I hIS.symm).trans pI, q2, q3⟩ ?_ rx ?_⟩
      · rw [mt]
        exact hc2
      · rw [mt]
        exact RL.mono (sm.trans sm2) hxl
    · have hbi : ¬ ((f l : Nat) : Int) < ((f (bestBy f (ls.take (j + 1))) : Nat) : Int) := by omega
      rw [if_neg hb'] at mt
      simp only [hbi, decide_false, Bool.false_eq_true, if_false]
      refine wpAny_bind (wpAny_letGo ?_)
      rw [hname]
      refine wpAny_pure ⟨plainId_quiet PySem.F.plain_min_loop _, ih (j + 1) _ H2 ub vb tb c (by omega) hlt I4 (sm.trans sm2) fI2 fS2 hit2 ?_ rb ?_⟩
      · rw [mt]
        exact pS
      · rw [mt]
        exact RL.mono sm2 hb
/-- min(ls, key = f) -/
theorem min_key {a q : Addr} {ls : List (List Nat)} {f : List Nat → Nat} {s : Shared} {Q : VK} {E : Value → Shared → Prop} (hc : X.calm = true) (ll : LL X.K H0 a ls) (hne : ls ≠ []) (hk : KeyOk X pins σ H0 q ls f) (Iv : L2.Inv X pins σ H0 s)
    (hQ : ∀ v H, Same H0 H → RL X.K H v (bestBy f ls) → Q v H) : wpAny (model X.prog X.w) X.A (call (.builtin "min") [.ref a] [(Str.ofString "key", .ref q)]) (EP X pins σ Q) E s := by
  have hname : (toString "min" ++ toString ".loop" : String) = "min.loop" := by decide
  obtain ⟨us, hUs, hP⟩ := ll
  have hul := paired_length hP
  have hpos : 0 < us.length := by
    rw [hul]
    cases ls with
    | nil => exact absurd rfl hne
    | cons _ _ => exact Nat.succ_pos _
  obtain ⟨its, rv, pl, _⟩ := Iv.list (SqL.of hUs)
  have hll : a < s.heap.objs.size := by
    obtain ⟨o, q1, _⟩ := pl.isList
    exact Heap.lt_size q1
  refine kmk_tree PySem.F.kind_min PySem.F.plain_min PySem.F.entry_min (kmk_min_key _ _) ?_
  show wpAny _ X.A.in1 (Builtin.Builtins.bindParams "min" ["key", "default"] 0 ⟨[], [(Str.ofString "key", .ref q)]⟩ >>= _) _ _ s
  refine wpAny_bind (wpAny_of_eq (show Builtin.Builtins.bindParams "min" ["key", "default"] 0 ⟨[], [(Str.ofString "key", .ref q)]⟩ = pure [some (.ref q), none] from rfl) ?_)
  refine wpAny_bind (wpAny_pure ?_)
  refine wpAny_bind (wpAny_pyIter_list pl.isList ?_)
  refine wpAny_bind (wpAny_newList ?_ (Nat.zero_le _))
  rw [hname]
  have I1 : L2.Inv X pins σ H0 { s with heap := s.heap.push { cls := .type "list_iterator", data := .fields #[.ref a, .int 0 0] } } := Iv.kept (t' := s.toks) fun b o e => Heap.get?_push_of_some _ e
  have fI : FpOk X pins H0 s.heap.objs.size := Iv.fpOk (Nat.le_refl _) (Iv.hok.fresh (Nat.le_refl _))
  have hSI : (s.heap.push { cls := .type "list_iterator", data := .fields #[.ref a, .int 0 0] }).objs.size ≠ s.heap.objs.size := by rw [Heap.size_push]; exact Nat.ne_of_gt (Nat.lt_succ_self _)
  have fS : FpOk X pins H0 (s.heap.push { cls := .type "list_iterator", data := .fields #[.ref a, .int 0 0] }).objs.size := I1.fpOk (Nat.le_refl _) (I1.hok.fresh (Nat.le_refl _))
  have I2 : L2.Inv X pins σ H0 { s with heap := (s.heap.push { cls := .type "list_iterator", data := .fields #[.ref a, .int 0 0] }).push (seqObj "list" #[] 0) } := I1.kept (t' := s.toks) fun b o e => Heap.get?_push_of_some _ e
  have gI : ((s.heap.push { cls := .type "list_iterator", data := .fields #[.ref a, .int 0 0] }).push (seqObj "list" #[] 0)).get? s.heap.objs.size = some { cls := .type "list_iterator", data := .fields #[.ref a, .int 0 0] } :=
    Heap.get?_push_of_some _ (Heap.get?_push_size _ rfl)
  have gS : ((s.heap.push { cls := .type "list_iterator", data := .fields #[.ref a, .int 0 0] }).push (seqObj "list" #[] 0)).get? (s.heap.push { cls := .type "list_iterator", data := .fields #[.ref a, .int 0 0] }).objs.size = some (seqObj "list" #[] 0) := Heap.get?_push_size _ rfl
  generalize hSS : (s.heap.push { cls := .type "list_iterator", data := .fields #[.ref a, .int 0 0] }).objs.size = S at hSI fS gS ⊢
  obtain ⟨its, rv, pl, _⟩ := I2.list (SqL.of hUs)
  have hvl := rv.length
  have hnI : a ≠ s.heap.objs.size := Nat.ne_of_lt hll
  have W := Walks.list (prog := X.prog) (w := X.w) (A := X.A.in1) (Iv.ok.hd hc) s.heap.objs.size a hnI its.toArray
  have hsz : its.toArray.size = us.length := by rw [List.size_toArray]; exact hvl.symm
  refine wpAny_pure ⟨plainId_quiet PySem.F.plain_min_loop _, ?_⟩
  refine codeAny_builtin PySem.F.entry_min_loop ?_
  rw [Around.under_plainId PySem.F.plain_min_loop _]
  show wpAny _ X.A.in1 (seqItems? (.ref _) >>= _) _ _ _
  refine wpAny_bind (wpAny_seqItems gS rfl ?_)
  show wpAny _ X.A.in1 (tryCatch (pyNext (.ref s.heap.objs.size)) _ >>= _) _ _ _
  refine wpAny_bind (wpAny_tryCatch (W.item 0 _ _ _ (by rw [hsz]; exact hpos) ⟨⟨_, gI, rfl, rfl⟩, pl.isList⟩ fun v h' tk' hPv hst' hk' => ?_))
  have hv : its[0]? = some v := by simpa using hPv
  obtain ⟨x, hx⟩ : ∃ x, us[0]? = some x := ⟨_, List.getElem?_eq_getElem hpos⟩
  obtain ⟨v', hv', rx⟩ := rv.get hx
  rw [hv] at hv'
  cases hv'
  obtain ⟨l, hl, hxl⟩ := paired_get hP hx
  have kk : ∀ b o, b ≠ s.heap.objs.size → ((s.heap.push { cls := .type "list_iterator", data := .fields #[.ref a, .int 0 0] }).push (seqObj "list" #[] 0)).get? b = some o → h'.get? b = some o := fun b o hb e => hk' b o (by simpa using hb) e
  have I3 : L2.Inv X pins σ H0 { s with heap := h', toks := tk' } := by
    have z := fp_set (h' := h') (t' := tk') I2 fI kk
    exact z
  have hS' := kk _ _ hSI gS
  obtain ⟨oI, q1, q2, q3⟩ := id hst'.1
  have I4 := I3.pinned (fp := [S, s.heap.objs.size]) (fun b hb => by
      rcases List.mem_cons.mp hb with e | hb
      · rw [e]; exact fS
      · rw [List.mem_singleton.mp hb]; exact fI) (fun b hb => by
      rcases List.mem_cons.mp hb with e | hb
      · rw [e]; exact ⟨_, hS', fun v z => nomatch z⟩
      · rw [List.mem_singleton.mp hb]; exact ⟨_, q1, fun v z => by rw [q3] at z; cases z⟩)
  have mS := mem_pinsAt (fp := [S, s.heap.objs.size]) (h := h') List.mem_cons_self hS'
  have mI := mem_pinsAt (fp := [S, s.heap.objs.size]) (h := h') (List.mem_cons_of_mem _ (List.mem_singleton.mpr rfl)) q1
  show wpAny _ X.A.in1 (tryCatch (holding [v] (call (.ref q) [v])) _ >>= _) _ _ _
  refine wpAny_bind (wpAny_tryCatch (wpAny_holding (wpAny_mono (hk x v l _ H0 _ rx hxl (List.mem_of_getElem? hl) I4 same_refl) (fun y s2 he => ?_) fun _ _ hF => hF.elim)))
  obtain ⟨yv, H2, I5, ry, ⟨rfl, sm2⟩⟩ := he
  obtain ⟨t2, rfl⟩ := ry
  obtain ⟨pS, nS, _⟩ := I5.pin _ (List.mem_append_right _ (List.mem_append_right _ mS))
  obtain ⟨pI, nI, _⟩ := I5.pin _ (List.mem_append_right _ (List.mem_append_right _ mI))
  have I6 := I5.unpinned
  have fS2 : FpOk X pins H2 S := ⟨nS, fS.2⟩
  have fI2 : FpOk X pins H2 s.heap.objs.size := ⟨nI, fI.2⟩
  have s1 := Heap.SameBut.update s2.heap S (Obj.mapSeq fun _ => #[v, Value.int (f l : Nat) t2])
  obtain ⟨c2, hc2⟩ : ∃ c2, (s2.heap.update S (Obj.mapSeq fun _ => #[v, Value.int (f l : Nat) t2])).get? S = some (seqObj "list" #[v, Value.int (f l : Nat) t2] c2) := ⟨_, get?_update_seq pS fun _ => #[v, Value.int (f l : Nat) t2]⟩
  show wpAny _ X.A.in1 (updateSeq S (fun _ => #[v, Value.int (f l : Nat) t2]) >>= _) _ _ _
  refine wpAny_bind ?_
  refine wpAny_updateSeq pS rfl ?_
  rw [hname]
  have e0 : bestBy f (ls.take (0 + 1)) = l := by
    cases ls with
    | nil => exact absurd rfl hne
    | cons b r =>
      have : b = l := Option.some.inj hl
      subst this
      rfl
  refine wpAny_pure ⟨plainId_quiet PySem.F.plain_min_loop _, min_loopK hc hUs hP hk hSI (fun v u H s' I' sm' r' q' => ⟨v, H, I', r', hQ v H sm' q'⟩) _ 0 _ H2 v x t2 c2 rfl (by omega) (fp_set (t' := s2.toks) I6 fS2 fun b o hb e => (s1.2 b hb).trans e) sm2 fI2 fS2 ⟨oI, (s1.2 _ hSI.symm).trans pI, q2, q3⟩ ?_ rx ?_⟩
  · rw [e0]
    exact hc2
  · rw [e0]
    exact RL.mono sm2 hxl
end
end Dk
end
section
set_option Elab.async false
set_option linter.all false
set_option maxRecDepth 100000
set_option maxHeartbeats 2000000
namespace Dk
open PySem PySem.Spec PyProof.Rows L2
open PySem.W (CodeHd tabObj kla_obj kla_fn)
/-! ### the table of a def's code: empty, or with the lambda's code -/
noncomputable def codeX (q : Str) (c : Addr) : HO := .ext fun h => h.CodeRec (.ref c) q
noncomputable def TabOk (Pt : Addr) (q : Str) (pos : Pos) (H : Hp) : Prop :=
  H Pt = some (.tbl #[]) ∨ ∃ c, H Pt = some (.tbl #[rawInt pos.line, rawInt pos.col, .ref c]) ∧ H c = some (codeX q c)
/-- all but the table is as it was -/
noncomputable def SameT (Pt : Addr) (H H' : Hp) : Prop := ∀ b o, b ≠ Pt → H b = some o → H' b = some o
theorem SameT.of {Pt : Addr} {H H' : Hp} (s : Same H H') : SameT Pt H H' := fun b o _ e => s b o e
theorem SameT.trans {Pt : Addr} {H H1 H2 : Hp} (a : SameT Pt H H1) (b : SameT Pt H1 H2) : SameT Pt H H2 := fun c o n h => b c o n (a c o n h)
theorem TabOk.tbl {Pt : Addr} {q : Str} {pos : Pos} {H : Hp} (t : TabOk Pt q pos H) : ∃ ps, H Pt = some (.tbl ps) := by
  rcases t with h | ⟨c, h, _⟩
  · exact ⟨_, h⟩
  · exact ⟨_, h⟩
theorem TabOk.mono {Pt : Addr} {q : Str} {pos : Pos} {H H' : Hp} (t : TabOk Pt q pos H) (s : Same H H') : TabOk Pt q pos H' := by
  rcases t with h | ⟨c, h, h2⟩
  · exact .inl (s _ _ h)
  · exact .inr ⟨c, s _ _ h, s _ _ h2⟩
theorem TabOk.ne {Pt : Addr} {q : Str} {pos : Pos} {H : Hp} {a : Addr} {xs : List V} (t : TabOk Pt q pos H) (h : H a = some (.lst xs)) : a ≠ Pt := by
  obtain ⟨ps, e⟩ := t.tbl
  exact ne_of h e (by intro z; cases z)
theorem IL.monoT {K : PySem.W.Frag} {Pt : Addr} {q : Str} {pos : Pos} {H H' : Hp} {a : Addr} {l : List Nat} (h : IL K H a l) (t : TabOk Pt q pos H) (s : SameT Pt H H') : IL K H' a l := s _ _ (t.ne h) h
theorem LL.monoT {K : PySem.W.Frag} {Pt : Addr} {q : Str} {pos : Pos} {H H' : Hp} {a : Addr} {ls : List (List Nat)} (h : LL K H a ls) (t : TabOk Pt q pos H) (s : SameT Pt H H') : LL K H' a ls := by
  obtain ⟨us, h1, h2⟩ := h
  refine ⟨us, s _ _ (t.ne h1) h1, Paired.mapP h2 fun _ _ ⟨b, e, il⟩ => ⟨b, e, il.monoT t s⟩⟩
section
variable {X : Cx} {pins : List (Addr × Obj)} {σ : L2.St} {H : Hp} {s : Shared}
theorem codeX_rec (I : L2.Inv X pins σ H s) {q : Str} {c : Addr} (h : H c = some (codeX q c)) : s.heap.CodeRec (.ref c) q := (I.hok _ _ h).1
theorem codeX_ok {P : Program} {w : World} {H : Hp} {h : Heap} {q : Str} {c : Addr} (e : h.CodeRec (.ref c) q) : ObjOk P w H h c (codeX q c) := by
  obtain ⟨c', o, vs, t, e1, g, hd, hv⟩ := id e
  cases e1
  refine ⟨e, ⟨o, g⟩, fun h1 h2 p k => ?_⟩
  obtain ⟨c', o, vs, t, e1, g, hd, hv⟩ := p
  cases e1
  exact ⟨c, o, vs, t, rfl, k _ g, hd, hv⟩
/-- a lambda is made: its function's object is new, its code is at c (the table keeps it) -/
theorem mk_lam {params : Arguments} {body : Expr} {scope : Scope} {pos : Pos} {c Pt : Addr} {E : Value → Shared → Prop} {Q : Value → Shared → Prop} (I : L2.Inv X pins σ H s) (hcode : X.env.code = .ref c) (C : CodeHd X.base c Pt) (hb : X.base.BuiltinsAt X.mg Pt)
    (hfree : ∀ y ∈ scope.names, y.2 = .free → ∃ a, X.env.cells.lookup y.1 = some a) (hdef : defaultsOf params X.env = ([], [])) (t : TabOk Pt (X.env.qual ++ "<lambda>") pos H)
    (h : ∀ (f c' : Addr) (pm ctv : Value) (H' : Hp) (s' : Shared), L2.Inv X (pins ++ [(f, kla_obj "<lambda>" (X.env.qual ++ "<lambda>") params body scope (cloFrom X.env.cells scope.names []) pm c' ctv)]) σ H' s' → SameT Pt H H' → TabOk Pt (X.env.qual ++ "<lambda>") pos H' →
      H' c' = some (codeX (X.env.qual ++ "<lambda>") c') → Q (.ref f) s') : wpAny (model X.prog X.w) X.A (eval (.Lambda params body scope pos) X.env) Q E s := by
  refine PySem.W.kla_eval hdef ?_
  have hcl := closure_ok (scope := scope) (env := X.env) hfree
  have hgl : s.heap.Ns mainGlobals X.mg := I.mod.glob.keeps I.bk
  have C' := C.keeps I.bk
  obtain ⟨bm, ob, b1, b2, b3, b4, b5, b6⟩ := hb
  have hb' : s.heap.BuiltinsAt X.mg Pt := ⟨bm, ob, b1, b2, b3, b4, I.bk _ _ b5, b6⟩
  obtain ⟨ps0, hP0⟩ := t.tbl
  have tP : s.heap.get? Pt = some (tabObj ps0) := I.hok _ _ hP0
  have hgP : mainGlobals ≠ Pt := fun e => by
    obtain ⟨o, es, ep, e1, hd, _⟩ := id hgl
    rw [e, tP] at e1
    cases e1
    cases hd
  have hlP : X.env.locals ≠ Pt := fun e => by
    have z := I.free
    rw [e, hP0] at z
    cases z
  rcases t with hP | ⟨c', hP, hc'⟩
  · have eP : ps0 = #[] := by rw [hP] at hP0; cases hP0; rfl
    subst eP
    refine PySem.W.kla_makeFunction (mg := X.mg) hcl I.ok.glob hgl hcode C' tP trivial rfl hgP hb' fun c' ctv h' tk hx hge hlt hrec htb => ?_
    have nc : H c' = none := I.hok.fresh hge
    have ncP : c' ≠ Pt := (ne_of_none hP nc).symm
    have tP' : h'.get? Pt = some (tabObj #[rawInt pos.line, rawInt pos.col, .ref c']) := htb
    have hF : ∀ o b u, b ≠ Pt → s.heap.get? b = some u → (h'.push o).get? b = some u := fun o b u hb e => Heap.get?_push_of_some _ (hx b u hb e)
    have hs : s.heap.objs.size ≤ h'.objs.size := Nat.le_of_lt (Nat.lt_of_le_of_lt hge hlt)
    have I' : L2.Inv X pins σ (upd (upd H c' (codeX (X.env.qual ++ "<lambda>") c')) Pt (.tbl #[rawInt pos.line, rawInt pos.col, .ref c'])) { s with heap := h'.push (kla_obj "<lambda>" (X.env.qual ++ "<lambda>") params body scope (cloFrom X.env.cells scope.names []) ((X.mg "__name__").getD .none) c' ctv), toks := tk } := by
      refine I.step (g' := s.gens) (d' := s.drawn) (ch := []) (fun _ z => nomatch z) (fun b o _ _ _ e n => hF _ b o (fun z => by rw [z, hP] at n; cases n) e) (fun b o _ _ _ e n => ⟨o.slots, hF _ b o (fun z => by rw [z, hP] at n; cases n) e⟩) (fun b o _ e n => ?_) (fun b o _ e => ?_)
        (fun b xs e => ?_) (fun b o u e => ?_) (fun b ps e => ?_) (fun m hm => (hm.extBut hx hlP).push _) (fun b o e => ?_) I.bare
      · rw [upd_ne (fun z => by rw [z, hP] at n; cases n), upd_ne (Nat.ne_of_lt (Nat.lt_of_lt_of_le (Heap.lt_size e) hge))]
        exact n
      · by_cases z : b = Pt
        · subst z
          exact ⟨_, Heap.get?_push_of_some _ tP'⟩
        · exact ⟨o, hF _ b o z e⟩
      · rw [upd_ne (ne_of e hP (by intro z; cases z)), upd_ne (ne_of_none e nc)]
        exact e
      · rw [upd_ne (ne_of e hP (by intro z; cases z)), upd_ne (ne_of_none e nc)]
        exact e
      · by_cases z : b = Pt
        · subst z
          rw [hP] at e
          cases e
          exact ⟨#[rawInt pos.line, rawInt pos.col, .ref c'], by rw [upd_same]; simp⟩
        · exact ⟨#[], by rw [upd_ne z, upd_ne (ne_of_none e nc), e]; simp⟩
      · by_cases z : b = Pt
        · subst z
          rw [upd_same] at e
          cases e
          exact Heap.get?_push_of_some _ tP'
        · rw [upd_ne z] at e
          by_cases z2 : b = c'
          · subst z2
            rw [upd_same] at e
            cases e
            exact codeX_ok (hrec.push _)
          · rw [upd_ne z2] at e
            refine (I.hok b o e).stay (fun d u hd q => hF _ d u (fun y => ?_) q) (fun d q => ?_) fun d xs q => ?_
            · rcases hd with hd | hd
              · exact z (hd.symm.trans y)
              · rw [y, hP] at hd; cases hd
            · rw [upd_ne (ne_of q hP (by intro z; cases z)), upd_ne (ne_of_none q nc)]
              exact q
            · rw [upd_ne (ne_of q hP (by intro z; cases z)), upd_ne (ne_of_none q nc)]
              exact q
    have fP : (upd (upd H c' (codeX (X.env.qual ++ "<lambda>") c')) Pt (.tbl #[rawInt pos.line, rawInt pos.col, .ref c'])) h'.objs.size = none := by
      have n1 : h'.objs.size ≠ Pt := Nat.ne_of_gt (Heap.lt_size tP')
      rw [upd_ne n1, upd_ne (Nat.ne_of_gt hlt)]
      exact I.hok.fresh hs
    have fo := I.fpOk hs fP
    refine h h'.objs.size c' ((X.mg "__name__").getD .none) ctv _ _ (I'.pins_of fun p hp => ?_) (fun b o n e => ?_) (.inr ⟨c', upd_same, ?_⟩) ?_
    · rcases List.mem_append.mp hp with hp | hp
      · exact I'.pin p (List.mem_append_right _ hp)
      · rw [List.mem_singleton.mp hp]
        exact ⟨Heap.get?_push_size _ rfl, fo.1, fo.2.1, fo.2.2.1, fun v z => nomatch z⟩
    · rw [upd_ne n, upd_ne (ne_of_none e nc)]
      exact e
    · rw [upd_ne ncP, upd_same]
    · rw [upd_ne ncP, upd_same]
  · have eP : ps0 = #[rawInt pos.line, rawInt pos.col, .ref c'] := by rw [hP] at hP0; cases hP0; rfl
    subst eP
    have hf : codeAmong pos (#[rawInt pos.line, rawInt pos.col, Value.ref c'] : Array Value).toList = some (.ref c') := by
      have := codeAmong_snoc (pos := pos) (c := Value.ref c') [] trivial rfl
      exact this
    refine PySem.W.kla_makeFunctionHit (mg := X.mg) hcl I.ok.glob hgl hcode C' tP trivial hf hb' fun ctv h' tk hk hsz => ?_
    have I' : L2.Inv X pins σ H { s with heap := h'.push (kla_obj "<lambda>" (X.env.qual ++ "<lambda>") params body scope (cloFrom X.env.cells scope.names []) ((X.mg "__name__").getD .none) c' ctv), toks := tk } :=
      I.kept fun b u e => Heap.get?_push_of_some _ (hk b u e)
    have fo := I.fpOk hsz (I.hok.fresh hsz)
    refine h h'.objs.size c' ((X.mg "__name__").getD .none) ctv _ _ (I'.pins_of fun p hp => ?_) (fun b o n e => e) (.inr ⟨c', hP, hc'⟩) hc'
    rcases List.mem_append.mp hp with hp | hp
    · exact I'.pin p (List.mem_append_right _ hp)
    · rw [List.mem_singleton.mp hp]
      exact ⟨Heap.get?_push_size _ rfl, fo.1, fo.2.1, fo.2.2.1, fun v z => nomatch z⟩
end
end Dk
end
section
set_option Elab.async false
set_option linter.all false
set_option maxRecDepth 100000
set_option maxHeartbeats 2000000
namespace Dk
open PySem PySem.Spec PyProof.Rows L2
open PySem.W (CodeHd tabObj kla_obj kla_fn envX)
noncomputable abbrev sNearest : Stmt := top 30
/-- the lambda of nearest_ring's text -/
noncomputable def lamOf (s : Stmt) : Expr := match defBody s with
  | [.Return (some (.Call _ _ [kw] _)) _] => kw.value
  | _ => .Constant .none 0 ⟨0, 0, 0, 0⟩
noncomputable def lamArgs (e : Expr) : Arguments := match e with
  | .Lambda a _ _ _ => a
  | _ => { posonlyargs := [], args := [], vararg := none, kwonlyargs := [], kw_defaults := [], kwarg := none, defaults := [] }
noncomputable def lamBody (e : Expr) : Expr := match e with
  | .Lambda _ b _ _ => b
  | e => e
noncomputable def lamScope (e : Expr) : Scope := match e with
  | .Lambda _ _ sc _ => sc
  | _ => { kind := .function, names := [], isGenerator := false, isCoroutine := false }
noncomputable def lamPos (e : Expr) : Pos := match e with
  | .Lambda _ _ _ p => p
  | _ => ⟨0, 0, 0, 0⟩
noncomputable abbrev eLam : Expr := lamOf sNearest
noncomputable abbrev nmLam : List Str := ["others", "heads"]
section
variable {X : Cx} {pins : List (Addr × Obj)} {σ : L2.St} {H : Hp} {s : Shared}
/-- the context of the lambda's body -/
noncomputable def cxLam (X : Cx) (qual : Str) (f c' : Addr) (cl : List (Str × Addr)) (s : Shared) (H : Hp) : Cx where
  prog := X.prog
  w := X.w
  K := X.K
  mg := X.mg
  base := X.base
  A := X.A.deeper (envX qual (lamScope eLam) s.heap.objs.size f (.ref c') cl)
  N := nmLam
  s_0 := s
  H_0 := H
  env := envX qual (lamScope eLam) s.heap.objs.size f (.ref c') cl
  outer := X.stack
  stack := envX qual (lamScope eLam) s.heap.objs.size f (.ref c') cl :: X.stack
  ex := []
  calm := true
  fn := fun _ => false
  pn := []
  xe := fun _ _ => False
theorem lam_call {qual : Str} {f c' a b ch : Addr} {pm ctv : Value} {l m : List Nat} {Q : VK} {E : Value → Shared → Prop} (I : L2.Inv X pins σ H s) (hr : Room 3 X.A) (D : Def X.prog X.w X.K X.mg X.base "differences" 1 ["heads", "others"] (spDiffs X.K))
    (ho : s.heap.get? f = some (kla_obj "<lambda>" qual (lamArgs eLam) (lamBody eLam) (lamScope eLam) [("heads", ch)] pm c' ctv)) (hcd : s.heap.CodeRec (.ref c') qual) (hch : s.heap.IsCell ch (some (.ref a))) (nch : H ch = none)
    (ha : IL X.K H a l) (hb : IL X.K H b m) (h9 : l.length ≤ 9) (hm : m.length = l.length) (q : ∀ H', Same H H' → Q (nV (diffs l m)) H') :
    wpAny (model X.prog X.w) X.A (call (.ref f) [.ref b]) (EP X pins σ Q) E s := by
  have key : codeAny (model X.prog X.w) X.A (.call (.ref f) ⟨[.ref b], []⟩) (CR CX0 X.stack X.prog X.w H s Q E0) s := by
    refine PySem.W.kla_callFunE hr.depth ho rfl rfl rfl rfl hcd ?_
    rw [show bindArgs (kla_fn "<lambda>" qual (lamArgs eLam) (lamBody eLam) (lamScope eLam) [("heads", ch)] pm (.ref c') ctv) ⟨[.ref b], []⟩ = pure [(("others" : Str), Value.ref b)] from rfl]
    refine wpAny_pure (wpAny_newFunctionEnv (show ∀ x ∈ (lamScope eLam).names, x.2 ≠ NameKind.cell by decide +kernel) (by intro y hy; rw [List.mem_singleton.mp hy]; rfl) (fun h₁ hns hsb => ⟨(I.nolimit).fresh _ hsb, ?_⟩) rfl)
    show codeAny _ _ (.expr (lamBody eLam) (envX qual (lamScope eLam) s.heap.objs.size f (.ref c') [("heads", ch)])) _ _
    have hk : ∀ b o, s.heap.get? b = some o → h₁.get? b = some o := fun b o e => hsb.extBut b o (Nat.ne_of_lt (Heap.lt_size e)) (Heap.get?_push_of_some _ e)
    obtain ⟨och, e1, e2⟩ := id hch
    have hch1 : h₁.IsCell ch (some (.ref a)) := ⟨och, hk _ _ e1, e2⟩
    have luk : ∀ (x : Str) (c : Addr), ([("heads", ch)] : List (Str × Addr)).lookup x = some c → x = "heads" ∧ c = ch := fun x c e => by
      rw [List.lookup_cons] at e
      cases hx : x == ("heads" : Str) with
      | true => rw [hx] at e; cases e; exact ⟨eq_of_beq hx, rfl⟩
      | false => rw [hx] at e; cases e
    have noA : ∀ b : Addr, b ∉ (cxLam X qual f c' [("heads", ch)] s H).ex := fun b z => absurd (show b ∈ ([] : List Addr) from z) (by simp)
    have IL : L2.Inv (cxLam X qual f c' [("heads", ch)] s H) [] [some (.ref b), some (.ref a)] H { s with heap := h₁, toks := s.toks + ([("others", Value.ref b)] : List (Str × Value)).length } := by
      refine ⟨⟨I.mod, rfl, rfl, rfl, Nat.le_refl _, fun y z c g1 g2 => ?_, fun y hy => ?_, fun y c h _ => absurd (show false = true from h) Bool.false_ne_true, fun _ => hr.hd, Around.frames_deeper I.ok.frames, .inr ⟨rfl, rfl⟩, fun b z => absurd z (noA b), I.bs, Nat.le_trans I.ok.bsz I.sz, fun b _ _ => noA b, fun b z => absurd z (noA b), I.stack, I.stkFree⟩,
        rfl, I.bare, Un.kept hk, ⟨_, hns, fun i y v g1 g2 g3 => ?_⟩, fun y c h => ?_, I.hok.fresh (Nat.le_refl _), fun y c h => ?_, fun p hp => absurd (show p ∈ ([] : List (Addr × Obj)) from hp) (by simp), I.hok.kept hk, rfl⟩
      · rw [(luk y c g1).1, (luk z c g2).1]
      · have hy : (lamScope eLam).names.lookup y = some .cell ∨ (lamScope eLam).names.lookup y = some .free := hy
        have hy2 : y = "heads" := by
          have e : (lamScope eLam).names = ([("others", NameKind.local), ("heads", NameKind.free), ("differences", NameKind.globalImplicit)] : List (Str × NameKind)) := rfl
          rw [e] at hy
          rw [List.lookup_cons, List.lookup_cons, List.lookup_cons] at hy
          cases h1 : y == ("others" : Str) with
          | true => rw [h1] at hy; rcases hy with z | z <;> cases z
          | false =>
            rw [h1] at hy
            cases h2 : y == ("heads" : Str) with
            | true => exact eq_of_beq h2
            | false =>
              rw [h2] at hy
              cases h3 : y == ("differences" : Str) with
              | true => rw [h3] at hy; rcases hy with z | z <;> cases z
              | false => rw [h3] at hy; rcases hy with z | z <;> cases z
        exact ⟨ch, by rw [hy2]; rfl⟩
      · match i, g1, g2 with
        | 0, g1, g2 =>
          have e1 : ("others" : Str) = y := Option.some.inj g1
          have e2 : V.ref b = v := Option.some.inj (Option.some.inj g2)
          subst e1 e2
          exact ⟨.ref b, rfl, .inl ⟨rfl, rfl⟩⟩
        | 1, g1, g2 =>
          have e1 : ("heads" : Str) = y := Option.some.inj g1
          have e2 : V.ref a = v := Option.some.inj (Option.some.inj g2)
          subst e1 e2
          exact ⟨.ref a, rfl, .inr ⟨.inr rfl, ch, rfl, hch1⟩⟩
        | i + 2, g1, g2 => cases g1
      · rw [(luk y c h).2]
        exact ⟨_, hch1⟩
      · rw [(luk y c h).2]
        exact nch
    have hr2 : Room 2 (cxLam X qual f c' [("heads", ch)] s H).A := hr.deeper _
    have pe : PE (cxLam X qual f c' [("heads", ch)] s H) (lamBody eLam) (tCall (spDiffs X.K) [] E0 (tCons (tVar 1) (tCons (tVar 0) tNil))) := pe_def D hr2 (by decide) rfl (pa_cons (pv 1) (pa_cons (pv 0) pa_nil))
    refine PySem.W.kla_codeExpr (wpAny_mono (pe [] _ _ H (fun v H' => Q v H') IL ⟨_, rfl, _, rfl, a, b, l, m, rfl, ha, hb, h9, hm, fun H' s' => q H' s'⟩) (fun v s' ⟨x, H', J, rv, hq⟩ => ?_) fun e s' z => z.elim)
    exact ⟨x, H', J.os, J.bare, J.base, J.hok, rv, hq⟩
  refine wpAny_call (codeAny_mono key fun r s' hq => ?_)
  cases r with
  | error e => exact False.elim hq
  | ok fl =>
    cases fl with
    | ret u => exact I.after hq
    | next => exact False.elim hq
    | brk => exact False.elim hq
    | cont => exact False.elim hq
end
end Dk
end
section
set_option Elab.async false
set_option linter.all false
set_option maxRecDepth 100000
set_option maxHeartbeats 2000000
namespace Dk
open PySem PySem.Spec PyProof.Rows L2
open PySem.W (CodeHd tabObj kla_obj kla_fn envX)
noncomputable def qLam : Str := (("nearest_ring" : Str) ++ ".<locals>.") ++ "<lambda>"
noncomputable abbrev TabN (Pt : Addr) (H : Hp) : Prop := TabOk Pt qLam (lamPos eLam) H
noncomputable def spNearest (K : PySem.W.Frag) (Pt : Addr) : Sp := fun vs H Q _ => ∃ (a b : Addr) (l : List Nat) (ls : List (List Nat)), vs = [.ref a, .ref b] ∧ IL K H a l ∧ LL K H b ls ∧ ls ≠ [] ∧ l.length ≤ 9 ∧ (∀ m ∈ ls, m.length = l.length) ∧ TabN Pt H ∧
  ∀ H' p, SameT Pt H H' → TabN Pt H' → IL K H' p (bestBy (diffs l) ls) → Q (.ref p) H'
noncomputable abbrev nmNearest : List Str := ["heads", "rings"]
theorem scNearest : FnScope nmNearest ["heads", "rings"] (defScope sNearest) := ⟨rfl, rfl, rfl, by decide +kernel, rfl, by decide +kernel, by decide +kernel⟩
noncomputable def retOf (s : Stmt) : Expr := match defBody s with
  | [.Return (some e) _] => e
  | _ => .Constant .none 0 ⟨0, 0, 0, 0⟩
section
variable {P : Program} {w : World} {K : PySem.W.Frag} {mg : Str → Option Value} {base : Heap}
theorem lam_free {cells : List (Str × Addr)} {ch : Addr} (h : cells.lookup ("heads" : Str) = some ch) : ∀ y ∈ (lamScope eLam).names, y.2 = .free → ∃ a, cells.lookup y.1 = some a := by
  intro y hy e
  have e0 : (lamScope eLam).names = ([("others", NameKind.local), ("heads", NameKind.free), ("differences", NameKind.globalImplicit)] : List (Str × NameKind)) := rfl
  rw [e0] at hy
  rcases List.mem_cons.mp hy with rfl | hy
  · cases e
  rcases List.mem_cons.mp hy with rfl | hy
  · exact ⟨ch, h⟩
  · rw [List.mem_singleton.mp hy] at e
    cases e
theorem ok_nearest {f c Pt : Addr} {oc kV doc pm ct : Value} {od an : Option Addr} {osl : Array (Option Value)}
    (lk : K.lookup f = some ⟨oc, od, .func (PySem.W.fnOf "nearest_ring" "nearest_ring" (defArgs sNearest) (defBody sNearest) (defScope sNearest) .none kV doc pm an (.ref c) ct), osl⟩) (hcd : PySem.W.codeIn K (.ref c) "nearest_ring" = true)
    (T : Env1 mg) (C : CodeHd base c Pt) (hb : base.BuiltinsAt mg Pt) (D : Def P w K mg base "differences" 1 ["heads", "others"] (spDiffs K)) :
    FnOk P w K mg base CX0 5 f (PySem.W.fnOf "nearest_ring" "nearest_ring" (defArgs sNearest) (defBody sNearest) (defScope sNearest) .none kV doc pm an (.ref c) ct) ["heads", "rings"] (spNearest K Pt) := by
  refine fn_of lk hcd scNearest (fun vs H Q E h => ?_) (fun A outer s0 H0 vs Q0 E hr h => ?_)
  · obtain ⟨a, b, l, ls, rfl, _⟩ := h
    rfl
  · obtain ⟨a, b, l, ls, rfl, ha, ll, hne, h9, hlen, t, k⟩ := h
    refine ⟨_, pss_one (ps_ret (e := retOf sNearest) (te := fun σ H Q => σ = [some (.ref a), some (.ref b)] ∧ H = H0 ∧ ∀ H' p, SameT Pt H H' → TabN Pt H' → IL K H' p (bestBy (diffs l) ls) → Q (.ref p) H') ?_), ⟨rfl, rfl, k⟩⟩
    generalize hX : (cxOf CX0 P w K mg base nmNearest "nearest_ring" (defScope sNearest) f (.ref c) A outer s0 H0 E) = X
    have e1 : X.K = K := by rw [← hX]; rfl
    have e2 : X.mg = mg := by rw [← hX]; rfl
    have e3 : X.base = base := by rw [← hX]; rfl
    have e4 : X.prog = P := by rw [← hX]; rfl
    have e5 : X.w = w := by rw [← hX]; rfl
    have e6 : X.env.code = .ref c := by rw [← hX]; rfl
    have e7 : X.env.qual ++ "<lambda>" = qLam := by rw [← hX]; rfl
    have e8 : X.calm = true := by rw [← hX]; rfl
    have e9 : X.N = nmNearest := by rw [← hX]; rfl
    have e10 : X.env.scope = defScope sNearest := by rw [← hX]; rfl
    have hr4 : Room 4 X.A := by rw [← hX]; exact hr
    have gm : Gl X "min" := by rw [← hX]; rfl
    have pv1 : ∀ pos : Pos, PE X (.Name "rings" pos) (tVar 1) := by rw [← hX]; exact fun pos => pv 1
    have kc : X.env.kindOf "heads" = some .cell := by rw [← hX]; rfl
    have ve : Vis X.env.scope "heads" := by rw [e10]; exact Or.inr (Or.inl rfl)
    have pas : ∀ pos : Pos, PA X [.Name "rings" pos] (tCons (tVar 1) tNil) := by rw [← hX]; exact fun pos => pa_cons (pv 1) pa_nil
    have hdef : defaultsOf (lamArgs eLam) X.env = ([], []) := by rw [← hX]; rfl
    clear hX
    subst e1 e2 e3 e4 e5
    intro pins s σ H Q I h
    obtain ⟨rfl, rfl, h⟩ := h
    show wpAny _ _ (eval (.Call (.Name "min" _) [.Name "rings" _] [⟨some "key", .Lambda (lamArgs eLam) (lamBody eLam) (lamScope eLam) (lamPos eLam), _⟩] _) X.env) _ _ s
    refine wpAny_Call_Name_kw (ld_blt I gm T.min PyProof.Rows.boot_min ?_)
    refine callWith_kw (thn (pas _ _ pins s _ H (fun vs H1 => vs = [.ref b] ∧ H1 = H) I ⟨_, rfl, rfl, rfl⟩) fun us s1 hq1 => ?_)
    obtain ⟨vs, H1, I1, r1, ev, eH⟩ := hq1
    subst ev eH
    cases r1 with
    | cons r rr =>
      cases rr
      cases r
      obtain ⟨ch, hch⟩ := I1.ok.has "heads" (.inl kc)
      show wpAny _ _ (evalAll [(do let v ← eval (.Lambda (lamArgs eLam) (lamBody eLam) (lamScope eLam) (lamPos eLam)) X.env; standAt _; pure v)]) _ _ s1
      refine wpAny_evalAll_cons (wpAny_bind (mk_lam (c := c) (Pt := Pt) I1 e6 C hb (lam_free hch) hdef (by rw [e7]; exact t) fun fl c' pm' ctv H2 s2 I2 sT t2 hc' => wpAny_bind (wpAny_standAt (wpAny_pure ?_))))
      refine wpAny_evalAll_nil ?_
      rw [e7] at I2 t2 hc'
      show wpAny _ _ (call (.builtin "min") [.ref b] [(Str.ofString "key", .ref fl)]) _ _ s2
      have ha2 : IL X.K H2 a l := ha.monoT t sT
      have ll2 : LL X.K H2 b ls := ll.monoT t sT
      have ecl : cloFrom X.env.cells (lamScope eLam).names [] = [(("heads" : Str), ch)] := by
        show [(("heads" : Str), (X.env.cells.lookup ("heads" : Str)).getD 0)] = _
        rw [hch]
        rfl
      rw [ecl] at I2
      refine thn (min_key (f := diffs l) (Q := Q) (pins := pins ++ [(fl, kla_obj "<lambda>" qLam (lamArgs eLam) (lamBody eLam) (lamScope eLam) [("heads", ch)] pm' c' ctv)]) e8 ll2 hne (fun x u m more H3 s3 rx hx hm I3 sm => ?_) I2 fun v H3 sm hv => ?_) fun v s3 ⟨x, H3, I3, r3, q3⟩ => ⟨x, H3, I3.unpinned, r3, q3⟩
      · obtain ⟨bx, rfl, il⟩ := hx
        cases rx
        have hcell : s3.heap.IsCell ch (some (.ref a)) := by
          obtain ⟨mm, hn, hl⟩ := I3.loc
          obtain ⟨u, r, lo⟩ := hl 0 "heads" (.ref a) (by rw [e9]; rfl) rfl ve
          cases r
          rcases lo with ⟨z, _⟩ | ⟨_, c2, hc2, z⟩
          · rw [kc] at z; cases z
          · rw [hch] at hc2
            cases hc2
            exact z
        have p3 := I3.pin (fl, _) (List.mem_append_right _ (List.mem_append_left _ (List.mem_append_right _ (List.mem_singleton.mpr rfl))))
        refine thn (lam_call (X := in1 X) (Q := fun v H' => v = nV (diffs l m) ∧ Same H3 H') (inv_in1 I3) hr4.in1 D p3.1 (codeX_rec I3 (sm _ _ hc')) hcell (I3.freeC _ _ hch) (ha2.mono sm) il h9 (hlen m hm) fun H' s' => ⟨rfl, s'⟩) fun v s4 ⟨x, H4, I4, r4, q4⟩ => ⟨x, H4, inv_out1 I4, r4, q4⟩
      · obtain ⟨p, rfl, il⟩ := hv
        exact h H3 p (sT.trans (SameT.of sm)) (t2.mono sm) il
end
end Dk
end
section
set_option Elab.async false
set_option linter.all false
set_option maxRecDepth 100000
set_option maxHeartbeats 2000000
namespace Dk
open PySem PySem.Spec PyProof.Rows L2
/-- a list of ints -/
noncomputable def ZL (H : Hp) (a : Addr) (zs : List Int) : Prop := H a = some (.lst (zs.map V.int))
theorem ZL.mono {H H' : Hp} {a : Addr} {zs : List Int} (h : ZL H a zs) (s : Same H H') : ZL H' a zs := s _ _ h
theorem ints_map (l : List Nat) : l.map nV = (Uw69.ints l).map V.int := by
  unfold Uw69.ints
  rw [List.map_map]
  rfl
theorem IL.z {K : PySem.W.Frag} {H : Hp} {a : Addr} {l : List Nat} (h : IL K H a l) : ZL H a (Uw69.ints l) := by
  show _ = _
  rw [← ints_map]
  exact h
theorem ints_len (l : List Nat) : (Uw69.ints l).length = l.length := by unfold Uw69.ints; rw [List.length_map]
noncomputable abbrev sAreHeads : Stmt := top 51
noncomputable abbrev sMayRing : Stmt := top 52
noncomputable abbrev sMayFelt : Stmt := top 53
noncomputable abbrev sMayShapes : Stmt := top 54
noncomputable abbrev sCounted : Stmt := top 55
section
variable {P : Program} {w : World} {K : PySem.W.Frag} {mg : Str → Option Value} {base : Heap}
/-! #### are_heads -/
noncomputable def spAreHeads (K : PySem.W.Frag) : Sp := fun vs H Q _ => ∃ (a : Addr) (l : List Nat), vs = [.ref a] ∧ IL K H a l ∧ l.length ≤ 2000 ∧ ∀ H', Same H H' → Q (.bl (Uw69.isHeads l)) H'
noncomputable abbrev nmAreHeads : List Str := ["numbers", "number"]
theorem scAreHeads : FnScope nmAreHeads ["numbers"] (defScope sAreHeads) := ⟨rfl, rfl, rfl, by decide +kernel, rfl, by decide +kernel, by decide +kernel⟩
theorem bl_all (l : List Nat) : (l.map fun x => decide (x ≤ 3)).all id = Uw69.isHeads l := by
  unfold Uw69.isHeads
  rw [List.all_map]
  rfl
theorem ok_areHeads {f : Addr} {fd : FuncData} (F : Fun K "are_heads" "are_heads" sAreHeads f fd) (T : Env1 mg) (cH : Cst mg "HIGHEST_HEAD" 3) : FnOk P w K mg base CX0 1 f fd ["numbers"] (spAreHeads K) := by
  refine F.ok scAreHeads (fun vs H Q E h => ?_) (fun cdv A outer s H vs Q E hr h => ?_)
  · obtain ⟨a, l, rfl, _⟩ := h
    rfl
  · obtain ⟨a, l, rfl, ha, h1, k⟩ := h
    refine ⟨_, pss_one (ps_ret (pe_callB (cr_all rfl) (by rfl) T.all PyProof.Rows.boot_all (pa_cons (pe_lc rfl scAreHeads.nd (pi_list (pv 0)) (blk_of (N := nmAreHeads) (sc := defScope sAreHeads) (own := [("number", 1)]) rfl rfl (by decide +kernel))
      (fun _ _ _ _ _ => pg_name (i := 1) scAreHeads.nd rfl (Or.inl rfl)) (fun _ _ _ _ _ => pts_nil) (fun _ _ _ _ _ => pe_cmpR op_le (pv 1) (pe_cst cH rfl) (nomark _))) pa_nil))), ?_⟩
    refine ⟨_, rfl, a, rfl, ⟨_, ha.sq⟩, fun D hD => ?_⟩
    have e0 : (l.map nV).length = l.length := List.length_map _
    refine lcF RB RB.mono (l.map nV).length (fun _ => true) (fun i => decide (l.getD i 0 ≤ 3)) hD (size_big (by omega)) (go_lst ha.sq) (stop_lst ha.sq) ?_ ?_
    · rintro i H2 x H2' K1 K2 hi s2 hDs y k1 k2
      obtain ⟨rfl, hx⟩ := yld_lst (s2.seq ha.sq) y
      obtain ⟨hi', rfl⟩ := nv_at hx
      refine ⟨rfl, ?_⟩
      refine ⟨_, rfl, _, _, rfl, rfl, ?_⟩
      refine k1 _ _ same_refl ?_ rfl
      show V.bl _ = V.bl _
      congr 1
      rw [Bool.eq_iff_iff, decide_eq_true_iff, decide_eq_true_iff]
      omega
    · intro H2 us2 s2 hus2 hp2
      rw [e0, map_getD (f := fun x => decide (x ≤ 3)) (d := 0) l] at hp2
      have e := paired_RB hp2
      refine ⟨D, l.map fun x => decide (x ≤ 3), rfl, ?_, ?_⟩
      · rw [← e]
        exact SqL.of hus2
      · rw [bl_all]
        exact k H2 s2
/-! #### may_be_ring, may_be_felt, may_be_shapes -/
noncomputable def mayRing (x : Nat) (l : List Nat) : Bool := (x == 0 || x == 1) && ((decide (1 ≤ l.length) && decide (l.length ≤ 9)) && Uw69.isHeads l)
noncomputable def spMayRing (K : PySem.W.Frag) : Sp := fun vs H Q _ => ∃ (a : Addr) (x : Nat) (l : List Nat), vs = [nV x, .ref a] ∧ IL K H a l ∧ l.length ≤ 2000 ∧ ∀ H', Same H H' → Q (.bl (mayRing x l)) H'
theorem scMayRing : FnScope ["over", "heads"] ["over", "heads"] (defScope sMayRing) := ⟨rfl, rfl, rfl, by decide +kernel, rfl, by decide +kernel, by decide +kernel⟩
theorem in01 (x : Nat) : inV (nV x) [V.int 0, V.int 1] = (x == 0 || x == 1) := by
  show (((0 : Int) == (x : Int)) || (((1 : Int) == (x : Int)) || false)) = _
  rw [Bool.or_false]
  congr 1
  · rw [Bool.eq_iff_iff, beq_iff_eq, beq_iff_eq]; omega
  · rw [Bool.eq_iff_iff, beq_iff_eq, beq_iff_eq]; omega
theorem len_chain {n m : Nat} : (decide ((1 : Int) ≤ (n : Int))) = decide (1 ≤ n) ∧ decide ((n : Int) ≤ (m : Int)) = decide (n ≤ m) := by
  constructor <;> (rw [Bool.eq_iff_iff, decide_eq_true_iff, decide_eq_true_iff]; omega)
theorem ok_mayRing {f : Addr} {fd : FuncData} (F : Fun K "may_be_ring" "may_be_ring" sMayRing f fd) (T : Env1 mg) (cM : Cst mg "MOST_KEYS" 9) (D1 : Def P w K mg base "are_heads" 1 ["numbers"] (spAreHeads K)) : FnOk P w K mg base CX0 2 f fd ["over", "heads"] (spMayRing K) := by
  refine F.ok scMayRing (fun vs H Q E h => ?_) (fun cdv A outer s H vs Q E hr h => ?_)
  · obtain ⟨a, x, l, rfl, _⟩ := h
    rfl
  · obtain ⟨a, x, l, rfl, ha, h1, k⟩ := h
    refine ⟨_, pss_one (ps_ret (pe_and (pe_cmpR op_in_seq (pv 0) (pe_tup (pa_cons pe_int (pa_cons pe_int pa_nil))) (by with_unfolding_all rfl)) (pe_and (pe_chain op_le op_le pe_int (pe_callB call_lenH (by rfl) T.len PySem.boot_len (pa_cons (pv 1) pa_nil)) (pe_cst cM rfl)) (pe_one (pe_def D1 hr (Nat.le_refl _) rfl (pa_cons (pv 1) pa_nil)))))), ?_⟩
    refine ⟨_, rfl, (by show 2 ≤ sizeLine; decide), fun tp ft => ?_⟩
    have s1 : Same H (upd H tp (.tup [.int 0, .int 1])) := same_upd ft
    refine ⟨tp, _, rfl, .inr (SqT.of upd_same), rfl, rfl, _, rfl, ?_⟩
    have k' := k
    unfold mayRing at k'
    show if inV (nV x) [V.int 0, V.int 1] = true then _ else _
    rw [in01]
    cases e1 : (x == 0 || x == 1) with
    | false =>
      rw [e1] at k'
      exact iteF (k' _ s1)
    | true =>
      rw [e1] at k'
      refine iteT ⟨_, rfl, a, _, rfl, ha.mono s1, _, _, rfl, rfl, _, rfl, ?_⟩
      rw [List.length_map, (len_chain (m := 0)).1]
      cases e2 : decide (1 ≤ l.length) with
      | false =>
        rw [e2] at k'
        exact iteF ⟨_, rfl, iteF (k' _ s1)⟩
      | true =>
        rw [e2] at k'
        refine iteT ⟨_, _, rfl, rfl, _, rfl, ?_⟩
        show if decide ((l.length : Int) ≤ ((9 : Nat) : Int)) = true then _ else _
        rw [(len_chain (n := l.length) (m := 9)).2]
        cases e3 : decide (l.length ≤ 9) with
        | false =>
          rw [e3] at k'
          exact iteF (k' _ s1)
        | true =>
          rw [e3] at k'
          refine iteT ⟨_, rfl, a, l, rfl, ha.mono s1, h1, fun H2 s2 => k' H2 (s1.trans s2)⟩
noncomputable def mayFelt (l : List Nat) : Bool := (decide (1 ≤ l.length) && decide (l.length ≤ 20)) && Uw69.isHeads l
noncomputable def spMayFelt (K : PySem.W.Frag) : Sp := fun vs H Q _ => ∃ (a : Addr) (l : List Nat), vs = [.ref a] ∧ IL K H a l ∧ l.length ≤ 2000 ∧ ∀ H', Same H H' → Q (.bl (mayFelt l)) H'
theorem scMayFelt : FnScope ["heads"] ["heads"] (defScope sMayFelt) := ⟨rfl, rfl, rfl, by decide +kernel, rfl, by decide +kernel, by decide +kernel⟩
theorem ok_mayFelt {f : Addr} {fd : FuncData} (F : Fun K "may_be_felt" "may_be_felt" sMayFelt f fd) (T : Env1 mg) (cM : Cst mg "MOST_FELT" 20) (D1 : Def P w K mg base "are_heads" 1 ["numbers"] (spAreHeads K)) : FnOk P w K mg base CX0 2 f fd ["heads"] (spMayFelt K) := by
  refine F.ok scMayFelt (fun vs H Q E h => ?_) (fun cdv A outer s H vs Q E hr h => ?_)
  · obtain ⟨a, l, rfl, _⟩ := h
    rfl
  · obtain ⟨a, l, rfl, ha, h1, k⟩ := h
    refine ⟨_, pss_one (ps_ret (pe_and (pe_chain op_le op_le pe_int (pe_callB call_lenH (by rfl) T.len PySem.boot_len (pa_cons (pv 0) pa_nil)) (pe_cst cM rfl)) (pe_one (pe_def D1 hr (Nat.le_refl _) rfl (pa_cons (pv 0) pa_nil))))), ?_⟩
    have k' := k
    unfold mayFelt at k'
    refine ⟨_, rfl, a, _, rfl, ha, _, _, rfl, rfl, _, rfl, ?_⟩
    rw [List.length_map, (len_chain (m := 0)).1]
    cases e2 : decide (1 ≤ l.length) with
    | false =>
      rw [e2] at k'
      exact iteF ⟨_, rfl, iteF (k' _ same_refl)⟩
    | true =>
      rw [e2] at k'
      refine iteT ⟨_, _, rfl, rfl, _, rfl, ?_⟩
      show if decide ((l.length : Int) ≤ ((20 : Nat) : Int)) = true then _ else _
      rw [(len_chain (n := l.length) (m := 20)).2]
      cases e3 : decide (l.length ≤ 20) with
      | false =>
        rw [e3] at k'
        exact iteF (k' _ same_refl)
      | true =>
        rw [e3] at k'
        refine iteT ⟨_, rfl, a, l, rfl, ha, h1, fun H2 s2 => k' H2 s2⟩
noncomputable def mayShapes (k : Nat) : Bool := decide (1 ≤ k) && decide (k ≤ 3)
noncomputable def spMayShapes : Sp := fun vs H Q _ => ∃ k : Nat, vs = [nV k] ∧ Q (.bl (mayShapes k)) H
theorem scMayShapes : FnScope ["k"] ["k"] (defScope sMayShapes) := ⟨rfl, rfl, rfl, by decide +kernel, rfl, by decide +kernel, by decide +kernel⟩
theorem ok_mayShapes {f : Addr} {fd : FuncData} (F : Fun K "may_be_shapes" "may_be_shapes" sMayShapes f fd) (cM : Cst mg "MOST_SHAPES" 3) : FnOk P w K mg base CX0 1 f fd ["k"] spMayShapes := by
  refine F.ok scMayShapes (fun vs H Q E h => ?_) (fun cdv A outer s H vs Q E hr h => ?_)
  · obtain ⟨k, rfl, _⟩ := h
    rfl
  · obtain ⟨k, rfl, q⟩ := h
    refine ⟨_, pss_one (ps_ret (pe_chain op_le op_le pe_int (pv 0) (pe_cst cM rfl))), ?_⟩
    unfold mayShapes at q
    refine ⟨_, rfl, _, _, rfl, rfl, _, rfl, ?_⟩
    rw [(len_chain (m := 0)).1]
    cases e2 : decide (1 ≤ k) with
    | false =>
      rw [e2] at q
      exact iteF q
    | true =>
      rw [e2] at q
      refine iteT ⟨_, _, rfl, rfl, ?_⟩
      show Q (V.bl (decide ((k : Int) ≤ ((3 : Nat) : Int)))) H
      rw [(len_chain (n := k) (m := 3)).2]
      exact q
/-! #### counted -/
noncomputable def spCounted : Sp := fun vs H Q _ => ∃ (a : Addr) (zs : List Int), vs = [.ref a] ∧ ZL H a zs ∧ zs.length ≤ 10000000 ∧ ∀ H' p, Same H H' → H p = none → ZL H' p ((zs.length : Int) :: zs) → Q (.ref p) H'
theorem scCounted : FnScope ["numbers"] ["numbers"] (defScope sCounted) := ⟨rfl, rfl, rfl, by decide +kernel, rfl, by decide +kernel, by decide +kernel⟩
theorem ok_counted {f : Addr} {fd : FuncData} (F : Fun K "counted" "counted" sCounted f fd) (T : Env1 mg) : FnOk P w K mg base CX0 1 f fd ["numbers"] spCounted := by
  refine F.ok scCounted (fun vs H Q E h => ?_) (fun cdv A outer s H vs Q E hr h => ?_)
  · obtain ⟨a, zs, rfl, _⟩ := h
    rfl
  · obtain ⟨a, zs, rfl, ha, h1, k⟩ := h
    refine ⟨_, pss_one (ps_ret (pe_op op_cat (pe_lst (pa_cons (pe_callB call_lenH (by rfl) T.len PySem.boot_len (pa_cons (pv 0) pa_nil)) pa_nil)) (pv 0))), ?_⟩
    refine ⟨_, rfl, a, _, rfl, ha, (by show 1 ≤ sizeLine; decide), fun q fq => ?_⟩
    rw [List.length_map]
    have s1 : Same H (upd H q (.lst [.int (zs.length : Int)])) := same_upd fq
    refine ⟨_, rfl, q, a, _, _, rfl, rfl, upd_same, ha.mono s1, ?_, fun p fp => ?_⟩
    · rw [List.length_map]
      show 1 + zs.length ≤ sizeLine
      exact Nat.le_trans (show 1 + zs.length ≤ 10000001 by omega) (by decide)
    · refine k _ p (s1.trans (same_upd fp)) (s1.free fp) ?_
      show upd _ _ _ _ = _
      rw [upd_same]
      rfl
end
end Dk
end
section
set_option Elab.async false
set_option linter.all false
set_option maxRecDepth 100000
set_option maxHeartbeats 2000000
namespace Dk
open PySem PySem.Spec PyProof.Rows L2
/-! ### methods -/
structure MDef (P : Program) (w : World) (K : PySem.W.Frag) (mg : Str → Option Value) (base : Heap) (C : Addr) (m : Str) (k : Nat) (ps : List Str) (sp : Sp) : Prop where
  ex : ∃ f fd, FnOk P w K mg base CX0 k f fd ps sp ∧ Meth K C m f ∧ Binds K fd ps []
theorem pe_mdef {X : Cx} {C : Addr} {m : Str} {j k : Nat} {ps : List Str} {sp : Sp} {o e : Expr} {es : List Expr} {apos pos : Pos} {ta : TE} {t : TA} {pl : Sem Bool} (M : MDef X.prog X.w X.K X.mg X.base C m k ps sp) (c : Cls X.K C) (hr : Room j X.A) (hj : k ≤ j) (he : PE X o ta) (ha : PA X (e :: es) t)
    (hst : starEach (e :: es) X.env = (false, eval e X.env) :: starEach es X.env := by rfl) (hpl : (backTo pos (starEach es X.env)).any (·.1) = false := by rfl)
    (ht : eval (.Call (.Attribute o m apos) (e :: es) [] pos) X.env = (do
      let ov ← eval o X.env
      standAt apos.atName
      let (f, first) ← holding [ov] (getMethod ov m pl)
      callWith pos f first (backTo pos (starEach (e :: es) X.env)) (backToKw pos (keywordEach [] X.env))) := by rfl) :
    PE X (.Call (.Attribute o m apos) (e :: es) [] pos) (tMeth C m sp [] E0 ta t) := by
  obtain ⟨f, fd, F, hm, hb⟩ := M.ex
  exact pe_meth he c hm F (hr.mono hj) hb .nil pass0 ha hst hpl ht
theorem pe_mdef0 {X : Cx} {C : Addr} {m : Str} {j k : Nat} {ps : List Str} {sp : Sp} {o : Expr} {apos pos : Pos} {ta : TE} {pl : Sem Bool} (M : MDef X.prog X.w X.K X.mg X.base C m k ps sp) (c : Cls X.K C) (hr : Room j X.A) (hj : k ≤ j) (he : PE X o ta)
    (ht : eval (.Call (.Attribute o m apos) [] [] pos) X.env = (do
      let ov ← eval o X.env
      standAt apos.atName
      let (f, first) ← holding [ov] (getMethod ov m pl)
      callWith pos f first (backTo pos (starEach [] X.env)) (backToKw pos (keywordEach [] X.env))) := by rfl) :
    PE X (.Call (.Attribute o m apos) [] [] pos) (tMeth C m sp [] E0 ta tNil) := by
  obtain ⟨f, fd, F, hm, hb⟩ := M.ex
  exact pe_meth0 he c hm F (hr.mono hj) hb .nil pass0 ht
/-! ### KeyRing -/
noncomputable abbrev cKR : Stmt := top 56
noncomputable abbrev mInit : Stmt := inClass cKR 0
noncomputable abbrev mRing : Stmt := inClass cKR 1
noncomputable abbrev mTold : Stmt := inClass cKR 2
noncomputable abbrev mAlike : Stmt := inClass cKR 3
noncomputable abbrev mTurns : Stmt := inClass cKR 4
noncomputable abbrev mLooks : Stmt := inClass cKR 5
noncomputable abbrev mForm : Stmt := inClass cKR 6
noncomputable abbrev mFelt : Stmt := inClass cKR 7
noncomputable abbrev mSure : Stmt := inClass cKR 8
noncomputable abbrev mMany : Stmt := inClass cKR 9
noncomputable abbrev mGood : Stmt := inClass cKR 10
noncomputable abbrev mFewest : Stmt := inClass cKR 11
noncomputable abbrev mWays : Stmt := inClass cKR 12
noncomputable abbrev mChange : Stmt := inClass cKR 13
noncomputable def kf (o : V) (a : Addr) : List (Str × V) := [("over", o), ("heads", .ref a)]
theorem kf_over (x : V) (a : Addr) : (kf x a).lookup ("over" : Str) = some x := rfl
theorem kf_heads (x : V) (a : Addr) : (kf x a).lookup ("heads" : Str) = some (.ref a) := rfl
structure TK (K : PySem.W.Frag) (C : Addr) : Prop where
  cl : Cls K C
  nO : NoAttr K C "over"
  nH : NoAttr K C "heads"
/-- a KeyRing at p: whether over, the heads -/
noncomputable def KR (K : PySem.W.Frag) (C : Addr) (H : Hp) (p : Addr) (o : Bool) (l : List Nat) : Prop := ∃ dx a, H p = some (.ins C dx (kf (oV o) a)) ∧ IL K H a l
theorem KR.mono {K : PySem.W.Frag} {C : Addr} {H H' : Hp} {p : Addr} {o : Bool} {l : List Nat} (h : KR K C H p o l) (s : Same H H') : KR K C H' p o l := by
  obtain ⟨dx, a, h1, h2⟩ := h
  exact ⟨dx, a, s _ _ h1, h2.mono s⟩
noncomputable abbrev Rg (o : Bool) (l : List Nat) : Uw69.Ring := ⟨o, l⟩
/-- promises of the methods that change nothing -/
noncomputable def spM0 (K : PySem.W.Frag) (C : Addr) (c : Uw69.Call) : Sp := fun vs H Q _ => ∃ (p : Addr) (o : Bool) (l : List Nat), vs = [.ref p] ∧ KR K C H p o l ∧ 0 < l.length ∧ l.length ≤ 9 ∧ ∀ H' q, Same H H' → ZL H' q (Uw69.step (Rg o l) c).2 → Q (.ref q) H'
noncomputable def spM1 (K : PySem.W.Frag) (C : Addr) (c : Nat → Uw69.Call) : Sp := fun vs H Q _ => ∃ (p : Addr) (o : Bool) (l : List Nat) (k : Nat), vs = [.ref p, nV k] ∧ KR K C H p o l ∧ 0 < l.length ∧ l.length ≤ 9 ∧ ∀ H' q, Same H H' → ZL H' q (Uw69.step (Rg o l) (c k)).2 → Q (.ref q) H'
noncomputable def spMR (K : PySem.W.Frag) (C : Addr) (c : List Nat → Uw69.Call) : Sp := fun vs H Q _ => ∃ (p : Addr) (o : Bool) (l : List Nat) (b : Addr) (m : List Nat), vs = [.ref p, .ref b] ∧ KR K C H p o l ∧ IL K H b m ∧ m.length ≤ 2000 ∧ 0 < l.length ∧ l.length ≤ 9 ∧ ∀ H' q, Same H H' → ZL H' q (Uw69.step (Rg o l) (c m)).2 → Q (.ref q) H'
theorem counted_z (l : List Nat) : (((Uw69.ints l).length : Int) :: Uw69.ints l) = Uw69.counted l := by
  unfold Uw69.counted
  rw [ints_len]
theorem filter_le {n : Nat} {p : Nat → Bool} : ((List.range n).filter p).length ≤ n := by
  have := List.length_filter_le p (List.range n)
  rw [List.length_range] at this
  exact this
section
variable {P : Program} {w : World} {K : PySem.W.Frag} {mg : Str → Option Value} {base : Heap}
/-! #### __init__ -/
noncomputable def spKInit (K : PySem.W.Frag) (C : Addr) : Sp := fun vs H Q _ => ∃ (p dx : Addr), vs = [.ref p] ∧ H p = some (.ins C dx []) ∧ ∀ H', KR K C H' p true [0] → SameT p H H' → Q .non H'
theorem scKInit : FnScope ["self"] ["self"] (defScope mInit) := ⟨rfl, rfl, rfl, by decide +kernel, rfl, by decide +kernel, by decide +kernel⟩
theorem ok_kinit {f C : Addr} {fd : FuncData} (F : Fun K "__init__" "KeyRing.__init__" mInit f fd) (T : TK K C) : FnOk P w K mg base CX0 1 f fd ["self"] (spKInit K C) := by
  refine F.ok scKInit (fun vs H Q E h => ?_) (fun cdv A outer s H vs Q E hr h => ?_)
  · obtain ⟨p, dx, rfl, _⟩ := h
    rfl
  · obtain ⟨p, dx, rfl, hp, k⟩ := h
    refine ⟨_, pss_cons (ps_fld (pv 0) pe_int rfl) (pss_one (ps_fld (pv 0) (pe_lst (pa_cons pe_int pa_nil)) rfl)), ?_⟩
    refine ⟨_, rfl, p, C, dx, [], rfl, hp, T.cl, T.nO, (by show 0 < 1000; decide), ?_⟩
    refine ⟨(by show 1 ≤ sizeLine; decide), fun a fa => ?_⟩
    have np : p ≠ a := ne_of_none (H := upd H p (.ins C dx (putF "over" (.int 1) []))) upd_same fa
    refine ⟨_, rfl, p, C, dx, _, rfl, (by rw [upd_ne np, upd_same]), T.cl, T.nH, (by show 1 < 1000; decide), ?_⟩
    refine k _ ⟨dx, a, upd_same, ?_⟩ fun b o hb e => ?_
    · show upd _ _ _ _ = _
      rw [upd_ne np.symm, upd_same]
      rfl
    · rw [upd_ne hb, upd_ne (ne_of_none (H := upd H p (.ins C dx (putF "over" (.int 1) []))) (by rw [upd_ne hb]; exact e) fa), upd_ne hb]
      exact e
/-! #### told, turns, form -/
theorem scKTold : FnScope ["self"] ["self"] (defScope mTold) := ⟨rfl, rfl, rfl, by decide +kernel, rfl, by decide +kernel, by decide +kernel⟩
theorem ok_ktold {f C : Addr} {fd : FuncData} (F : Fun K "told" "KeyRing.told" mTold f fd) (T : TK K C) (Dc : Def P w K mg base "counted" 1 ["numbers"] spCounted) (D1 : Def P w K mg base "told_places" 4 ["heads", "over"] (spTold K)) :
    FnOk P w K mg base CX0 5 f fd ["self"] (spM0 K C .told) := by
  refine F.ok scKTold (fun vs H Q E h => ?_) (fun cdv A outer s H vs Q E hr h => ?_)
  · obtain ⟨p, o, l, rfl, _⟩ := h
    rfl
  · obtain ⟨p, o, l, rfl, ⟨dx, a, hp, ha⟩, h0, h9, k⟩ := h
    refine ⟨_, pss_one (ps_ret (pe_def Dc hr (by decide) rfl (pa_cons (pe_def D1 hr (Nat.le_refl _) rfl (pa_cons (pe_fld (pv 0) rfl) (pa_cons (pe_fld (pv 0) rfl) pa_nil))) pa_nil))), ?_⟩
    refine ⟨_, rfl, p, C, dx, _, _, rfl, hp, T.cl, T.nH, kf_heads _ _, _, rfl, p, C, dx, _, _, rfl, hp, T.cl, T.nO, kf_over _ _, a, l, o, rfl, ha, h0, h9, fun H1 q s1 fq il => ?_⟩
    refine ⟨q, _, rfl, il.z, ?_, fun H2 q2 s2 f2 z => ?_⟩
    · rw [ints_len]
      have : (toldP l o).length ≤ l.length := filter_le
      omega
    · rw [counted_z, toldP_eq] at z
      exact k H2 q2 (s1.trans s2) z
theorem scKTurns : FnScope ["self"] ["self"] (defScope mTurns) := ⟨rfl, rfl, rfl, by decide +kernel, rfl, by decide +kernel, by decide +kernel⟩
theorem ok_kturns {f C : Addr} {fd : FuncData} (F : Fun K "turns" "KeyRing.turns" mTurns f fd) (T : TK K C) (Dc : Def P w K mg base "counted" 1 ["numbers"] spCounted) (D1 : Def P w K mg base "silent_numbers" 3 ["heads", "over"] (spSilentN K)) :
    FnOk P w K mg base CX0 4 f fd ["self"] (spM0 K C .turns) := by
  refine F.ok scKTurns (fun vs H Q E h => ?_) (fun cdv A outer s H vs Q E hr h => ?_)
  · obtain ⟨p, o, l, rfl, _⟩ := h
    rfl
  · obtain ⟨p, o, l, rfl, ⟨dx, a, hp, ha⟩, h0, h9, k⟩ := h
    refine ⟨_, pss_one (ps_ret (pe_def Dc hr (by decide) rfl (pa_cons (pe_def D1 hr (Nat.le_refl _) rfl (pa_cons (pe_fld (pv 0) rfl) (pa_cons (pe_fld (pv 0) rfl) pa_nil))) pa_nil))), ?_⟩
    refine ⟨_, rfl, p, C, dx, _, _, rfl, hp, T.cl, T.nH, kf_heads _ _, _, rfl, p, C, dx, _, _, rfl, hp, T.cl, T.nO, kf_over _ _, a, l, o, rfl, ha, h0, h9, fun H1 q s1 fq il => ?_⟩
    refine ⟨q, _, rfl, il.z, ?_, fun H2 q2 s2 f2 z => ?_⟩
    · rw [ints_len]
      have h1 : (silentNumbers l o).length ≤ (allTurns l.length o).length := filter_le
      have h2 := allTurns_length (n := l.length) (o := o)
      omega
    · rw [counted_z, silentNumbers_eq] at z
      exact k H2 q2 (s1.trans s2) z
theorem scKForm : FnScope ["self"] ["self"] (defScope mForm) := ⟨rfl, rfl, rfl, by decide +kernel, rfl, by decide +kernel, by decide +kernel⟩
theorem formOf_len {l : List Nat} {o : Bool} (h : 0 < l.length) : (formOf l o).length = l.length := minL_len looks_len (looks_ne h)
theorem ok_kform {f C : Addr} {fd : FuncData} (F : Fun K "form" "KeyRing.form" mForm f fd) (T : TK K C) (Dc : Def P w K mg base "counted" 1 ["numbers"] spCounted) (D1 : Def P w K mg base "form_of" 4 ["heads", "over"] (spForm K)) :
    FnOk P w K mg base CX0 5 f fd ["self"] (spM0 K C .form) := by
  refine F.ok scKForm (fun vs H Q E h => ?_) (fun cdv A outer s H vs Q E hr h => ?_)
  · obtain ⟨p, o, l, rfl, _⟩ := h
    rfl
  · obtain ⟨p, o, l, rfl, ⟨dx, a, hp, ha⟩, h0, h9, k⟩ := h
    refine ⟨_, pss_one (ps_ret (pe_def Dc hr (by decide) rfl (pa_cons (pe_def D1 hr (Nat.le_refl _) rfl (pa_cons (pe_fld (pv 0) rfl) (pa_cons (pe_fld (pv 0) rfl) pa_nil))) pa_nil))), ?_⟩
    refine ⟨_, rfl, p, C, dx, _, _, rfl, hp, T.cl, T.nH, kf_heads _ _, _, rfl, p, C, dx, _, _, rfl, hp, T.cl, T.nO, kf_over _ _, a, l, o, rfl, ha, h0, h9, fun H1 q s1 il => ?_⟩
    refine ⟨q, _, rfl, il.z, ?_, fun H2 q2 s2 f2 z => ?_⟩
    · rw [ints_len, formOf_len h0]
      omega
    · rw [counted_z, formOf_eq h0] at z
      exact k H2 q2 (s1.trans s2) z
/-! #### alike -/
theorem scKAlike : FnScope ["self", "place"] ["self", "place"] (defScope mAlike) := ⟨rfl, rfl, rfl, by decide +kernel, rfl, by decide +kernel, by decide +kernel⟩
theorem ok_kalike {f C : Addr} {fd : FuncData} (F : Fun K "alike" "KeyRing.alike" mAlike f fd) (T : TK K C) (E1 : Env1 mg) (cR : Cst mg "REFUSED" (-1)) (Dc : Def P w K mg base "counted" 1 ["numbers"] spCounted) (D1 : Def P w K mg base "alike_places" 4 ["heads", "over", "place"] (spAlike K)) :
    FnOk P w K mg base CX0 5 f fd ["self", "place"] (spM1 K C .alike) := by
  refine F.ok scKAlike (fun vs H Q E h => ?_) (fun cdv A outer s H vs Q E hr h => ?_)
  · obtain ⟨p, o, l, kk, rfl, _⟩ := h
    rfl
  · obtain ⟨p, o, l, kk, rfl, ⟨dx, a, hp, ha⟩, h0, h9, k⟩ := h
    refine ⟨_, pss_cons (ps_if (pt_cmpR op_ge (pv 1) (pe_callB call_lenH (by rfl) E1.len PySem.boot_len (pa_cons (pe_fld (pv 0) rfl) pa_nil)) (nomark _)) (pss_one (ps_ret (pe_lst (pa_cons (pe_cst cR rfl) pa_nil)))) pss_nil)
      (pss_one (ps_ret (pe_def Dc hr (by decide) rfl (pa_cons (pe_def D1 hr (Nat.le_refl _) rfl (pa_cons (pe_fld (pv 0) rfl) (pa_cons (pe_fld (pv 0) rfl) (pa_cons (pv 1) pa_nil)))) pa_nil)))), ?_⟩
    refine ⟨_, rfl, _, rfl, p, C, dx, _, _, rfl, hp, T.cl, T.nH, kf_heads _ _, a, _, rfl, ha, _, _, rfl, rfl, _, rfl, ?_⟩
    rw [List.length_map]
    have ed : decide ((l.length : Int) ≤ (kk : Int)) = decide (l.length ≤ kk) := by rw [Bool.eq_iff_iff, decide_eq_true_iff, decide_eq_true_iff]; omega
    rw [ed]
    by_cases e : l.length ≤ kk
    · rw [decide_eq_true e]
      refine iteT ⟨(by show 1 ≤ sizeLine; decide), fun q fq => k _ q (same_upd fq) ?_⟩
      show upd _ _ _ _ = _
      rw [upd_same]
      show _ = some (HO.lst ((if l.length ≤ kk then [-1] else _ : List Int).map V.int))
      rw [if_pos e]
      rfl
    · rw [decide_eq_false e]
      refine iteF ?_
      refine ⟨_, rfl, p, C, dx, _, _, rfl, hp, T.cl, T.nH, kf_heads _ _, _, rfl, p, C, dx, _, _, rfl, hp, T.cl, T.nO, kf_over _ _, _, rfl, a, l, o, kk, rfl, ha, h9, by omega, fun H1 q s1 fq il => ?_⟩
      refine ⟨q, _, rfl, il.z, ?_, fun H2 q2 s2 f2 z => ?_⟩
      · rw [ints_len]
        have : (alikeP l o kk).length ≤ l.length := filter_le
        omega
      · rw [counted_z, alikeP_eq l o (by omega)] at z
        refine k H2 q2 (s1.trans s2) ?_
        show ZL H2 q2 (if l.length ≤ kk then [-1] else _)
        rw [if_neg e]
        exact z
/-! #### looks -/
theorem scKLooks : FnScope ["self", "heads"] ["self", "heads"] (defScope mLooks) := ⟨rfl, rfl, rfl, by decide +kernel, rfl, by decide +kernel, by decide +kernel⟩
theorem ok_klooks {f C : Addr} {fd : FuncData} (F : Fun K "looks" "KeyRing.looks" mLooks f fd) (T : TK K C) (E1 : Env1 mg) (cR : Cst mg "REFUSED" (-1)) (D1 : Def P w K mg base "are_heads" 1 ["numbers"] (spAreHeads K)) (D2 : Def P w K mg base "all_looks" 3 ["heads", "over"] (spLooks K)) :
    FnOk P w K mg base CX0 4 f fd ["self", "heads"] (spMR K C .looks) := by
  refine F.ok scKLooks (fun vs H Q E h => ?_) (fun cdv A outer s H vs Q E hr h => ?_)
  · obtain ⟨p, o, l, b, m, rfl, _⟩ := h
    rfl
  · obtain ⟨p, o, l, b, m, rfl, ⟨dx, a, hp, ha⟩, hb, hm, h0, h9, k⟩ := h
    refine ⟨_, pss_cons (ps_if (PW.pt (pw_or (pt_cmpR op_ne (pe_callB call_lenH (by rfl) E1.len PySem.boot_len (pa_cons (pv 1) pa_nil)) (pe_callB call_lenH (by rfl) E1.len PySem.boot_len (pa_cons (pe_fld (pv 0) rfl) pa_nil)) (nomark _)) (pw_or1 (pt_not (pt_val (pe_def D1 hr (by decide) rfl (pa_cons (pv 1) pa_nil)))))))
        (pss_one (ps_ret (pe_lst (pa_cons (pe_cst cR rfl) pa_nil)))) pss_nil)
      (pss_one (ps_ret (pe_lst (pa_cons (pe_ifExp (pt_cmpR (op_inLL K hr.units) (pv 1) (pe_def D2 hr (Nat.le_refl _) rfl (pa_cons (pe_fld (pv 0) rfl) (pa_cons (pe_fld (pv 0) rfl) pa_nil))) (by with_unfolding_all rfl)) pe_int pe_int) pa_nil)))), ?_⟩
    have refuse : ∀ H1, Same H H1 → (m.length ≠ l.length ∨ Uw69.isHeads m = false) → tLst (tCons (tC (.int (-1))) tNil) [some (.ref p), some (.ref b)] H1 Q := by
      intro H1 s1 hn
      refine ⟨(by show 1 ≤ sizeLine; decide), fun q fq => k _ q (s1.trans (same_upd fq)) ?_⟩
      show upd _ _ _ _ = _
      rw [upd_same]
      show _ = some (HO.lst ((if m.length ≠ l.length ∨ Uw69.isHeads m = false then [-1] else _ : List Int).map V.int))
      rw [if_pos hn]
      rfl
    refine ⟨_, rfl, b, _, rfl, hb, _, rfl, p, C, dx, _, _, rfl, hp, T.cl, T.nH, kf_heads _ _, a, _, rfl, ha, rfl, _, rfl, ?_⟩
    rw [List.length_map, List.length_map]
    have ed : (!decide (V.int (m.length : Int) = V.int (l.length : Int))) = !(m.length == l.length) := by
      rw [dec_int]
      congr 1
      rw [Bool.eq_iff_iff, beq_iff_eq, beq_iff_eq]
      omega
    rw [ed]
    by_cases e : m.length = l.length
    · rw [beq_iff_eq.mpr e]
      refine iteF ⟨_, rfl, b, m, rfl, hb, hm, fun H1 s1 => ⟨_, rfl, ?_⟩⟩
      cases e2 : Uw69.isHeads m with
      | false => exact iteT (refuse H1 s1 (.inr e2))
      | true =>
        refine iteF ?_
        refine ⟨_, rfl, _, rfl, p, C, dx, _, _, rfl, s1 _ _ hp, T.cl, T.nH, kf_heads _ _, _, rfl, p, C, dx, _, _, rfl, s1 _ _ hp, T.cl, T.nO, kf_over _ _, a, l, o, rfl, ha.mono s1, h0, h9, fun H2 q s2 fq ll => ?_⟩
        refine ⟨b, q, m, _, rfl, rfl, (hb.mono s1).mono s2, ll, _, rfl, ?_⟩
        rw [looks_eq]
        have fin : ∀ z : Int, (Uw69.step (Rg o l) (.looks m)).2 = [z] → tC (V.int z) [some (.ref p), some (.ref b)] H2 (fun x H3 => tNil [some (.ref p), some (.ref b)] H3 fun xs H4 => (x :: xs).length ≤ sizeLine ∧ ∀ p, H4 p = none → Q (.ref p) (upd H4 p (.lst (x :: xs)))) := by
          intro z ez
          refine ⟨(by show 1 ≤ sizeLine; decide), fun q2 f2 => k _ q2 (s1.trans (s2.trans (same_upd f2))) ?_⟩
          rw [ez]
          exact upd_same
        have est : (Uw69.step (Rg o l) (.looks m)).2 = if Uw69.looksLike (Rg o l) m = true then [1] else [0] := by
          show (if m.length ≠ l.length ∨ Uw69.isHeads m = false then [-1] else _) = _
          rw [if_neg (by rw [e2]; simp [e])]
        cases e3 : Uw69.looksLike (Rg o l) m with
        | true => exact iteT (fin 1 (by rw [est, e3]; rfl))
        | false => exact iteF (fin 0 (by rw [est, e3]; rfl))
    · rw [beq_eq_false_iff_ne.mpr e]
      exact iteT (iteT (refuse H same_refl (.inl e)))
end
end Dk
end
section
set_option Elab.async false
set_option linter.all false
set_option maxRecDepth 100000
set_option maxHeartbeats 2000000
namespace Dk
open PySem PySem.Spec PyProof.Rows L2
theorem upd_z {H : Hp} {q : Addr} {zs : List Int} {us : List V} (h : us = zs.map V.int) : ZL (upd H q (.lst us)) q zs := by
  show upd _ _ _ _ = _
  rw [upd_same, h]
section
variable {P : Program} {w : World} {K : PySem.W.Frag} {mg : Str → Option Value} {base : Heap}
/-! #### felt -/
theorem scKFelt : FnScope ["self", "heads"] ["self", "heads"] (defScope mFelt) := ⟨rfl, rfl, rfl, by decide +kernel, rfl, by decide +kernel, by decide +kernel⟩
theorem mayFelt_not {m : List Nat} (e : mayFelt m = false) : m.length < 1 ∨ 20 < m.length ∨ Uw69.isHeads m = false := by
  unfold mayFelt at e
  by_cases h1 : m.length < 1
  · exact .inl h1
  by_cases h2 : 20 < m.length
  · exact .inr (.inl h2)
  refine .inr (.inr ?_)
  rw [decide_eq_true (by omega), decide_eq_true (by omega)] at e
  simpa using e
theorem mayFelt_yes {m : List Nat} (e : mayFelt m = true) : 1 ≤ m.length ∧ m.length ≤ 20 ∧ Uw69.isHeads m = true := by
  unfold mayFelt at e
  rw [Bool.and_eq_true, Bool.and_eq_true, decide_eq_true_iff, decide_eq_true_iff] at e
  exact ⟨e.1.1, e.1.2, e.2⟩
theorem ok_kfelt {f C : Addr} {fd : FuncData} (F : Fun K "felt" "KeyRing.felt" mFelt f fd) (T : TK K C) (cR : Cst mg "REFUSED" (-1)) (Dc : Def P w K mg base "counted" 1 ["numbers"] spCounted) (D1 : Def P w K mg base "may_be_felt" 2 ["heads"] (spMayFelt K)) (D2 : Def P w K mg base "last_places" 3 ["heads", "over", "felt"] (spLastP K)) :
    FnOk P w K mg base CX0 4 f fd ["self", "heads"] (spMR K C .felt) := by
  refine F.ok scKFelt (fun vs H Q E h => ?_) (fun cdv A outer s H vs Q E hr h => ?_)
  · obtain ⟨p, o, l, b, m, rfl, _⟩ := h
    rfl
  · obtain ⟨p, o, l, b, m, rfl, ⟨dx, a, hp, ha⟩, hb, hm, h0, h9, k⟩ := h
    refine ⟨_, pss_cons (ps_if (pt_not (pt_val (pe_def D1 hr (by decide) rfl (pa_cons (pv 1) pa_nil)))) (pss_one (ps_ret (pe_lst (pa_cons (pe_cst cR rfl) pa_nil)))) pss_nil)
      (pss_one (ps_ret (pe_def Dc hr (by decide) rfl (pa_cons (pe_def D2 hr (Nat.le_refl _) rfl (pa_cons (pe_fld (pv 0) rfl) (pa_cons (pe_fld (pv 0) rfl) (pa_cons (pv 1) pa_nil)))) pa_nil)))), ?_⟩
    refine ⟨_, rfl, b, m, rfl, hb, hm, fun H1 s1 => ⟨_, rfl, ?_⟩⟩
    cases e : mayFelt m with
    | false =>
      have hn := mayFelt_not e
      refine iteT ⟨(by show 1 ≤ sizeLine; decide), fun q fq => k _ q (s1.trans (same_upd fq)) ?_⟩
      show ZL _ q (if m.length < 1 ∨ 20 < m.length ∨ Uw69.isHeads m = false then [-1] else _)
      rw [if_pos hn]
      exact upd_z rfl
    | true =>
      obtain ⟨e1, e2, e3⟩ := mayFelt_yes e
      refine iteF ?_
      refine ⟨_, rfl, p, C, dx, _, _, rfl, s1 _ _ hp, T.cl, T.nH, kf_heads _ _, _, rfl, p, C, dx, _, _, rfl, s1 _ _ hp, T.cl, T.nO, kf_over _ _, _, rfl, a, b, l, m, o, rfl, ha.mono s1, hb.mono s1, h0, h9, e2, fun H2 q s2 fq il => ?_⟩
      refine ⟨q, _, rfl, il.z, ?_, fun H3 q2 s3 f2 z => ?_⟩
      · rw [ints_len]
        have : (lastP l o m).length ≤ l.length := filter_le
        omega
      · rw [counted_z, show lastP l o m = Uw69.lasts (Rg o l) m from lastP_eq (r := Rg o l) e1] at z
        refine k H3 q2 (s1.trans (s2.trans s3)) ?_
        show ZL _ q2 (if m.length < 1 ∨ 20 < m.length ∨ Uw69.isHeads m = false then [-1] else _)
        have nn : ¬ (m.length < 1 ∨ 20 < m.length ∨ Uw69.isHeads m = false) := by
          rw [e3]
          rintro (z | z | z)
          · omega
          · omega
          · cases z
        rw [if_neg nn]
        exact z
/-! #### sure -/
theorem scKSure : FnScope ["self", "many"] ["self"] (defScope mSure) := ⟨rfl, rfl, rfl, by decide +kernel, rfl, by decide +kernel, by decide +kernel⟩
theorem ok_ksure {f C : Addr} {fd : FuncData} (F : Fun K "sure" "KeyRing.sure" mSure f fd) (T : TK K C) (cN : Cst mg "NONE_SUCH" (-6)) (D1 : Def P w K mg base "least_sure" 5 ["heads", "over"] (spLeast K)) :
    FnOk P w K mg base CX0 6 f fd ["self"] (spM0 K C .sure) := by
  refine F.ok scKSure (fun vs H Q E h => ?_) (fun cdv A outer s H vs Q E hr h => ?_)
  · obtain ⟨p, o, l, rfl, _⟩ := h
    rfl
  · obtain ⟨p, o, l, rfl, ⟨dx, a, hp, ha⟩, h0, h9, k⟩ := h
    refine ⟨_, pss_cons (ps_set (i := 1) scKSure.nd rfl (Or.inl rfl) (pe_def D1 hr (Nat.le_refl _) rfl (pa_cons (pe_fld (pv 0) rfl) (pa_cons (pe_fld (pv 0) rfl) pa_nil))))
      (pss_one (ps_ret (pe_lst (pa_cons (pe_ifExp (pt_cmp (pc_isN (pv 1))) (pe_cst cN rfl) (pv 1)) pa_nil)))), ?_⟩
    refine ⟨_, rfl, p, C, dx, _, _, rfl, hp, T.cl, T.nH, kf_heads _ _, _, rfl, p, C, dx, _, _, rfl, hp, T.cl, T.nO, kf_over _ _, a, l, o, rfl, ha, h0, h9, fun H1 s1 => ?_⟩
    have es : leastSure l o = Uw69.sure (Rg o l) := leastSure_eq (r := Rg o l) h0
    refine ⟨_, rfl, _, rfl, ?_⟩
    cases e : leastSure l o with
    | none =>
      refine iteT ⟨(by show 1 ≤ sizeLine; decide), fun q fq => k _ q (s1.trans (same_upd fq)) ?_⟩
      show ZL _ q (match Uw69.sure (Rg o l) with | none => [-6] | some m => [(m : Int)])
      rw [← es, e]
      exact upd_z rfl
    | some m =>
      refine iteF ⟨_, rfl, (by show 1 ≤ sizeLine; decide), fun q fq => k _ q (s1.trans (same_upd fq)) ?_⟩
      show ZL _ q (match Uw69.sure (Rg o l) with | none => [-6] | some m => [(m : Int)])
      rw [← es, e]
      exact upd_z rfl
/-! #### has_too_many, good_ones -/
noncomputable def spMany (K : PySem.W.Frag) (C : Addr) : Sp := fun vs H Q _ => ∃ (p : Addr) (o : Bool) (l : List Nat), vs = [.ref p] ∧ KR K C H p o l ∧ Q (.bl (decide (8 < l.length))) H
theorem scKMany : FnScope ["self"] ["self"] (defScope mMany) := ⟨rfl, rfl, rfl, by decide +kernel, rfl, by decide +kernel, by decide +kernel⟩
theorem ok_kmany {f C : Addr} {fd : FuncData} (F : Fun K "has_too_many" "KeyRing.has_too_many" mMany f fd) (T : TK K C) (E1 : Env1 mg) (cM : Cst mg "MOST_KEYS_TO_SHAPE" 8) : FnOk P w K mg base CX0 1 f fd ["self"] (spMany K C) := by
  refine F.ok scKMany (fun vs H Q E h => ?_) (fun cdv A outer s H vs Q E hr h => ?_)
  · obtain ⟨p, o, l, rfl, _⟩ := h
    rfl
  · obtain ⟨p, o, l, rfl, ⟨dx, a, hp, ha⟩, k⟩ := h
    refine ⟨_, pss_one (ps_ret (pe_cmpR op_gt (pe_callB call_lenH (by rfl) E1.len PySem.boot_len (pa_cons (pe_fld (pv 0) rfl) pa_nil)) (pe_cst cM rfl) (nomark _))), ?_⟩
    refine ⟨_, rfl, p, C, dx, _, _, rfl, hp, T.cl, T.nH, kf_heads _ _, a, _, rfl, ha, _, _, rfl, rfl, ?_⟩
    rw [List.length_map]
    have ed : decide ((8 : Int) < (l.length : Int)) = decide (8 < l.length) := by rw [Bool.eq_iff_iff, decide_eq_true_iff, decide_eq_true_iff]; omega
    show Q (V.bl (decide ((8 : Int) < (l.length : Int)))) H
    rw [ed]
    exact k
noncomputable def spGoodOnes (K : PySem.W.Frag) (C : Addr) : Sp := fun vs H Q _ => ∃ (p : Addr) (o : Bool) (l : List Nat) (kk : Nat), vs = [.ref p, nV kk] ∧ KR K C H p o l ∧ 0 < l.length ∧ l.length ≤ 8 ∧ kk ≤ 4 ∧ ∀ H' q, Same H H' → LL K H' q (goodRings l.length o kk) → Q (.ref q) H'
theorem scKGood : FnScope ["self", "k"] ["self", "k"] (defScope mGood) := ⟨rfl, rfl, rfl, by decide +kernel, rfl, by decide +kernel, by decide +kernel⟩
theorem ok_kgood {f C : Addr} {fd : FuncData} (F : Fun K "good_ones" "KeyRing.good_ones" mGood f fd) (T : TK K C) (E1 : Env1 mg) (D1 : Def P w K mg base "good_rings" 4 ["many", "over", "shapes"] (spGoodRings K)) : FnOk P w K mg base CX0 5 f fd ["self", "k"] (spGoodOnes K C) := by
  refine F.ok scKGood (fun vs H Q E h => ?_) (fun cdv A outer s H vs Q E hr h => ?_)
  · obtain ⟨p, o, l, kk, rfl, _⟩ := h
    rfl
  · obtain ⟨p, o, l, kk, rfl, ⟨dx, a, hp, ha⟩, h0, h8, h4, k⟩ := h
    refine ⟨_, pss_one (ps_ret (pe_def D1 hr (Nat.le_refl _) rfl (pa_cons (pe_callB call_lenH (by rfl) E1.len PySem.boot_len (pa_cons (pe_fld (pv 0) rfl) pa_nil)) (pa_cons (pe_fld (pv 0) rfl) (pa_cons (pv 1) pa_nil))))), ?_⟩
    refine ⟨_, rfl, p, C, dx, _, _, rfl, hp, T.cl, T.nH, kf_heads _ _, a, _, rfl, ha, _, rfl, p, C, dx, _, _, rfl, hp, T.cl, T.nO, kf_over _ _, _, rfl, l.length, kk, o, ?_, h0, h8, h4, fun H1 q s1 fq ll => k H1 q s1 ll⟩
    simp
/-! #### fewest -/
theorem scKFewest : FnScope ["self", "k"] ["self"] (defScope mFewest) := ⟨rfl, rfl, rfl, by decide +kernel, rfl, by decide +kernel, by decide +kernel⟩
theorem leastK_le {n : Nat} {o : Bool} : leastK n o ≤ 3 := by
  unfold leastK
  split
  · split <;> omega
  · omega
theorem ok_kfewest {f C : Addr} {fd : FuncData} (F : Fun K "fewest" "KeyRing.fewest" mFewest f fd) (T : TK K C) (E1 : Env1 mg) (cT : Cst mg "TOO_MANY_KEYS" (-7)) (M1 : MDef P w K mg base C "has_too_many" 1 ["self"] (spMany K C)) (M2 : MDef P w K mg base C "good_ones" 5 ["self", "k"] (spGoodOnes K C)) (D1 : Def P w K mg base "fewest_shapes" 5 ["many", "over"] (spFewest K)) :
    FnOk P w K mg base CX0 6 f fd ["self"] (spM0 K C .fewest) := by
  refine F.ok scKFewest (fun vs H Q E h => ?_) (fun cdv A outer s H vs Q E hr h => ?_)
  · obtain ⟨p, o, l, rfl, _⟩ := h
    rfl
  · obtain ⟨p, o, l, rfl, ⟨dx, a, hp, ha⟩, h0, h9, k⟩ := h
    refine ⟨_, pss_cons (ps_if (pt_val (pe_mdef0 M1 T.cl hr (by decide) (pv 0))) (pss_one (ps_ret (pe_lst (pa_cons (pe_cst cT rfl) pa_nil)))) pss_nil)
      (pss_cons (ps_set (i := 1) scKFewest.nd rfl (Or.inl rfl) (pe_def D1 hr (Nat.le_refl _) rfl (pa_cons (pe_callB call_lenH (by rfl) E1.len PySem.boot_len (pa_cons (pe_fld (pv 0) rfl) pa_nil)) (pa_cons (pe_fld (pv 0) rfl) pa_nil))))
      (pss_one (ps_ret (pe_op op_cat (pe_lst (pa_cons (pv 1) pa_nil)) (pe_ix ix_lst (pe_mdef M2 T.cl hr (Nat.le_refl _) (pv 0) (pa_cons (pv 1) pa_nil)) pe_int (fun _ _ => rfl)))))), ?_⟩
    refine ⟨_, rfl, p, dx, _, rfl, hp, rfl, p, o, l, rfl, ⟨dx, a, hp, ha⟩, _, rfl, ?_⟩
    by_cases e : 8 < l.length
    · rw [decide_eq_true e]
      refine iteT ⟨(by show 1 ≤ sizeLine; decide), fun q fq => k _ q (same_upd fq) ?_⟩
      show ZL _ q (if 8 < l.length then [-7] else _)
      rw [if_pos e]
      exact upd_z rfl
    · rw [decide_eq_false e]
      refine iteF ?_
      refine ⟨_, rfl, p, C, dx, _, _, rfl, hp, T.cl, T.nH, kf_heads _ _, a, _, rfl, ha, _, rfl, p, C, dx, _, _, rfl, hp, T.cl, T.nO, kf_over _ _, l.length, o, (by simp), h0, by omega, fun H1 s1 => ?_⟩
      refine ⟨_, rfl, (by show 1 ≤ sizeLine; decide), fun q fq => ?_⟩
      have s2 : Same H1 (upd H1 q (.lst [nV (leastK l.length o)])) := same_upd fq
      have s12 := s1.trans s2
      refine ⟨_, rfl, p, dx, _, rfl, s12 _ _ hp, rfl, _, rfl, p, o, l, leastK l.length o, rfl, ⟨dx, a, s12 _ _ hp, ha.mono s12⟩, h0, by omega, Nat.le_trans leastK_le (by decide), fun H3 q3 s3 ll => ?_⟩
      obtain ⟨g, gr, eg, ef⟩ := fewest_eq h0 (show l.length ≤ 8 by omega) o
      obtain ⟨us, hus, hpp⟩ := ll
      rw [eg] at hpp
      cases hpp with
      | cons p0 pr =>
        obtain ⟨b, rfl, il⟩ := p0
        refine ⟨q3, _, 0, _, rfl, rfl, hus, atI_nat (j := 0) rfl, ?_⟩
        have hg : g.length = l.length := (goodRings_mem (show g ∈ goodRings l.length o (leastK l.length o) by rw [eg]; exact List.mem_cons_self)).1
        refine ⟨q, b, _, _, rfl, rfl, s3 _ _ upd_same, il, size9 (by rw [List.length_map, hg]; show 1 + l.length ≤ 1000; omega), fun q4 f4 => ?_⟩
        refine k _ q4 (s12.trans (s3.trans (same_upd f4))) ?_
        show ZL _ q4 (if 8 < l.length then [-7] else match Uw69.fewest o l.length with | none => [] | some x => (x.1 : Int) :: Uw69.ints x.2)
        rw [if_neg e, ef]
        refine upd_z ?_
        show _ = V.int _ :: (Uw69.ints g).map V.int
        rw [← ints_map]
        rfl
/-! #### ways -/
theorem scKWays : FnScope ["self", "k", "good"] ["self", "k"] (defScope mWays) := ⟨rfl, rfl, rfl, by decide +kernel, rfl, by decide +kernel, by decide +kernel⟩
theorem mayShapes_not {k : Nat} (e : mayShapes k = false) : k < 1 ∨ 3 < k := by
  unfold mayShapes at e
  by_cases h1 : k < 1
  · exact .inl h1
  by_cases h2 : 3 < k
  · exact .inr h2
  rw [decide_eq_true (by omega), decide_eq_true (by omega)] at e
  cases e
theorem mayShapes_yes {k : Nat} (e : mayShapes k = true) : 1 ≤ k ∧ k ≤ 3 := by
  unfold mayShapes at e
  rw [Bool.and_eq_true, decide_eq_true_iff, decide_eq_true_iff] at e
  exact e
theorem good_small {n : Nat} {o : Bool} {k : Nat} (hn : n ≤ 8) (hk : k ≤ 4) : (goodRings n o k).length ≤ 65536 := by
  have h1 : (goodRings n o k).length ≤ (allRings k n).length := List.length_filter_le _ _
  rw [allRings_length] at h1
  have := pow_small hk hn
  omega
theorem ok_kways {f C : Addr} {fd : FuncData} (F : Fun K "ways" "KeyRing.ways" mWays f fd) (T : TK K C) (E1 : Env1 mg) (cT : Cst mg "TOO_MANY_KEYS" (-7)) (cR : Cst mg "REFUSED" (-1)) (M1 : MDef P w K mg base C "has_too_many" 1 ["self"] (spMany K C)) (M2 : MDef P w K mg base C "good_ones" 5 ["self", "k"] (spGoodOnes K C)) (D1 : Def P w K mg base "may_be_shapes" 1 ["k"] spMayShapes)
    (D2 : Def P w K mg base "count_of_forms" 3 ["rings", "many", "over"] (spCount K)) : FnOk P w K mg base CX0 6 f fd ["self", "k"] (spM1 K C .ways) := by
  refine F.ok scKWays (fun vs H Q E h => ?_) (fun cdv A outer s H vs Q E hr h => ?_)
  · obtain ⟨p, o, l, kk, rfl, _⟩ := h
    rfl
  · obtain ⟨p, o, l, kk, rfl, ⟨dx, a, hp, ha⟩, h0, h9, k⟩ := h
    refine ⟨_, pss_cons (ps_if (pt_val (pe_mdef0 M1 T.cl hr (by decide) (pv 0))) (pss_one (ps_ret (pe_lst (pa_cons (pe_cst cT rfl) pa_nil)))) pss_nil)
      (pss_cons (ps_if (pt_not (pt_val (pe_def D1 hr (by decide) rfl (pa_cons (pv 1) pa_nil)))) (pss_one (ps_ret (pe_lst (pa_cons (pe_cst cR rfl) pa_nil)))) pss_nil)
      (pss_cons (ps_set (i := 2) scKWays.nd rfl (Or.inl rfl) (pe_mdef M2 T.cl hr (Nat.le_refl _) (pv 0) (pa_cons (pv 1) pa_nil)))
      (pss_one (ps_ret (pe_lst (pa_cons (pe_callB call_lenH (by rfl) E1.len PySem.boot_len (pa_cons (pv 2) pa_nil)) (pa_cons (pe_def D2 hr (by decide) rfl (pa_cons (pv 2) (pa_cons (pe_callB call_lenH (by rfl) E1.len PySem.boot_len (pa_cons (pe_fld (pv 0) rfl) pa_nil)) (pa_cons (pe_fld (pv 0) rfl) pa_nil)))) pa_nil))))))), ?_⟩
    refine ⟨_, rfl, p, dx, _, rfl, hp, rfl, p, o, l, rfl, ⟨dx, a, hp, ha⟩, _, rfl, ?_⟩
    by_cases e : 8 < l.length
    · rw [decide_eq_true e]
      refine iteT ⟨(by show 1 ≤ sizeLine; decide), fun q fq => k _ q (same_upd fq) ?_⟩
      show ZL _ q (if 8 < l.length then [-7] else _)
      rw [if_pos e]
      exact upd_z rfl
    · rw [decide_eq_false e]
      refine iteF ?_
      refine ⟨_, rfl, kk, rfl, _, rfl, ?_⟩
      cases ek : mayShapes kk with
      | false =>
        refine iteT ⟨(by show 1 ≤ sizeLine; decide), fun q fq => k _ q (same_upd fq) ?_⟩
        show ZL _ q (if 8 < l.length then [-7] else if kk < 1 ∨ 3 < kk then [-1] else _)
        rw [if_neg e, if_pos (mayShapes_not ek)]
        exact upd_z rfl
      | true =>
        obtain ⟨k1, k3⟩ := mayShapes_yes ek
        refine iteF ?_
        refine ⟨_, rfl, p, dx, _, rfl, hp, rfl, _, rfl, p, o, l, kk, rfl, ⟨dx, a, hp, ha⟩, h0, by omega, by omega, fun H1 q s1 ll => ?_⟩
        obtain ⟨us, hus, hpp⟩ := id ll
        have hul := paired_length hpp
        refine ⟨_, rfl, q, us, rfl, hus, _, rfl, _, rfl, p, C, dx, _, _, rfl, s1 _ _ hp, T.cl, T.nH, kf_heads _ _, a, _, rfl, ha.mono s1, _, rfl, p, C, dx, _, _, rfl, s1 _ _ hp, T.cl, T.nO, kf_over _ _, q, _, l.length, o, (by simp), ll, h0, by omega, good_small (by omega) (by omega), fun m hm => (goodRings_mem hm).1, fun H2 s2 => ?_⟩
        refine ⟨(by show 2 ≤ sizeLine; decide), fun q2 f2 => k _ q2 (s1.trans (s2.trans (same_upd f2))) ?_⟩
        show ZL _ q2 (if 8 < l.length then [-7] else if kk < 1 ∨ 3 < kk then [-1] else Uw69.ints [(Uw69.good o l.length kk).length, Uw69.looks o (Uw69.good o l.length kk)])
        rw [if_neg e, if_neg (by omega), ← goodRings_eq h0, ← countForms_eq h0 o _ (fun m hm => (goodRings_mem hm).1)]
        refine upd_z ?_
        rw [hul]
        rfl
/-! #### change -/
noncomputable def spKChange (K : PySem.W.Frag) (C Pt : Addr) : Sp := fun vs H Q _ => ∃ (p : Addr) (o : Bool) (l : List Nat) (k : Nat), vs = [.ref p, nV k] ∧ KR K C H p o l ∧ 0 < l.length ∧ l.length ≤ 9 ∧ TabN Pt H ∧ ∀ H' q, SameT Pt H H' → TabN Pt H' → ZL H' q (Uw69.step (Rg o l) (.change k)).2 → Q (.ref q) H'
theorem scKChange : FnScope ["self", "k", "good", "nearest"] ["self", "k"] (defScope mChange) := ⟨rfl, rfl, rfl, by decide +kernel, rfl, by decide +kernel, by decide +kernel⟩
theorem ok_kchange {f C Pt : Addr} {fd : FuncData} (F : Fun K "change" "KeyRing.change" mChange f fd) (T : TK K C) (E1 : Env1 mg) (cT : Cst mg "TOO_MANY_KEYS" (-7)) (cR : Cst mg "REFUSED" (-1)) (cN : Cst mg "NONE_SUCH" (-6)) (M1 : MDef P w K mg base C "has_too_many" 1 ["self"] (spMany K C)) (M2 : MDef P w K mg base C "good_ones" 5 ["self", "k"] (spGoodOnes K C)) (D1 : Def P w K mg base "may_be_shapes" 1 ["k"] spMayShapes)
    (D2 : Def P w K mg base "nearest_ring" 5 ["heads", "rings"] (spNearest K Pt)) (D3 : Def P w K mg base "differences" 1 ["heads", "others"] (spDiffs K)) : FnOk P w K mg base CX0 6 f fd ["self", "k"] (spKChange K C Pt) := by
  refine F.ok scKChange (fun vs H Q E h => ?_) (fun cdv A outer s H vs Q E hr h => ?_)
  · obtain ⟨p, o, l, kk, rfl, _⟩ := h
    rfl
  · obtain ⟨p, o, l, kk, rfl, ⟨dx, a, hp, ha⟩, h0, h9, t, k⟩ := h
    refine ⟨_, pss_cons (ps_if (pt_val (pe_mdef0 M1 T.cl hr (by decide) (pv 0))) (pss_one (ps_ret (pe_lst (pa_cons (pe_cst cT rfl) pa_nil)))) pss_nil)
      (pss_cons (ps_if (pt_not (pt_val (pe_def D1 hr (by decide) rfl (pa_cons (pv 1) pa_nil)))) (pss_one (ps_ret (pe_lst (pa_cons (pe_cst cR rfl) pa_nil)))) pss_nil)
      (pss_cons (ps_set (i := 2) scKChange.nd rfl (Or.inl rfl) (pe_mdef M2 T.cl hr (Nat.le_refl _) (pv 0) (pa_cons (pv 1) pa_nil)))
      (pss_cons (ps_if (pt_cmpR op_eq (pe_callB call_lenH (by rfl) E1.len PySem.boot_len (pa_cons (pv 2) pa_nil)) pe_int (nomark _)) (pss_one (ps_ret (pe_lst (pa_cons (pe_cst cN rfl) pa_nil)))) pss_nil)
      (pss_cons (ps_set (i := 3) scKChange.nd rfl (Or.inl rfl) (pe_def D2 hr (Nat.le_refl _) rfl (pa_cons (pe_fld (pv 0) rfl) (pa_cons (pv 2) pa_nil))))
      (pss_one (ps_ret (pe_op op_cat (pe_lst (pa_cons (pe_def D3 hr (by decide) rfl (pa_cons (pe_fld (pv 0) rfl) (pa_cons (pv 3) pa_nil))) pa_nil)) (pv 3)))))))), ?_⟩
    refine ⟨_, rfl, p, dx, _, rfl, hp, rfl, p, o, l, rfl, ⟨dx, a, hp, ha⟩, _, rfl, ?_⟩
    by_cases e : 8 < l.length
    · rw [decide_eq_true e]
      refine iteT ⟨(by show 1 ≤ sizeLine; decide), fun q fq => k _ q (SameT.of (same_upd fq)) (t.mono (same_upd fq)) ?_⟩
      show ZL _ q (if 8 < l.length then [-7] else _)
      rw [if_pos e]
      exact upd_z rfl
    · rw [decide_eq_false e]
      refine iteF ?_
      refine ⟨_, rfl, kk, rfl, _, rfl, ?_⟩
      cases ek : mayShapes kk with
      | false =>
        refine iteT ⟨(by show 1 ≤ sizeLine; decide), fun q fq => k _ q (SameT.of (same_upd fq)) (t.mono (same_upd fq)) ?_⟩
        show ZL _ q (if 8 < l.length then [-7] else if kk < 1 ∨ 3 < kk then [-1] else _)
        rw [if_neg e, if_pos (mayShapes_not ek)]
        exact upd_z rfl
      | true =>
        obtain ⟨k1, k3⟩ := mayShapes_yes ek
        refine iteF ?_
        refine ⟨_, rfl, p, dx, _, rfl, hp, rfl, _, rfl, p, o, l, kk, rfl, ⟨dx, a, hp, ha⟩, h0, by omega, by omega, fun H1 q s1 ll => ?_⟩
        obtain ⟨us, hus, hpp⟩ := id ll
        have hul := paired_length hpp
        have ech := change_eq (r := Rg o l) kk h0
        have est : (Uw69.step (Rg o l) (.change kk)).2 = match Uw69.change (Rg o l) kk with | none => [-6] | some x => (x.1 : Int) :: Uw69.ints x.2 := by
          show (if 8 < l.length then [-7] else if kk < 1 ∨ 3 < kk then [-1] else _) = _
          rw [if_neg e, if_neg (by omega)]
          rfl
        refine ⟨_, rfl, q, us, rfl, hus, rfl, _, rfl, ?_⟩
        rw [dec_len0, hul]
        have ech : Uw69.change (Rg o l) kk = match goodRings l.length o kk with | [] => none | g :: gs => some (diffs l (bestBy (diffs l) (g :: gs)), bestBy (diffs l) (g :: gs)) := ech
        cases eg : goodRings l.length o kk with
        | nil =>
          rw [eg] at ech
          refine iteT ⟨(by show 1 ≤ sizeLine; decide), fun q2 f2 => k _ q2 (SameT.of (s1.trans (same_upd f2))) (t.mono (s1.trans (same_upd f2))) ?_⟩
          rw [est, ech]
          exact upd_z rfl
        | cons g gs =>
          rw [eg] at ech ll
          refine iteF ?_
          have mem : ∀ m ∈ g :: gs, m.length = l.length := fun m hm => (goodRings_mem (o := o) (k := kk) (by rw [eg]; exact hm)).1
          refine ⟨_, rfl, p, C, dx, _, _, rfl, s1 _ _ hp, T.cl, T.nH, kf_heads _ _, _, rfl, a, q, l, g :: gs, rfl, ha.mono s1, ll, List.cons_ne_nil _ _, h9, mem, t.mono s1, fun H2 b sT t2 il => ?_⟩
          have t1 := t.mono s1
          have np : p ≠ Pt := by
            obtain ⟨ps, ep⟩ := t1.tbl
            exact ne_of (s1 _ _ hp) ep (by intro z; cases z)
          have hp2 : H2 p = some (.ins C dx (kf (oV o) a)) := sT _ _ np (s1 _ _ hp)
          have ha2 : IL K H2 a l := (ha.mono s1).monoT t1 sT
          have hbl : (bestBy (diffs l) (g :: gs)).length = l.length := mem _ bestBy_mem
          refine ⟨_, rfl, p, C, dx, _, _, rfl, hp2, T.cl, T.nH, kf_heads _ _, _, rfl, a, b, l, _, rfl, ha2, il, h9, hbl, fun H3 s3 => ?_⟩
          refine ⟨(by show 1 ≤ sizeLine; decide), fun q4 f4 => ?_⟩
          have s4 : Same H3 (upd H3 q4 (.lst [nV (diffs l (bestBy (diffs l) (g :: gs)))])) := same_upd f4
          refine ⟨_, rfl, q4, b, _, _, rfl, rfl, upd_same, (il.mono s3).mono s4, size9 (by rw [List.length_map, hbl]; show 1 + l.length ≤ 1000; omega), fun q5 f5 => ?_⟩
          have s5 := (s3.trans s4).trans (same_upd (o := .lst ([nV (diffs l (bestBy (diffs l) (g :: gs)))] ++ (bestBy (diffs l) (g :: gs)).map nV)) f5)
          refine k _ q5 ((SameT.of s1).trans (sT.trans (SameT.of s5))) (t2.mono s5) ?_
          rw [est, ech]
          refine upd_z ?_
          show _ = V.int _ :: (Uw69.ints _).map V.int
          rw [← ints_map]
          rfl
end
end Dk
end
section
set_option Elab.async false
set_option linter.all false
set_option maxRecDepth 100000
set_option maxHeartbeats 2000000
namespace Dk
open PySem PySem.Spec PyProof.Rows L2
section
variable {P : Program} {w : World} {K : PySem.W.Frag} {mg : Str → Option Value} {base : Heap}
/-! #### ring -/
noncomputable def spKRing (K : PySem.W.Frag) (C : Addr) : Sp := fun vs H Q _ => ∃ (p : Addr) (o : Bool) (l : List Nat) (x : Nat) (b : Addr) (m : List Nat) (av : Addr), vs = [.ref p, nV x, .ref b] ∧ KR K C (del H av) p o l ∧ IL K (del H av) b m ∧ m.length ≤ 2000 ∧
  ∀ H' q, SameT p H H' → KR K C (del H' av) p (Uw69.step (Rg o l) (.ring x m)).1.over (Uw69.step (Rg o l) (.ring x m)).1.heads → ZL H' q (Uw69.step (Rg o l) (.ring x m)).2 → Q (.ref q) H'
theorem scKRing : FnScope ["self", "over", "heads"] ["self", "over", "heads"] (defScope mRing) := ⟨rfl, rfl, rfl, by decide +kernel, rfl, by decide +kernel, by decide +kernel⟩
theorem mayRing_not {x : Nat} {m : List Nat} (e : mayRing x m = false) : 1 < x ∨ m.length < 1 ∨ 9 < m.length ∨ Uw69.isHeads m = false := by
  unfold mayRing at e
  by_cases h0 : 1 < x
  · exact .inl h0
  by_cases h1 : m.length < 1
  · exact .inr (.inl h1)
  by_cases h2 : 9 < m.length
  · exact .inr (.inr (.inl h2))
  refine .inr (.inr (.inr ?_))
  have hx : (x == 0 || x == 1) = true := by
    rw [Bool.or_eq_true, beq_iff_eq, beq_iff_eq]
    omega
  rw [hx, decide_eq_true (by omega), decide_eq_true (by omega)] at e
  simpa using e
theorem mayRing_yes {x : Nat} {m : List Nat} (e : mayRing x m = true) : (x = 0 ∨ x = 1) ∧ 1 ≤ m.length ∧ m.length ≤ 9 ∧ Uw69.isHeads m = true := by
  unfold mayRing at e
  rw [Bool.and_eq_true, Bool.and_eq_true, Bool.and_eq_true, Bool.or_eq_true, beq_iff_eq, beq_iff_eq, decide_eq_true_iff, decide_eq_true_iff] at e
  exact ⟨e.1, e.2.1.1, e.2.1.2, e.2.2⟩
theorem ok_kring {f C : Addr} {fd : FuncData} (F : Fun K "ring" "KeyRing.ring" mRing f fd) (T : TK K C) (E1 : Env1 mg) (cR : Cst mg "REFUSED" (-1)) (D1 : Def P w K mg base "may_be_ring" 2 ["over", "heads"] (spMayRing K)) (D2 : Def P w K mg base "told_places" 4 ["heads", "over"] (spTold K)) :
    FnOk P w K mg base CX0 5 f fd ["self", "over", "heads"] (spKRing K C) := by
  refine F.ok scKRing (fun vs H Q E h => ?_) (fun cdv A outer s H vs Q E hr h => ?_)
  · obtain ⟨p, o, l, x, b, m, av, rfl, _⟩ := h
    rfl
  · obtain ⟨p, o, l, x, b, m, av, rfl, hkr, hbd, hm, k⟩ := h
    have npv : p ≠ av := by
      obtain ⟨_, _, z, _⟩ := hkr
      exact (del_some z).1
    have nbv : b ≠ av := (del_some hbd).1
    obtain ⟨dx, a, hp, ha⟩ := hkr.mono same_del
    have hb : IL K H b m := hbd.mono same_del
    refine ⟨_, pss_cons (ps_if (pt_not (pt_val (pe_def D1 hr (by decide) rfl (pa_cons (pv 1) (pa_cons (pv 2) pa_nil))))) (pss_one (ps_ret (pe_lst (pa_cons (pe_cst cR rfl) pa_nil)))) pss_nil)
      (pss_cons (ps_fld (pv 0) (pv 1) rfl) (pss_cons (ps_fld (pv 0) (pv 2) rfl)
      (pss_one (ps_ret (pe_lst (pa_cons (pe_callB call_lenH (by rfl) E1.len PySem.boot_len (pa_cons (pe_def D2 hr (Nat.le_refl _) rfl (pa_cons (pv 2) (pa_cons (pv 1) pa_nil))) pa_nil)) pa_nil)))))), ?_⟩
    refine ⟨_, rfl, _, rfl, b, x, m, rfl, hb, hm, fun H1 s1 => ⟨_, rfl, ?_⟩⟩
    have est : Uw69.step (Rg o l) (.ring x m) = if 1 < x ∨ m.length < 1 ∨ 9 < m.length ∨ Uw69.isHeads m = false then (Rg o l, [-1]) else (Rg (x == 1) m, [((Uw69.told (Rg (x == 1) m)).length : Int)]) := rfl
    cases e : mayRing x m with
    | false =>
      have hn := mayRing_not e
      rw [est, if_pos hn] at k
      refine iteT ⟨(by show 1 ≤ sizeLine; decide), fun q fq => k _ q (SameT.of (s1.trans (same_upd fq))) ?_ (upd_z rfl)⟩
      exact hkr.mono (same_del2 (s1.trans (same_upd fq)))
    | true =>
      obtain ⟨e0, e1, e2, e3⟩ := mayRing_yes e
      have nn : ¬ (1 < x ∨ m.length < 1 ∨ 9 < m.length ∨ Uw69.isHeads m = false) := by
        rw [e3]
        rintro (z | z | z | z)
        · omega
        · omega
        · omega
        · cases z
      rw [est, if_neg nn] at k
      have ox : nV x = oV (x == 1) := by
        rcases e0 with rfl | rfl <;> rfl
      refine iteF ?_
      have hp1 := s1 _ _ hp
      have hb1 := hb.mono s1
      refine ⟨_, rfl, _, rfl, p, C, dx, _, rfl, hp1, T.cl, T.nO, (by show 2 < 1000; decide), ?_⟩
      refine ⟨_, rfl, _, rfl, p, C, dx, _, rfl, upd_same, T.cl, T.nH, (by show 2 < 1000; decide), ?_⟩
      have nbp : b ≠ p := ne_of hb1 hp1 (by intro z; cases z)
      generalize hH2 : upd (upd H1 p (.ins C dx (putF "over" (nV x) (kf (oV o) a)))) p (.ins C dx (putF "heads" (.ref b) (putF "over" (nV x) (kf (oV o) a)))) = H2
      have hp2 : H2 p = some (.ins C dx (kf (oV (x == 1)) b)) := by
        rw [← hH2, upd_same, ox]
        rfl
      have hb2 : IL K H2 b m := by
        show H2 b = _
        rw [← hH2, upd_ne nbp, upd_ne nbp]
        exact hb1
      have s2 : SameT p H1 H2 := fun c o n e => by
        rw [← hH2, upd_ne n, upd_ne n]
        exact e
      refine ⟨_, rfl, _, rfl, b, m, (x == 1), (by rw [ox]; rfl), hb2, e1, e2, fun H3 q s3 fq il => ?_⟩
      refine ⟨q, _, rfl, il, (by show 1 ≤ sizeLine; decide), fun q2 f2 => ?_⟩
      have s4 := s3.trans (same_upd (o := .lst [.int (((toldP m (x == 1)).map nV).length : Int)]) f2)
      refine k _ q2 ((SameT.of s1).trans (s2.trans (SameT.of s4))) ⟨dx, b, (del_ne npv).trans (s4 _ _ hp2), (hb2.mono s4).del nbv⟩ (upd_z ?_)
      rw [List.length_map, toldP_eq]
      rfl
/-! ### CallReader -/
noncomputable abbrev cCR : Stmt := top 57
noncomputable abbrev rInit : Stmt := inClass cCR 0
noncomputable abbrev rMore : Stmt := inClass cCR 1
noncomputable abbrev rNum : Stmt := inClass cCR 2
noncomputable abbrev rRow : Stmt := inClass cCR 3
noncomputable def cf (c : Addr) (i : Nat) : List (Str × V) := [("calls", .ref c), ("position", nV i)]
theorem cf_calls (c : Addr) (i : Nat) : (cf c i).lookup ("calls" : Str) = some (.ref c) := rfl
theorem cf_pos (c : Addr) (i : Nat) : (cf c i).lookup ("position" : Str) = some (nV i) := rfl
structure TC (K : PySem.W.Frag) (C : Addr) : Prop where
  cl : Cls K C
  nC : NoAttr K C "calls"
  nP : NoAttr K C "position"
/-- a CallReader at p: its list, its position -/
noncomputable def CRd (C : Addr) (H : Hp) (p ca : Addr) (i : Nat) : Prop := ∃ dx, H p = some (.ins C dx (cf ca i))
theorem SqL.monoP {H H' : Hp} {ca p C dx : Addr} {fs : List (Str × V)} {xs : List V} (h : SqL K H ca xs) (hp : H p = some (.ins C dx fs)) (s : SameT p H H') : SqL K H' ca xs := by
  rcases h with (h | ⟨o, h⟩) | h
  · exact .inl (.inl (s _ _ (ne_of h hp (by intro z; cases z)) h))
  · exact .inl (.inr ⟨o, s _ _ (ne_of h hp (by intro z; cases z)) h⟩)
  · exact .inr h
noncomputable def spCInit (C : Addr) : Sp := fun vs H Q _ => ∃ (p dx ca : Addr), vs = [.ref p, .ref ca] ∧ H p = some (.ins C dx []) ∧ ∀ H', CRd C H' p ca 0 → SameT p H H' → Q .non H'
theorem scCInit : FnScope ["self", "calls"] ["self", "calls"] (defScope rInit) := ⟨rfl, rfl, rfl, by decide +kernel, rfl, by decide +kernel, by decide +kernel⟩
theorem ok_cinit {f C : Addr} {fd : FuncData} (F : Fun K "__init__" "CallReader.__init__" rInit f fd) (T : TC K C) : FnOk P w K mg base CX0 1 f fd ["self", "calls"] (spCInit C) := by
  refine F.ok scCInit (fun vs H Q E h => ?_) (fun cdv A outer s H vs Q E hr h => ?_)
  · obtain ⟨p, dx, ca, rfl, _⟩ := h
    rfl
  · obtain ⟨p, dx, ca, rfl, hp, k⟩ := h
    refine ⟨_, pss_cons (ps_fld (pv 0) (pv 1) rfl) (pss_one (ps_fld (pv 0) pe_int rfl)), ?_⟩
    refine ⟨_, rfl, _, rfl, p, C, dx, [], rfl, hp, T.cl, T.nC, (by show 0 < 1000; decide), ?_⟩
    refine ⟨_, rfl, p, C, dx, _, rfl, upd_same, T.cl, T.nP, (by show 1 < 1000; decide), ?_⟩
    refine k _ ⟨dx, upd_same⟩ fun b o hb e => ?_
    rw [upd_ne hb, upd_ne hb]
    exact e
noncomputable def spMore (K : PySem.W.Frag) (C : Addr) : Sp := fun vs H Q _ => ∃ (p ca : Addr) (i : Nat) (ns : List Int), vs = [.ref p] ∧ CRd C H p ca i ∧ SqL K H ca (ns.map V.int) ∧ Q (.bl (decide (i < ns.length))) H
theorem scMore : FnScope ["self"] ["self"] (defScope rMore) := ⟨rfl, rfl, rfl, by decide +kernel, rfl, by decide +kernel, by decide +kernel⟩
theorem ok_more {f C : Addr} {fd : FuncData} (F : Fun K "has_more" "CallReader.has_more" rMore f fd) (T : TC K C) (E1 : Env1 mg) : FnOk P w K mg base CX0 1 f fd ["self"] (spMore K C) := by
  refine F.ok scMore (fun vs H Q E h => ?_) (fun cdv A outer s H vs Q E hr h => ?_)
  · obtain ⟨p, ca, i, ns, rfl, _⟩ := h
    rfl
  · obtain ⟨p, ca, i, ns, rfl, ⟨dx, hp⟩, hs, k⟩ := h
    refine ⟨_, pss_one (ps_ret (pe_cmpR op_lt (pe_fld (pv 0) rfl) (pe_callB call_len_seq (by rfl) E1.len PySem.boot_len (pa_cons (pe_fld (pv 0) rfl) pa_nil)) (nomark _))), ?_⟩
    refine ⟨_, rfl, p, C, dx, _, _, rfl, hp, T.cl, T.nP, cf_pos _ _, _, rfl, p, C, dx, _, _, rfl, hp, T.cl, T.nC, cf_calls _ _, ca, _, rfl, .inl hs, _, _, rfl, rfl, ?_⟩
    rw [List.length_map]
    have ed : decide ((i : Int) < (ns.length : Int)) = decide (i < ns.length) := by rw [Bool.eq_iff_iff, decide_eq_true_iff, decide_eq_true_iff]; omega
    show Q (V.bl (decide ((i : Int) < (ns.length : Int)))) H
    rw [ed]
    exact k
noncomputable def spNum (K : PySem.W.Frag) (C : Addr) : Sp := fun vs H Q _ => ∃ (p ca : Addr) (i : Nat) (ns : List Int) (z : Int), vs = [.ref p] ∧ CRd C H p ca i ∧ SqL K H ca (ns.map V.int) ∧ ns[i]? = some z ∧ ∀ H', CRd C H' p ca (i + 1) → SameT p H H' → Q (.int z) H'
theorem scNum : FnScope ["self", "number"] ["self"] (defScope rNum) := ⟨rfl, rfl, rfl, by decide +kernel, rfl, by decide +kernel, by decide +kernel⟩
theorem ok_num {f C : Addr} {fd : FuncData} (F : Fun K "take_number" "CallReader.take_number" rNum f fd) (T : TC K C) : FnOk P w K mg base CX0 1 f fd ["self"] (spNum K C) := by
  refine F.ok scNum (fun vs H Q E h => ?_) (fun cdv A outer s H vs Q E hr h => ?_)
  · obtain ⟨p, ca, i, ns, z, rfl, _⟩ := h
    rfl
  · obtain ⟨p, ca, i, ns, z, rfl, ⟨dx, hp⟩, hs, hz, k⟩ := h
    refine ⟨_, pss_cons (ps_set (i := 1) scNum.nd rfl (Or.inl rfl) (pe_ix ix_list (pe_fld (pv 0) rfl) (pe_fld (pv 0) rfl) (fun _ _ => rfl))) (pss_cons (ps_fldaug (pv 0) pe_int in_add) (pss_one (ps_ret (pv 1)))), ?_⟩
    refine ⟨_, rfl, p, C, dx, _, _, rfl, hp, T.cl, T.nC, cf_calls _ _, _, rfl, p, C, dx, _, _, rfl, hp, T.cl, T.nP, cf_pos _ _, ca, _, _, .int z, rfl, rfl, hs, atI_nat (by rw [List.getElem?_map, hz]; rfl), ?_⟩
    refine ⟨_, rfl, p, C, dx, _, _, rfl, hp, T.cl, T.nP, cf_pos _ _, _, _, rfl, rfl, dx, _, hp, (by show 2 < 1000; decide), ?_⟩
    refine ⟨_, rfl, k _ ⟨dx, upd_same⟩ fun b o hb e => ?_⟩
    rw [upd_ne hb]
    exact e
noncomputable def spRow (K : PySem.W.Frag) (C : Addr) : Sp := fun vs H Q _ => ∃ (p ca : Addr) (i : Nat) (ns : List Int) (z : Int), vs = [.ref p] ∧ CRd C H p ca i ∧ SqL K H ca (ns.map V.int) ∧ ns[i]? = some z ∧ 0 ≤ z ∧ i + 1 + z.toNat ≤ ns.length ∧ (∀ x ∈ ns, 0 ≤ x) ∧
  ∀ H' q, CRd C H' p ca (i + 1 + z.toNat) → SameT p H H' → H q = none → IL K H' q (rowAt ns (i + 1) z) → Q (.ref q) H'
theorem scRow : FnScope ["self", "many", "start"] ["self"] (defScope rRow) := ⟨rfl, rfl, rfl, by decide +kernel, rfl, by decide +kernel, by decide +kernel⟩
theorem cut_row {ns : List Int} {i : Nat} {z : Int} (h0 : 0 ≤ z) (hl : i + z.toNat ≤ ns.length) (hp : ∀ x ∈ ns, 0 ≤ x) : cutV (ns.map V.int) (some (i : Int)) (some ((i : Int) + z)) = (rowAt ns i z).map nV := by
  unfold cutV rowAt
  rw [show (i : Int) + z = ((i + z.toNat : Nat) : Int) by omega, HT.sIx_nat, HT.sIx_nat, List.length_map, Nat.min_eq_left (by omega), Nat.min_eq_left (by omega), Nat.add_sub_cancel_left, ← List.map_drop, ← List.map_take, List.map_map]
  refine List.map_congr_left fun x hx => ?_
  have := hp x (List.mem_of_mem_drop (List.mem_of_mem_take hx))
  show V.int x = V.int (x.toNat : Int)
  congr 1
  omega
theorem ok_row {f C : Addr} {fd : FuncData} (F : Fun K "take_row" "CallReader.take_row" rRow f fd) (T : TC K C) (M1 : MDef P w K mg base C "take_number" 1 ["self"] (spNum K C)) : FnOk P w K mg base CX0 2 f fd ["self"] (spRow K C) := by
  refine F.ok scRow (fun vs H Q E h => ?_) (fun cdv A outer s H vs Q E hr h => ?_)
  · obtain ⟨p, ca, i, ns, z, rfl, _⟩ := h
    rfl
  · obtain ⟨p, ca, i, ns, z, rfl, ⟨dx, hp⟩, hs, hz, h0, hl, hpos, k⟩ := h
    refine ⟨_, pss_cons (ps_set (i := 1) scRow.nd rfl (Or.inl rfl) (pe_mdef0 M1 T.cl hr (Nat.le_refl _) (pv 0)))
      (pss_cons (ps_set (i := 2) scRow.nd rfl (Or.inl rfl) (pe_fld (pv 0) rfl))
      (pss_cons (ps_fld (pv 0) (pe_op op_add (pv 2) (pv 1)) rfl)
      (pss_one (ps_ret (pe_slice sl_list (pe_fld (pv 0) rfl) (po_some (pv 2)) (po_some (pe_fld (pv 0) rfl))))))), ?_⟩
    refine ⟨_, rfl, p, dx, _, rfl, hp, rfl, p, ca, i, ns, z, rfl, ⟨dx, hp⟩, hs, hz, fun H1 ⟨dx1, hp1⟩ s1 => ?_⟩
    have hs1 := SqL.monoP hs hp s1
    refine ⟨_, rfl, p, C, dx1, _, _, rfl, hp1, T.cl, T.nP, cf_pos _ _, ?_⟩
    refine ⟨_, rfl, _, rfl, _, _, rfl, rfl, _, rfl, p, C, dx1, _, rfl, hp1, T.cl, T.nP, (by show 2 < 1000; decide), ?_⟩
    generalize hH2 : upd H1 p (.ins C dx1 (putF "position" (.int (((i + 1 : Nat) : Int) + z)) (cf ca (i + 1)))) = H2
    have ez : V.int (((i + 1 : Nat) : Int) + z) = nV (i + 1 + z.toNat) := by
      show V.int _ = V.int _
      congr 1
      omega
    have hp2 : H2 p = some (.ins C dx1 (cf ca (i + 1 + z.toNat))) := by
      rw [← hH2, upd_same, ez]
      rfl
    have s2 : SameT p H1 H2 := fun c o n e => by
      rw [← hH2, upd_ne n]
      exact e
    have hs2 := SqL.monoP hs1 hp1 s2
    refine ⟨_, rfl, p, C, dx1, _, _, rfl, hp2, T.cl, T.nC, cf_calls _ _, _, rfl, _, rfl, _, rfl, p, C, dx1, _, _, rfl, hp2, T.cl, T.nP, cf_pos _ _, _, rfl, ca, _, rfl, hs2, fun q fq => ?_⟩
    have fresh : H q = none := by
      cases e : H q with
      | none => rfl
      | some ob =>
        have nq : q ≠ p := (ne_of_none hp2 fq).symm
        rw [s2 _ _ nq (s1 _ _ nq e)] at fq
        cases fq
    refine k _ q ⟨dx1, ?_⟩ (s1.trans (s2.trans (SameT.of (same_upd fq)))) fresh ?_
    · rw [upd_ne (ne_of_none hp2 fq)]
      exact hp2
    · show upd _ _ _ _ = _
      rw [upd_same, ← cut_row (i := i + 1) h0 (by omega) hpos]
      congr 3
      congr 1
      omega
end
end Dk
end
section
set_option Elab.async false
set_option linter.all false
set_option maxRecDepth 100000
set_option maxHeartbeats 4000000
namespace Dk
open PySem PySem.Spec PyProof.Rows L2
noncomputable abbrev sNext : Stmt := top 58
noncomputable abbrev sAns : Stmt := top 59
/-- all but the ring, the reader, the table is as it was -/
noncomputable def SameE (kr rd Pt : Addr) (H H' : Hp) : Prop := ∀ b o, b ≠ kr → b ≠ rd → b ≠ Pt → H b = some o → H' b = some o
theorem SameE.trans {kr rd Pt : Addr} {H H1 H2 : Hp} (a : SameE kr rd Pt H H1) (b : SameE kr rd Pt H1 H2) : SameE kr rd Pt H H2 := fun c o n1 n2 n3 h => b c o n1 n2 n3 (a c o n1 n2 n3 h)
theorem SameE.of {kr rd Pt : Addr} {H H' : Hp} (s : Same H H') : SameE kr rd Pt H H' := fun b o _ _ _ e => s b o e
theorem SameE.ofR {kr rd Pt : Addr} {H H' : Hp} (s : SameT rd H H') : SameE kr rd Pt H H' := fun b o _ n _ e => s b o n e
theorem SameE.ofK {kr rd Pt : Addr} {H H' : Hp} (s : SameT kr H H') : SameE kr rd Pt H H' := fun b o n _ _ e => s b o n e
theorem SameE.ofP {kr rd Pt : Addr} {H H' : Hp} (s : SameT Pt H H') : SameE kr rd Pt H H' := fun b o _ _ n e => s b o n e
section
variable {P : Program} {w : World} {K : PySem.W.Frag} {mg : Str → Option Value} {base : Heap}
/-- the three that are changed, and the list -/
structure Sta (K : PySem.W.Frag) (CK CC Pt : Addr) (H : Hp) (kr rd ca : Addr) (o : Bool) (l : List Nat) (i : Nat) (ns : List Int) : Prop where
  key : KR K CK H kr o l
  rdr : CRd CC H rd ca i
  tab : TabN Pt H
  sq : SqL K H ca (ns.map V.int)
  ne : kr ≠ rd
theorem Sta.mono {CK CC Pt : Addr} {H H' : Hp} {kr rd ca : Addr} {o : Bool} {l : List Nat} {i : Nat} {ns : List Int} (h : Sta K CK CC Pt H kr rd ca o l i ns) (s : Same H H') : Sta K CK CC Pt H' kr rd ca o l i ns := by
  obtain ⟨h1, ⟨dx, h2⟩, h3, h4, h5⟩ := h
  exact ⟨h1.mono s, ⟨dx, s _ _ h2⟩, h3.mono s, s.seq h4, h5⟩
theorem TabN.monoX {Pt p C dx : Addr} {fs : List (Str × V)} {H H' : Hp} (t : TabN Pt H) (hp : H p = some (.ins C dx fs)) (s : SameT p H H') : TabN Pt H' := by
  rcases t with h | ⟨c, h, h2⟩
  · exact .inl (s _ _ (ne_of h hp (by intro z; cases z)) h)
  · exact .inr ⟨c, s _ _ (ne_of h hp (by intro z; cases z)) h, s _ _ (ne_of h2 hp (by intro z; cases z)) h2⟩
/-- the reader has moved on -/
theorem Sta.read {CK CC Pt : Addr} {H H' : Hp} {kr rd ca : Addr} {o : Bool} {l : List Nat} {i j : Nat} {ns : List Int} (h : Sta K CK CC Pt H kr rd ca o l i ns) (s : SameT rd H H') (r : CRd CC H' rd ca j) : Sta K CK CC Pt H' kr rd ca o l j ns := by
  obtain ⟨⟨dk, a, h1, ha⟩, ⟨dx, h2⟩, h3, h4, h5⟩ := h
  exact ⟨⟨dk, a, s _ _ h5 h1, s _ _ (ne_of ha h2 (by intro z; cases z)) ha⟩, r, h3.monoX h2 s, SqL.monoP h4 h2 s, h5⟩
/-- the ring is another -/
theorem Sta.ring {CK CC Pt : Addr} {H H' : Hp} {kr rd ca : Addr} {o o' : Bool} {l l' : List Nat} {i : Nat} {ns : List Int} (h : Sta K CK CC Pt H kr rd ca o l i ns) (s : SameT kr H H') (r : KR K CK H' kr o' l') : Sta K CK CC Pt H' kr rd ca o' l' i ns := by
  obtain ⟨⟨dk, a, h1, ha⟩, ⟨dx, h2⟩, h3, h4, h5⟩ := h
  exact ⟨r, ⟨dx, s _ _ h5.symm h2⟩, h3.monoX h1 s, SqL.monoP h4 h1 s, h5⟩
/-- the table has grown -/
theorem Sta.grow {CK CC Pt : Addr} {H H' : Hp} {kr rd ca : Addr} {o : Bool} {l : List Nat} {i : Nat} {ns : List Int} (h : Sta K CK CC Pt H kr rd ca o l i ns) (s : SameT Pt H H') (t : TabN Pt H') : Sta K CK CC Pt H' kr rd ca o l i ns := by
  obtain ⟨⟨dk, a, h1, ha⟩, ⟨dx, h2⟩, h3, h4, h5⟩ := h
  obtain ⟨ps, hP⟩ := h3.tbl
  refine ⟨⟨dk, a, s _ _ (ne_of h1 hP (by intro z; cases z)) h1, s _ _ (ne_of ha hP (by intro z; cases z)) ha⟩, ⟨dx, s _ _ (ne_of h2 hP (by intro z; cases z)) h2⟩, t, ?_, h5⟩
  rcases h4 with (h | ⟨o, h⟩) | h
  · exact .inl (.inl (s _ _ (ne_of h hP (by intro z; cases z)) h))
  · exact .inl (.inr ⟨o, s _ _ (ne_of h hP (by intro z; cases z)) h⟩)
  · exact .inr h
theorem SameT.del {p av : Addr} {H H' : Hp} (s : SameT p H H') : SameT p (del H av) (del H' av) := fun b o n e => by
  obtain ⟨e1, e2⟩ := del_some e
  rw [del_ne e1]
  exact s _ _ n e2
theorem CRd.del {C av : Addr} {H : Hp} {p ca : Addr} {i : Nat} (h : CRd C H p ca i) (n : p ≠ av) : CRd C (del H av) p ca i := by
  obtain ⟨dx, e⟩ := h
  exact ⟨dx, (del_ne n).trans e⟩
theorem TabN.del {Pt av : Addr} {H : Hp} {xs : List V} (t : TabN Pt H) (ha : H av = some (.lst xs)) : TabN Pt (del H av) := by
  rcases t with h | ⟨c, h, h2⟩
  · exact .inl ((del_ne (ne_of h ha (by intro z; cases z))).trans h)
  · exact .inr ⟨c, (del_ne (ne_of h ha (by intro z; cases z))).trans h, (del_ne (ne_of h2 ha (by intro z; cases z))).trans h2⟩
/-- if v == c: a; if v == c + 1: ..; last -/
noncomputable def tIfs (i : Nat) (last : TS) : Int → List TS → TS
  | _, [] => last
  | c, a :: as => tSeq (tIfS (tTest (tOp rEq (tVar i) (tC (.int c)))) a tNext) (tIfs i last (c + 1) as)
theorem tIfs_at {i : Nat} {last a : TS} {D : Ends} {σ : L2.St} {H : Hp} : ∀ {as : List TS} {c : Int} {k : Nat}, σ[i]? = some (some (.int (c + k))) → as[k]? = some a → (∀ nx, a { D with nx := nx } σ H) → tIfs i last c as D σ H
  | a' :: as, c, 0, hs, ha, h => by
    cases ha
    refine ⟨_, hs, rfl, _, rfl, ?_⟩
    rw [show c + ((0 : Nat) : Int) = c from Int.add_zero c, decide_eq_true rfl]
    exact iteT (h _)
  | a' :: as, c, k + 1, hs, ha, h => by
    refine ⟨_, hs, rfl, _, rfl, ?_⟩
    rw [decide_eq_false (by rw [V.int.injEq]; omega)]
    refine iteF (tIfs_at (as := as) (c := c + 1) (k := k) ?_ ha h)
    rw [hs, Int.natCast_succ, Int.add_assoc, Int.add_comm 1]
theorem chain_of {i k : Nat} {last : TS} {as : List TS} {D : Ends} {σ : L2.St} {H : Hp} (hs : σ[i]? = some (some (.int (0 + k)))) (h : ∃ a, as[k]? = some a ∧ ∀ nx, a { D with nx := nx } σ H) : tIfs i last 0 as D σ H := by
  obtain ⟨a, e, h⟩ := h
  exact tIfs_at hs e h
theorem rd_m0 {C : Addr} {m : Str} {sp : Sp} {i : Nat} {σ : L2.St} {H : Hp} {Q : VK} {p dx : Addr} {fs : List (Str × V)} (hs : σ[i]? = some (some (.ref p))) (hp : H p = some (.ins C dx fs)) (hm : fs.lookup m = none) (h : sp [.ref p] H Q E0) : tMeth C m sp [] E0 (tVar i) tNil σ H Q :=
  ⟨_, hs, p, dx, fs, rfl, hp, hm, h⟩
theorem rd_m1 {C : Addr} {m : Str} {sp : Sp} {t : TE} {i : Nat} {σ : L2.St} {H : Hp} {Q : VK} {p dx : Addr} {fs : List (Str × V)} (hs : σ[i]? = some (some (.ref p))) (hp : H p = some (.ins C dx fs)) (hm : fs.lookup m = none) (h : t σ H fun v H1 => sp [.ref p, v] H1 Q E0) : tMeth C m sp [] E0 (tVar i) (tCons t tNil) σ H Q :=
  ⟨_, hs, p, dx, fs, rfl, hp, hm, h⟩
section
variable {CK CC Pt : Addr} {H : Hp} {kr rd ca av : Addr} {o : Bool} {l : List Nat} {i : Nat} {ns : List Int} {Q : VK} {σ : L2.St} {j : Nat}
theorem Sta.rdne (Sd : Sta K CK CC Pt (Dk.del H av) kr rd ca o l i ns) : rd ≠ av := by
  obtain ⟨_, z⟩ := Sd.rdr
  exact (del_some z).1
/-- the next number is taken -/
theorem Sta.num {z : Int} (Sd : Sta K CK CC Pt (Dk.del H av) kr rd ca o l i ns) (hs : σ[j]? = some (some (.ref rd))) (e : ns[i]? = some z)
    (h : ∀ H1, SameT rd H H1 → Sta K CK CC Pt (Dk.del H1 av) kr rd ca o l (i + 1) ns → Q (.int z) H1) : tMeth CC "take_number" (spNum K CC) [] E0 (tVar j) tNil σ H Q := by
  have S := Sd.mono same_del
  obtain ⟨dx, hrd⟩ := id S.rdr
  exact rd_m0 hs hrd rfl ⟨rd, ca, i, ns, z, rfl, S.rdr, S.sq, e, fun H1 r1 s1 => h H1 s1 (Sd.read s1.del (r1.del Sd.rdne))⟩
theorem Sta.numN {z : Int} (Sd : Sta K CK CC Pt (Dk.del H av) kr rd ca o l i ns) (hs : σ[j]? = some (some (.ref rd))) (e : ns[i]? = some z) (hpos : ∀ x ∈ ns, 0 ≤ x)
    (h : ∀ H1, SameT rd H H1 → Sta K CK CC Pt (Dk.del H1 av) kr rd ca o l (i + 1) ns → Q (nV z.toNat) H1) : tMeth CC "take_number" (spNum K CC) [] E0 (tVar j) tNil σ H Q := by
  refine Sd.num hs e fun H1 s1 S1 => ?_
  have := h H1 s1 S1
  rw [show nV z.toNat = V.int z from congrArg V.int (Int.toNat_of_nonneg (hpos _ (List.mem_of_getElem? e)))] at this
  exact this
/-- the next row is taken -/
theorem Sta.row {z : Int} (Sd : Sta K CK CC Pt (Dk.del H av) kr rd ca o l i ns) (hs : σ[j]? = some (some (.ref rd))) (e : ns[i]? = some z) (h0 : 0 ≤ z) (hl : i + 1 + z.toNat ≤ ns.length) (hpos : ∀ x ∈ ns, 0 ≤ x)
    (h : ∀ H1 b, SameT rd H H1 → Sta K CK CC Pt (Dk.del H1 av) kr rd ca o l (i + 1 + z.toNat) ns → H b = none → IL K H1 b (rowAt ns (i + 1) z) → Q (.ref b) H1) : tMeth CC "take_row" (spRow K CC) [] E0 (tVar j) tNil σ H Q := by
  have S := Sd.mono same_del
  obtain ⟨dx, hrd⟩ := id S.rdr
  exact rd_m0 hs hrd rfl ⟨rd, ca, i, ns, z, rfl, S.rdr, S.sq, e, h0, hl, hpos, fun H1 b r1 s1 fb il => h H1 b s1 (Sd.read s1.del (r1.del Sd.rdne)) fb il⟩
/-- a method of the ring, with nothing, a number, a row -/
theorem Sta.m0 {c : Uw69.Call} {m : Str} (Sd : Sta K CK CC Pt (Dk.del H av) kr rd ca o l i ns) (hs : σ[j]? = some (some (.ref kr))) (hm : ∀ x a, (kf x a).lookup m = none) (h0 : 0 < l.length) (h9 : l.length ≤ 9)
    (h : ∀ H1 q, Same H H1 → Sta K CK CC Pt (Dk.del H1 av) kr rd ca o l i ns → ZL H1 q (Uw69.step (Rg o l) c).2 → Q (.ref q) H1) : tMeth CK m (spM0 K CK c) [] E0 (tVar j) tNil σ H Q := by
  have S := Sd.mono same_del
  obtain ⟨dk, a, hk, ha⟩ := id S.key
  exact rd_m0 hs hk (hm _ _) ⟨kr, o, l, rfl, S.key, h0, h9, fun H1 q s z => h H1 q s (Sd.mono (same_del2 s)) z⟩
theorem Sta.m1 {c : Nat → Uw69.Call} {z : Int} {m : Str} (Sd : Sta K CK CC Pt (Dk.del H av) kr rd ca o l i ns) (hs : σ[0]? = some (some (.ref kr))) (hs1 : σ[1]? = some (some (.ref rd))) (e : ns[i]? = some z) (hpos : ∀ x ∈ ns, 0 ≤ x) (hm : ∀ x a, (kf x a).lookup m = none) (h0 : 0 < l.length) (h9 : l.length ≤ 9)
    (h : ∀ H1 q, SameE kr rd Pt H H1 → Sta K CK CC Pt (Dk.del H1 av) kr rd ca o l (i + 1) ns → ZL H1 q (Uw69.step (Rg o l) (c z.toNat)).2 → Q (.ref q) H1) : tMeth CK m (spM1 K CK c) [] E0 (tVar 0) (tCons (tMeth CC "take_number" (spNum K CC) [] E0 (tVar 1) tNil) tNil) σ H Q := by
  obtain ⟨dk, a, hk, ha⟩ := (Sd.mono same_del).key
  refine rd_m1 hs hk (hm _ _) (Sd.numN hs1 e hpos fun H1 s1 S1 => ?_)
  exact ⟨kr, o, l, _, rfl, S1.key.mono same_del, h0, h9, fun H2 q s z => h H2 q ((SameE.ofR s1).trans (SameE.of s)) (S1.mono (same_del2 s)) z⟩
theorem row_len {ns : List Int} {i : Nat} {m : Int} : (rowAt ns i m).length ≤ ns.length := by
  unfold rowAt
  rw [List.length_map, List.length_take, List.length_drop]
  exact Nat.le_trans (Nat.min_le_right _ _) (Nat.sub_le _ _)
theorem Sta.mR {c : List Nat → Uw69.Call} {z : Int} {m : Str} (Sd : Sta K CK CC Pt (Dk.del H av) kr rd ca o l i ns) (hs : σ[0]? = some (some (.ref kr))) (hs1 : σ[1]? = some (some (.ref rd))) (e : ns[i]? = some z) (z0 : 0 ≤ z) (zl : i + 1 + z.toNat ≤ ns.length) (hpos : ∀ x ∈ ns, 0 ≤ x) (hns : ns.length ≤ 2000) (hm : ∀ x a, (kf x a).lookup m = none) (h0 : 0 < l.length) (h9 : l.length ≤ 9)
    (h : ∀ H1 q, SameE kr rd Pt H H1 → Sta K CK CC Pt (Dk.del H1 av) kr rd ca o l (i + 1 + z.toNat) ns → ZL H1 q (Uw69.step (Rg o l) (c (rowAt ns (i + 1) z))).2 → Q (.ref q) H1) : tMeth CK m (spMR K CK c) [] E0 (tVar 0) (tCons (tMeth CC "take_row" (spRow K CC) [] E0 (tVar 1) tNil) tNil) σ H Q := by
  obtain ⟨dk, a, hk, ha⟩ := (Sd.mono same_del).key
  refine rd_m1 hs hk (hm _ _) (Sd.row hs1 e z0 zl hpos fun H1 b s1 S1 _ il => ?_)
  exact ⟨kr, o, l, b, _, rfl, S1.key.mono same_del, il, Nat.le_trans row_len hns, h0, h9, fun H2 q s z => h H2 q ((SameE.ofR s1).trans (SameE.of s)) (S1.mono (same_del2 s)) z⟩
end
/-- a call's number -/
noncomputable def cidx : Uw69.Call → Nat
  | .ring _ _ => 0
  | .told => 1
  | .alike _ => 2
  | .turns => 3
  | .looks _ => 4
  | .form => 5
  | .felt _ => 6
  | .sure => 7
  | .fewest => 8
  | .ways _ => 9
  | .change _ => 10
theorem At.fst {ns : List Int} {i j : Nat} {cl : Uw69.Call} (h : At ns i cl j) : ns[i]? = some (0 + (cidx cl : Int)) := by
  cases h <;> assumption
/-! #### answer_next -/
noncomputable def spNext (K : PySem.W.Frag) (CK CC Pt : Addr) : Sp := fun vs H Q _ => ∃ (kr rd ca av : Addr) (o : Bool) (l : List Nat) (i j : Nat) (ns : List Int) (cl : Uw69.Call) (xs : List V), vs = [.ref kr, .ref rd] ∧ Sta K CK CC Pt (del H av) kr rd ca o l i ns ∧ H av = some (.lst xs) ∧ 0 < l.length ∧ l.length ≤ 9 ∧ ns.length ≤ 2000 ∧ (∀ x ∈ ns, 0 ≤ x) ∧ At ns i cl j ∧
  ∀ H' q, SameE kr rd Pt H H' → Sta K CK CC Pt (del H' av) kr rd ca (Uw69.step (Rg o l) cl).1.over (Uw69.step (Rg o l) cl).1.heads j ns → ZL H' q (Uw69.step (Rg o l) cl).2 → Q (.ref q) H'
noncomputable abbrev nmNext : List Str := ["keyring", "reader", "call", "over", "heads"]
theorem scNext : FnScope nmNext ["keyring", "reader"] (defScope sNext) := ⟨rfl, rfl, rfl, by decide +kernel, rfl, by decide +kernel, by decide +kernel⟩
structure Cods (mg : Str → Option Value) : Prop where
  c0 : Cst mg "RING" 0
  c1 : Cst mg "TOLD" 1
  c2 : Cst mg "ALIKE" 2
  c3 : Cst mg "TURNS" 3
  c4 : Cst mg "LOOKS" 4
  c5 : Cst mg "FORM" 5
  c6 : Cst mg "FELT" 6
  c7 : Cst mg "SURE" 7
  c8 : Cst mg "FEWEST" 8
  c9 : Cst mg "WAYS" 9
  c10 : Cst mg "CHANGE" 10
structure Mths (P : Program) (w : World) (K : PySem.W.Frag) (mg : Str → Option Value) (base : Heap) (CK CC Pt : Addr) : Prop where
  ring : MDef P w K mg base CK "ring" 5 ["self", "over", "heads"] (spKRing K CK)
  told : MDef P w K mg base CK "told" 5 ["self"] (spM0 K CK .told)
  alike : MDef P w K mg base CK "alike" 5 ["self", "place"] (spM1 K CK .alike)
  turns : MDef P w K mg base CK "turns" 4 ["self"] (spM0 K CK .turns)
  looks : MDef P w K mg base CK "looks" 4 ["self", "heads"] (spMR K CK .looks)
  form : MDef P w K mg base CK "form" 5 ["self"] (spM0 K CK .form)
  felt : MDef P w K mg base CK "felt" 4 ["self", "heads"] (spMR K CK .felt)
  sure : MDef P w K mg base CK "sure" 6 ["self"] (spM0 K CK .sure)
  fewest : MDef P w K mg base CK "fewest" 6 ["self"] (spM0 K CK .fewest)
  ways : MDef P w K mg base CK "ways" 6 ["self", "k"] (spM1 K CK .ways)
  change : MDef P w K mg base CK "change" 6 ["self", "k"] (spKChange K CK Pt)
  num : MDef P w K mg base CC "take_number" 1 ["self"] (spNum K CC)
  row : MDef P w K mg base CC "take_row" 2 ["self"] (spRow K CC)
theorem ok_next {f CK CC Pt : Addr} {fd : FuncData} (F : Fun K "answer_next" "answer_next" sNext f fd) (TK' : TK K CK) (TC' : TC K CC) (c : Cods mg) (M : Mths P w K mg base CK CC Pt) : FnOk P w K mg base CX0 7 f fd ["keyring", "reader"] (spNext K CK CC Pt) := by
  refine F.ok scNext (fun vs H Q E h => ?_) (fun cdv A outer s H vs Q E hr h => ?_)
  · obtain ⟨kr, rd, ca, av, o, l, i, j, ns, cl, xs, rfl, _⟩ := h
    rfl
  · obtain ⟨kr, rd, ca, av, o, l, i, j, ns, cl, xs, rfl, Sd, hav, h0, h9, hns, hpos, hat, k⟩ := h
    refine ⟨_, pss_cons (ps_set (i := 2) scNext.nd rfl (Or.inl rfl) (pe_mdef0 M.num TC'.cl hr (by decide) (pv 1)))
      (pss_cons (ps_if (pt_cmpR op_eq (pv 2) (pe_cst c.c0 rfl) (nomark _)) (pss_cons (ps_set (i := 3) scNext.nd rfl (Or.inl rfl) (pe_mdef0 M.num TC'.cl hr (by decide) (pv 1))) (pss_cons (ps_set (i := 4) scNext.nd rfl (Or.inl rfl) (pe_mdef0 M.row TC'.cl hr (by decide) (pv 1))) (pss_one (ps_ret (pe_mdef M.ring TK'.cl hr (by decide) (pv 0) (pa_cons (pv 3) (pa_cons (pv 4) pa_nil))))))) pss_nil)
      (pss_cons (ps_if (pt_cmpR op_eq (pv 2) (pe_cst c.c1 rfl) (nomark _)) (pss_one (ps_ret (pe_mdef0 M.told TK'.cl hr (by decide) (pv 0)))) pss_nil)
      (pss_cons (ps_if (pt_cmpR op_eq (pv 2) (pe_cst c.c2 rfl) (nomark _)) (pss_one (ps_ret (pe_mdef M.alike TK'.cl hr (by decide) (pv 0) (pa_cons (pe_mdef0 M.num TC'.cl hr (by decide) (pv 1)) pa_nil)))) pss_nil)
      (pss_cons (ps_if (pt_cmpR op_eq (pv 2) (pe_cst c.c3 rfl) (nomark _)) (pss_one (ps_ret (pe_mdef0 M.turns TK'.cl hr (by decide) (pv 0)))) pss_nil)
      (pss_cons (ps_if (pt_cmpR op_eq (pv 2) (pe_cst c.c4 rfl) (nomark _)) (pss_one (ps_ret (pe_mdef M.looks TK'.cl hr (by decide) (pv 0) (pa_cons (pe_mdef0 M.row TC'.cl hr (by decide) (pv 1)) pa_nil)))) pss_nil)
      (pss_cons (ps_if (pt_cmpR op_eq (pv 2) (pe_cst c.c5 rfl) (nomark _)) (pss_one (ps_ret (pe_mdef0 M.form TK'.cl hr (by decide) (pv 0)))) pss_nil)
      (pss_cons (ps_if (pt_cmpR op_eq (pv 2) (pe_cst c.c6 rfl) (nomark _)) (pss_one (ps_ret (pe_mdef M.felt TK'.cl hr (by decide) (pv 0) (pa_cons (pe_mdef0 M.row TC'.cl hr (by decide) (pv 1)) pa_nil)))) pss_nil)
      (pss_cons (ps_if (pt_cmpR op_eq (pv 2) (pe_cst c.c7 rfl) (nomark _)) (pss_one (ps_ret (pe_mdef0 M.sure TK'.cl hr (by decide) (pv 0)))) pss_nil)
      (pss_cons (ps_if (pt_cmpR op_eq (pv 2) (pe_cst c.c8 rfl) (nomark _)) (pss_one (ps_ret (pe_mdef0 M.fewest TK'.cl hr (by decide) (pv 0)))) pss_nil)
      (pss_cons (ps_if (pt_cmpR op_eq (pv 2) (pe_cst c.c9 rfl) (nomark _)) (pss_one (ps_ret (pe_mdef M.ways TK'.cl hr (by decide) (pv 0) (pa_cons (pe_mdef0 M.num TC'.cl hr (by decide) (pv 1)) pa_nil)))) pss_nil)
      (pss_cons (ps_if (pt_cmpR op_eq (pv 2) (pe_cst c.c10 rfl) (nomark _)) (pss_one (ps_ret (pe_mdef M.change TK'.cl hr (by decide) (pv 0) (pa_cons (pe_mdef0 M.num TC'.cl hr (by decide) (pv 1)) pa_nil)))) pss_nil)
      (pss_one ps_never)))))))))))), ?_⟩
    refine Sd.num rfl hat.fst fun H1 s1 S1 => ?_
    show tIfs 2 _ 0 [_, _, _, _, _, _, _, _, _, _, _] _ _ _
    refine chain_of rfl ?_
    have e1 : SameE kr rd Pt H H1 := SameE.ofR s1
    have nl : ∀ m : Str, (m == "over") = false → (m == "heads") = false → ∀ x a, (kf x a).lookup m = none := fun m h1 h2 x a => by
      show List.lookup m [_, _] = _
      rw [List.lookup_cons, h1, List.lookup_cons, h2]
      rfl
    cases hat with
    | told _ => exact ⟨_, rfl, fun nx => S1.m0 rfl (nl _ (by decide) (by decide)) h0 h9 fun H2 q s S2 z => k H2 q (e1.trans (SameE.of s)) S2 z⟩
    | turns _ => exact ⟨_, rfl, fun nx => S1.m0 rfl (nl _ (by decide) (by decide)) h0 h9 fun H2 q s S2 z => k H2 q (e1.trans (SameE.of s)) S2 z⟩
    | form _ => exact ⟨_, rfl, fun nx => S1.m0 rfl (nl _ (by decide) (by decide)) h0 h9 fun H2 q s S2 z => k H2 q (e1.trans (SameE.of s)) S2 z⟩
    | sure _ => exact ⟨_, rfl, fun nx => S1.m0 rfl (nl _ (by decide) (by decide)) h0 h9 fun H2 q s S2 z => k H2 q (e1.trans (SameE.of s)) S2 z⟩
    | fewest _ => exact ⟨_, rfl, fun nx => S1.m0 rfl (nl _ (by decide) (by decide)) h0 h9 fun H2 q s S2 z => k H2 q (e1.trans (SameE.of s)) S2 z⟩
    | @alike x _ e => exact ⟨_, rfl, fun nx => S1.m1 rfl rfl e hpos (nl _ (by decide) (by decide)) h0 h9 fun H2 q s S2 z => k H2 q (e1.trans s) S2 z⟩
    | @ways x _ e => exact ⟨_, rfl, fun nx => S1.m1 rfl rfl e hpos (nl _ (by decide) (by decide)) h0 h9 fun H2 q s S2 z => k H2 q (e1.trans s) S2 z⟩
    | @looks m _ e m0 ml => exact ⟨_, rfl, fun nx => S1.mR rfl rfl e m0 ml hpos hns (nl _ (by decide) (by decide)) h0 h9 fun H2 q s S2 z => k H2 q (e1.trans s) S2 z⟩
    | @felt m _ e m0 ml => exact ⟨_, rfl, fun nx => S1.mR rfl rfl e m0 ml hpos hns (nl _ (by decide) (by decide)) h0 h9 fun H2 q s S2 z => k H2 q (e1.trans s) S2 z⟩
    | @change x _ e =>
      refine ⟨_, rfl, fun nx => ?_⟩
      obtain ⟨dk, a, hk, ha⟩ := (S1.mono same_del).key
      refine rd_m1 rfl hk (nl _ (by decide) (by decide) _ _) (S1.numN rfl e hpos fun H2 s2 S2 => ?_)
      have S2' := S2.mono same_del
      have hav2 := s2 _ _ Sd.rdne.symm (s1 _ _ Sd.rdne.symm hav)
      exact ⟨kr, o, l, x.toNat, rfl, S2'.key, h0, h9, S2'.tab, fun H3 q s3 t3 z => k H3 q (e1.trans ((SameE.ofR s2).trans (SameE.ofP s3))) (S2.grow s3.del (t3.del (s3 _ _ (ne_of hav2 S2'.tab.tbl.choose_spec (by intro z; cases z)) hav2))) z⟩
    | @ring x m _ e2 e3 m0 ml =>
      refine ⟨_, rfl, fun nx => ?_⟩
      refine S1.numN rfl e2 hpos fun H2 s2 S2 => ?_
      refine S2.row rfl e3 m0 ml hpos fun H3 b s3 S3 fb il => ?_
      obtain ⟨dk, a, hk, ha⟩ := (S3.mono same_del).key
      refine ⟨_, rfl, kr, dk, _, rfl, hk, rfl, _, rfl, _, rfl, kr, o, l, x.toNat, b, _, av, rfl, S3.key, il.del (ne_new ⟨_, s2 _ _ Sd.rdne.symm (s1 _ _ Sd.rdne.symm hav)⟩ fb), Nat.le_trans row_len hns, fun H4 q s4 r4 z => ?_⟩
      exact k H4 q (e1.trans ((SameE.ofR s2).trans ((SameE.ofR s3).trans (SameE.ofK s4)))) (S3.ring s4.del r4) z
end
end Dk
end
section
set_option Elab.async false
set_option linter.all false
set_option maxRecDepth 100000
set_option maxHeartbeats 4000000
namespace Dk
open PySem PySem.Spec PyProof.Rows L2
/-! ### the whole list of calls -/
noncomputable def stp (s : Uw69.Ring) (c : List (List Int)) : Uw69.Ring × List Int := Uw69Neutral.step s (c.headD [])
theorem asked_of {ns : List Int} (h : PyUw69.answers_asked ns = true) : ∃ raw, PyFlat.calls PyUw69.shape ns.length ns = some raw ∧ PyUw69.answers ns = PyFlat.told (PyFlat.played stp (Rg true [0]) (raw.map PyUw69.whole)) ∧ (PyUw69.answers ns).length ≤ 10000000 := by
  unfold PyUw69.answers_asked at h
  cases e : PyFlat.calls PyUw69.shape ns.length ns with
  | none => rw [e] at h; cases h
  | some raw =>
    rw [e] at h
    have h : (((((!raw.isEmpty) && PyFlat.atMost 40 raw) && PyInside.calls PyUw69.bound raw) && Uw69Neutral.asked ((raw.map PyUw69.whole).map fun c => c.headD [])) && PyFlat.short 10000000 (PyUw69.answers ns)) = true := h
    rw [Bool.and_eq_true] at h
    have h2 := h.2
    unfold PyFlat.short at h2
    refine ⟨raw, rfl, ?_, of_decide_eq_true h2⟩
    unfold PyUw69.answers PyUw69.calls
    rw [e]
    rfl
theorem calls_cons {f : Nat} {p : Int} {r : List Int} {cs : List (List (List Int))} (h : PyFlat.calls PyUw69.shape f (p :: r) = some cs) : ∃ f' c t cs', PyFlat.call PyUw69.shape (p :: r) = some (c, t) ∧ PyFlat.calls PyUw69.shape f' t = some cs' ∧ cs = c :: cs' := by
  cases f with
  | zero => simp only [PyFlat.calls] at h; cases h
  | succ f =>
    simp only [PyFlat.calls] at h
    cases e : PyFlat.call PyUw69.shape (p :: r) with
    | none => rw [e] at h; cases h
    | some z =>
      obtain ⟨c, t⟩ := z
      rw [e] at h
      have h : (match PyFlat.calls PyUw69.shape f t with | none => none | some cs => some (c :: cs)) = some cs := h
      cases e2 : PyFlat.calls PyUw69.shape f t with
      | none => rw [e2] at h; cases h
      | some cs' =>
        rw [e2] at h
        exact ⟨f, c, t, cs', rfl, e2, (Option.some.inj h).symm⟩
/-- one more call: what is told, and the rest -/
theorem told_next {ns : List Int} {i f : Nat} {cs : List (List (List Int))} {r : Uw69.Ring} (hb : ∀ x ∈ ns, 0 ≤ x ∧ x ≤ 4294967295) (hi : i < ns.length) (h : PyFlat.calls PyUw69.shape f (ns.drop i) = some cs) :
    ∃ cl j f' cs', At ns i cl j ∧ PyFlat.calls PyUw69.shape f' (ns.drop j) = some cs' ∧
      PyFlat.told (PyFlat.played stp r (cs.map PyUw69.whole)) = (((Uw69.step r cl).2.length : Int) :: (Uw69.step r cl).2) ++ PyFlat.told (PyFlat.played stp (Uw69.step r cl).1 (cs'.map PyUw69.whole)) := by
  cases e : ns.drop i with
  | nil =>
    have := congrArg List.length e
    rw [List.length_drop, List.length_nil] at this
    omega
  | cons p t0 =>
    rw [e] at h
    obtain ⟨f', c, t, cs', h1, h2, rfl⟩ := calls_cons h
    rw [← e] at h1
    obtain ⟨cl, j, hat, rfl, hst⟩ := parse hb h1
    refine ⟨cl, j, f', cs', hat, h2, ?_⟩
    have es : stp r (PyUw69.whole c) = Uw69.step r cl := hst r
    rw [List.map_cons]
    show PyFlat.told ((stp r (PyUw69.whole c)).2 :: PyFlat.played stp (stp r (PyUw69.whole c)).1 (cs'.map PyUw69.whole)) = _
    rw [es]
    rfl
section
variable {P : Program} {w : World} {K : PySem.W.Frag} {mg : Str → Option Value} {base : Heap}
/-- a class of the module with its __init__ -/
structure CMk (P : Program) (w : World) (K : PySem.W.Frag) (mg : Str → Option Value) (base : Heap) (x : Str) (C : Addr) (ps : List Str) (sp : Sp) : Prop where
  ex : ∃ f fd, Mk K C f ∧ FnOk P w K mg base CX0 1 f fd ps sp ∧ mg x = some (.ref C) ∧ Binds K fd ps []
theorem pe_cmk0 {X : Cx} {x : Str} {C : Addr} {ps : List Str} {sp : Sp} {p pos : Pos} {j : Nat} (M : CMk X.prog X.w X.K X.mg X.base x C ps sp) (hr : Room j X.A) (hj : 2 ≤ j) (hg : Gl X x) (hdb : (x == ("__debug__" : Str)) = false := by decide) : PE X (.Call (.Name x p) [] [] pos) (tMake C sp [] E0 tNil) := by
  obtain ⟨f, fd, m, F, hm, hb⟩ := M.ex
  exact pe_make0 m F (hr.mono hj) hg hm hb .nil pass0 hdb
theorem pe_cmk {X : Cx} {x : Str} {C : Addr} {ps : List Str} {sp : Sp} {p pos : Pos} {j : Nat} {e : Expr} {es : List Expr} {t : TA} (M : CMk X.prog X.w X.K X.mg X.base x C ps sp) (hr : Room j X.A) (hj : 2 ≤ j) (hg : Gl X x) (ha : PA X (e :: es) t) (hdb : (x == ("__debug__" : Str)) = false := by decide)
    (he : starEach (e :: es) X.env = (false, eval e X.env) :: starEach es X.env := by rfl) (hpl : (backTo pos (starEach es X.env)).any (·.1) = false := by rfl) : PE X (.Call (.Name x p) (e :: es) [] pos) (tMake C sp [] E0 t) := by
  obtain ⟨f, fd, m, F, hm, hb⟩ := M.ex
  exact pe_make m F (hr.mono hj) hg hm hb .nil pass0 ha hdb he hpl
noncomputable def spAns (K : PySem.W.Frag) (Pt : Addr) : Sp := fun vs H Q _ => ∃ (ca : Addr) (ns : List Int), vs = [.ref ca] ∧ SqL K H ca (ns.map V.int) ∧ ns.length ≤ 1900 ∧ (∀ x ∈ ns, 0 ≤ x ∧ x ≤ 4294967295) ∧ PyUw69.answers_asked ns = true ∧ TabN Pt H ∧ ∀ H' p, ZL H' p (PyUw69.answers ns) → Q (.ref p) H'
noncomputable abbrev nmAns : List Str := ["calls", "keyring", "reader", "answered"]
theorem scAns : FnScope nmAns ["calls"] (defScope sAns) := ⟨rfl, rfl, rfl, by decide +kernel, rfl, by decide +kernel, by decide +kernel⟩
theorem made_same {H H1 : Hp} {x dx C : Addr} (nx : H x = none) (nd : H dx = none) (k : SameT x (upd (upd H dx (.own x)) x (.ins C dx [])) H1) : Same H H1 := fun b o e =>
  k b o (ne_of_none e nx) (by rw [upd_ne (ne_of_none e nx), upd_ne (ne_of_none e nd)]; exact e)
theorem ok_ans {f CK CC Pt : Addr} {fd : FuncData} (F : Fun K "answers" "answers" sAns f fd) (TK' : TK K CK) (TC' : TC K CC) (A1 : CMk P w K mg base "KeyRing" CK ["self"] (spKInit K CK)) (A2 : CMk P w K mg base "CallReader" CC ["self", "calls"] (spCInit CC)) (M1 : MDef P w K mg base CC "has_more" 1 ["self"] (spMore K CC))
    (Dc : Def P w K mg base "counted" 1 ["numbers"] spCounted) (Dn : Def P w K mg base "answer_next" 7 ["keyring", "reader"] (spNext K CK CC Pt)) : FnOk P w K mg base CX0 8 f fd ["calls"] (spAns K Pt) := by
  refine F.ok scAns (fun vs H Q E h => ?_) (fun cdv A outer s H vs Q E hr h => ?_)
  · obtain ⟨ca, ns, rfl, _⟩ := h
    rfl
  · obtain ⟨ca, ns, rfl, hs, hl, hb, hask, tab, k⟩ := h
    refine ⟨_, pss_cons (ps_set (i := 1) scAns.nd rfl (Or.inl rfl) (pe_cmk0 A1 hr (by decide) rfl))
      (pss_cons (ps_set (i := 2) scAns.nd rfl (Or.inl rfl) (pe_cmk A2 hr (by decide) rfl (pa_cons (pv 0) pa_nil)))
      (pss_cons (ps_set (i := 3) scAns.nd rfl (Or.inl rfl) (pe_lst pa_nil))
      (pss_cons (ps_while PassesOwn.never (pt_val (pe_mdef0 M1 TC'.cl hr (by decide) (pv 2)))
        (pss_one (ps_expr (pe_bm PySem.F.plainAttrs_list PySem.F.slot_list_extend PySem.F.type_list_extend mt_extend (pv 3) (pa_cons (pe_def Dc hr (by decide) rfl (pa_cons (pe_def Dn hr (Nat.le_refl _) rfl (pa_cons (pv 1) (pa_cons (pv 2) pa_nil))) pa_nil)) pa_nil)))))
      (pss_one (ps_ret (pv 3)))))), ?_⟩
    obtain ⟨raw, hraw, hans, h7⟩ := asked_of hask
    intro kr dk nk ndk nek
    refine ⟨kr, dk, rfl, upd_same, fun H1 k1 t1 => ⟨rfl, ?_⟩⟩
    have s1 : Same H H1 := made_same nk ndk t1
    refine ⟨_, rfl, ?_⟩
    intro rd dr nr ndr ner
    refine ⟨rd, dr, ca, rfl, upd_same, fun H2 k2 t2 => ⟨rfl, ?_⟩⟩
    have s2 : Same H1 H2 := made_same nr ndr t2
    have nkr : kr ≠ rd := by
      obtain ⟨dx, a, e, _⟩ := k1
      exact ne_of_none e nr
    refine ⟨Nat.zero_le _, fun q0 fq0 => ?_⟩
    have s3 : Same H2 (upd H2 q0 (.lst [])) := same_upd fq0
    have S0 : Sta K CK CC Pt (del (upd H2 q0 (.lst [])) q0) kr rd ca true [0] 0 ns := by
      refine Sta.mono ⟨k1.mono s2, k2, tab.mono (s1.trans s2), (s1.trans s2).seq hs, nkr⟩ (same_to_del s3 fq0)
    refine ⟨fun m σ H' => ∃ (o : Bool) (l : List Nat) (i : Nat) (out : List Int) (fuel : Nat) (cs : List (List (List Int))), σ = [some (.ref ca), some (.ref kr), some (.ref rd), some (.ref q0)] ∧ Sta K CK CC Pt (del H' q0) kr rd ca o l i ns ∧ 0 < l.length ∧ l.length ≤ 9 ∧ ZL H' q0 out ∧
        PyFlat.calls PyUw69.shape fuel (ns.drop i) = some cs ∧ out ++ PyFlat.told (PyFlat.played stp (Rg o l) (cs.map PyUw69.whole)) = PyUw69.answers ns ∧ i ≤ ns.length ∧ m = ns.length - i,
      ⟨_, true, [0], 0, [], ns.length, raw, rfl, S0, by decide, by decide, upd_z rfl, hraw, hans.symm, Nat.zero_le _, rfl⟩, ?_⟩
    rintro m σ H3 ⟨o, l, i, out, fuel, cs, rfl, Sd, l0, l9, hz, hcs, htot, hi, rfl⟩
    have S := Sd.mono same_del
    obtain ⟨dx, hrd⟩ := id S.rdr
    refine ⟨_, rfl, rd, dx, _, rfl, hrd, rfl, rd, ca, i, ns, rfl, S.rdr, S.sq, _, rfl, ?_⟩
    by_cases hlt : i < ns.length
    · rw [decide_eq_true hlt]
      obtain ⟨cl, j, f', cs', hat, hcs', htn⟩ := told_next (r := Rg o l) hb hlt hcs
      obtain ⟨jl, jn⟩ := hat.lt
      rw [htn] at htot
      have hlen := congrArg List.length htot
      rw [List.length_append, List.length_append, List.length_cons] at hlen
      obtain ⟨v0, v9⟩ := step_valid (r := Rg o l) l0 l9 cl
      refine iteT ⟨fun σ' H' => σ' = [some (.ref ca), some (.ref kr), some (.ref rd), some (.ref q0)] ∧ Sta K CK CC Pt (del H' q0) kr rd ca (Uw69.step (Rg o l) cl).1.over (Uw69.step (Rg o l) cl).1.heads j ns ∧ ZL H' q0 (out ++ (((Uw69.step (Rg o l) cl).2.length : Int) :: (Uw69.step (Rg o l) cl).2)),
        fun σ' H' ⟨a1, a2, a3⟩ => ⟨ns.length - j, by omega, _, _, j, _, f', cs', a1, a2, v0, v9, a3, hcs', by rw [List.append_assoc]; exact htot, jn, rfl⟩, ?_⟩
      refine ⟨_, rfl, .inl ⟨rfl, _, SqL.of hz⟩, _, rfl, _, rfl, kr, rd, ca, q0, o, l, i, j, ns, cl, _, rfl, Sd, hz, l0, l9, by omega, fun x hx => (hb x hx).1, hat, fun H4 q sE S4 z4 => ?_⟩
      obtain ⟨dk', a', ek, _⟩ := id S.key
      obtain ⟨ps, eP⟩ := S.tab.tbl
      have hz4 : ZL H4 q0 out := sE _ _ (ne_of hz ek (by intro z; cases z)) (ne_of hz hrd (by intro z; cases z)) (ne_of hz eP (by intro z; cases z)) hz
      refine ⟨q, _, rfl, z4, by omega, fun H5 q5 s5 f5 z5 => ?_⟩
      have nq : q5 ≠ q0 := (ne_of_none hz4 f5).symm
      refine ⟨q0, q5, _, _, rfl, rfl, s5 _ _ hz4, z5, ?_, ?_⟩
      · rw [List.length_map, List.length_map, List.length_cons]
        exact Nat.le_trans (show out.length + ((Uw69.step (Rg o l) cl).2.length + 1) ≤ 10000000 by omega) (by decide)
      · refine ⟨rfl, ?_, ?_⟩
        · exact (S4.mono (same_del2 s5)).mono same_del_upd
        · refine upd_z ?_
          rw [List.map_append]
    · rw [decide_eq_false hlt]
      have e : i = ns.length := by omega
      subst e
      rw [List.drop_length] at hcs
      have ecs : cs = [] := by
        cases fuel <;> (simp only [PyFlat.calls] at hcs; exact (Option.some.inj hcs).symm)
      subst ecs
      have eo : out = PyUw69.answers ns := by
        have : out ++ [] = PyUw69.answers ns := htot
        rw [List.append_nil] at this
        exact this
      subst eo
      exact iteF ⟨_, rfl, k H3 q0 hz⟩
end
end Dk
end
section
set_option Elab.async false
set_option linter.all false
set_option maxRecDepth 100000
set_option maxHeartbeats 2000000
namespace Dk
open PySem PySem.Spec PyProof.Rows L2
open PySem.W (WData Codec OpenSpec Well WellAll ReadsW ReadsAllW CodeHd tabObj noTabs)
/-! ### a list of ints, handed in and given back -/
theorem well_ints {Pm : Params} {h : Heap} (ns : List Int) : ∀ {vs : List Value}, WellAll Pm h vs (ns.map WData.int) → Vals (ns.map V.int) vs := by
  induction ns with
  | nil =>
    intro vs x
    cases x
    exact .nil
  | cons n ns ih =>
    intro vs x
    cases x with
    | cons a b =>
      cases a
      exact .cons ⟨_, rfl⟩ (ih b)
theorem well_arg {Pm : Params} {h : Heap} {ns : List Int} {vals : List Value} (x : WellAll Pm h vals [WData.list (ns.map WData.int)]) : ∃ (a : Addr) (vs : List Value), vals = [.ref a] ∧ h.get? a = some { cls := .type "list", data := .seq vs.toArray } ∧ Vals (ns.map V.int) vs := by
  cases x with
  | cons p q =>
    cases q
    cases p with
    | list ho hall => exact ⟨_, _, rfl, ho, well_ints ns hall⟩
theorem reads_ints {R : PySem.W.WRecords} {cl : Str → Option Addr} {h : Heap} (ns : List Int) : ∀ {us : List Value}, Vals (ns.map V.int) us → ∃ as, ReadsAllW R cl h us (ns.map WData.int) as := by
  induction ns with
  | nil =>
    intro us r
    cases r
    exact ⟨_, ReadsAllW.nil⟩
  | cons n ns ih =>
    intro us r
    cases r with
    | cons r1 r2 =>
      obtain ⟨t, rfl⟩ := r1
      obtain ⟨as, q⟩ := ih r2
      exact ⟨_, ReadsAllW.cons (ReadsW.int n t) q⟩
theorem reads_list {P : Program} {w : World} {K : PySem.W.Frag} {H : Hp} {h : Heap} {R : PySem.W.WRecords} {cl : Str → Option Addr} {p : Addr} {ns : List Int} (hok : HOk P w H h) (KX : K.In h) (q : SqL K H p (ns.map V.int)) : ∃ as, ReadsW R cl h (.ref p) (.list (ns.map WData.int)) as := by
  rcases q with q | ⟨o, its, n, e, hc, _, hd, _, hv⟩
  · obtain ⟨_, its, n, hv, e⟩ := (show ObjOk P w H h p (.lst (ns.map V.int)) from q.ok hok)
    obtain ⟨as, hr⟩ := reads_ints (R := R) (cl := cl) (h := h) ns hv
    exact ⟨_, ReadsW.list e rfl rfl hr⟩
  · obtain ⟨as, hr⟩ := reads_ints (R := R) (cl := cl) (h := h) ns hv
    exact ⟨_, ReadsW.list (KX _ _ e) hc (by rw [hd]) hr⟩
/-- what is tracked of the argument -/
theorem arg_hp {P : Program} {w : World} {K : PySem.W.Frag} {h : Heap} {a : Addr} {vs : List Value} {xs : List V} (KX : K.In h) (e : h.get? a = some { cls := .type "list", data := .seq vs.toArray }) (hv : Vals xs vs) (hl : xs.length ≤ sizeLine) :
    ∃ H0 : Hp, HOk P w H0 h ∧ SqL K H0 a xs ∧ ∀ b u, H0 b = some u → b = a ∧ K.lookup a = none ∧ u = .frz { cls := .type "list", data := .seq vs.toArray } (.lst xs) := by
  cases hk : K.lookup a with
  | none =>
    refine ⟨upd (fun _ => none) a (.frz { cls := .type "list", data := .seq vs.toArray } (.lst xs)), fun b u q => ?_, .inl (.inr ⟨_, upd_same⟩), fun b u q => ?_⟩
    · by_cases z : b = a
      · subst z
        rw [upd_same] at q
        cases q
        exact ⟨e, hl, vs, _, hv, e⟩
      · rw [upd_ne z] at q
        cases q
    · by_cases z : b = a
      · subst z
        rw [upd_same] at q
        exact ⟨rfl, rfl, (Option.some.inj q).symm⟩
      · rw [upd_ne z] at q
        cases q
  | some o =>
    have e2 := KX a o hk
    rw [e] at e2
    obtain rfl := Option.some.inj e2
    refine ⟨fun _ => none, fun b u q => ?_, .inr ⟨_, vs.toArray, _, hk, rfl, rfl, rfl, ?_, hv⟩, fun b u q => ?_⟩
    · cases q
    · rw [List.size_toArray, ← hv.length]
      exact hl
    · cases q
/-- the call, the table of one def's code tracked -/
theorem spec_callT {P : Program} {w : World} {K : PySem.W.Frag} {mg mb : Str → Option Value} {k : Nat} {fa c Pt : Addr} {fd : FuncData} {ps : List Str} {sp : Sp} {s₁ : Shared} {vals : List Value} {ns ms : List Int} {R : PySem.W.WRecords} {cl : Str → Option Addr}
    (KX : K.In s₁.heap) (hns : s₁.heap.Ns mainGlobals mg) (hb : s₁.heap.Ns builtinsNs mb) (hbb : ∀ x : Str, x ≠ "__name__" → mb x = bootBuiltins x) (hlim : s₁.heap.NoLimit) (hg : s₁.gens = #[])
    (hK : noTabs K = true) (hC : CodeHd s₁.heap c Pt) (hP : s₁.heap.get? Pt = some (tabObj #[])) (hbm : s₁.heap.BuiltinsAt mg Pt)
    (hwl : WellAll w.params s₁.heap vals [WData.list (ns.map WData.int)]) (hnl : ns.length ≤ sizeLine) (hr : Room k callerA)
    (F : ∀ base : Heap, K.In base → base.Ns mainGlobals mg → CodeHd base c Pt → base.BuiltinsAt mg Pt → FnOk P w K mg base CX0 k fa fd ps sp) (hbind : ∀ (s : Shared) (us : List Value), us.length = ps.length → BindsTo s fd ⟨us, []⟩ (ps.zip us)) (hlen : 1 = ps.length)
    (hsp : ∀ (H0 H : Hp) (a : Addr), Same H0 H → H Pt = some (.tbl #[]) → SqL K H0 a (ns.map V.int) → sp [.ref a] H (fun v H' => ∃ p, v = .ref p ∧ SqL K H' p (ms.map V.int)) fun _ _ _ => False) :
    codeAny (model P w) callerA (.call (.ref fa) ⟨vals, []⟩) (fun r s' => ∃ u as, r = .ok (.ret u) ∧ ReadsW R cl s'.heap u (.list (ms.map WData.int)) as ∧ OldK s₁.heap s'.heap ∧ s'.os = s₁.os ∧ AllBare s'.gens) s₁ := by
  obtain ⟨aA, vsA, rfl, eA, hvA⟩ := well_arg hwl
  obtain ⟨H0, hok0, hS, hH0⟩ := arg_hp (P := P) (w := w) KX eA hvA (by rw [List.length_map]; exact hnl)
  have hO0 : ∀ b, H0 b = none ∨ ∃ o u, H0 b = some (.frz o u) := fun b => by
    cases q : H0 b with
    | none => exact .inl rfl
    | some u => exact .inr ⟨_, _, congrArg some (hH0 b u q).2.2⟩
  have hKl : ∀ b u, H0 b = some u → K.lookup b = none := fun b u q => by
    obtain ⟨e, n, _⟩ := hH0 b u q
    rw [e]
    exact n
  have noA : ∀ {b : Addr} {o : Obj}, s₁.heap.get? b = some o → (∀ xs n, o.data ≠ .seq xs n) → H0 b = none := fun {b o} e d => by
    cases q : H0 b with
    | none => rfl
    | some u =>
      obtain ⟨z, _, _⟩ := hH0 b u q
      rw [z, eA] at e
      cases e
      exact absurd rfl (d _ _)
  have nP : H0 Pt = none := noA hP fun xs n z => nomatch z
  have KP : K.lookup Pt = none := by
    cases q : K.lookup Pt with
    | none => rfl
    | some o =>
      have e := KX _ _ q
      rw [hP] at e
      cases e
      have h2 := List.all_eq_true.mp hK (Pt, _) (PySem.W.mem_of_lookupK q)
      exact absurd (show false = true from h2) Bool.false_ne_true
  generalize hH : upd H0 Pt (.tbl #[]) = H
  have sH : Same H0 H := by rw [← hH]; exact same_upd nP
  have hHP : H Pt = some (.tbl #[]) := by rw [← hH]; exact upd_same
  have ne0 : ∀ {b : Addr}, b ≠ Pt → H b = H0 b := fun n => by rw [← hH]; exact upd_ne n
  have hok : HOk P w H s₁.heap := fun b u e => by
    by_cases z : b = Pt
    · subst z
      rw [hHP] at e
      cases e
      exact hP
    · rw [ne0 z] at e
      refine (hok0 b u e).stay (fun _ _ _ q => q) (fun d q => sH _ _ q) fun d xs q => sH _ _ q
  have base_of : ∀ {b : Addr} {o : Obj}, s₁.heap.get? b = some o → H b = none → (hidT s₁.heap H).get? b = some o := fun e n => hidT_get e n
  have noH : ∀ {b : Addr} {o : Obj}, s₁.heap.get? b = some o → (∀ xs n, o.data ≠ .seq xs n) → b ≠ Pt → H b = none := fun {b o} e d n => by rw [ne0 n]; exact noA e d
  have neP : ∀ {b : Addr} {o : Obj}, s₁.heap.get? b = some o → o ≠ tabObj #[] → b ≠ Pt := fun {b o} e n z => by
    rw [z, hP] at e
    exact n (Option.some.inj e).symm
  have nsK : ∀ {b : Addr} {m : Str → Option Value}, s₁.heap.Ns b m → (hidT s₁.heap H).Ns b m := fun {b m} ⟨o, es, ep, e, d, r⟩ =>
    ⟨o, es, ep, base_of e (noH e (fun xs n z => by rw [d] at z; cases z) (neP e fun z => by rw [z] at d; cases d)), d, r⟩
  have nK : ∀ b o, K.lookup b = some o → H b = none := fun b o e => by
    have n : b ≠ Pt := fun z => by rw [z, KP] at e; cases e
    rw [ne0 n]
    cases q : H0 b with
    | none => rfl
    | some u =>
      rw [hKl b u q] at e
      cases e
  have hKb : K.In (hidT s₁.heap H) := fun b o e => base_of (KX b o e) (nK b o e)
  have hM : Mod K mg (hidT s₁.heap H) := ⟨hKb, nsK hns, ⟨mb, nsK hb, hbb⟩, let ⟨mc, h1, h2⟩ := hlim; ⟨mc, nsK h1, h2⟩⟩
  have hCb : CodeHd (hidT s₁.heap H) c Pt := by
    obtain ⟨o, vs, file, tf, flags, tg, inF, text, tt, e1, r1, r2, r3⟩ := hC
    exact ⟨o, vs, file, tf, flags, tg, inF, text, tt, base_of e1 (noH e1 (fun xs n z => by rw [r2] at z; cases z) (neP e1 fun z => by rw [z] at r1; cases r1)), r1, r2, r3⟩
  have hbmb : (hidT s₁.heap H).BuiltinsAt mg Pt := by
    obtain ⟨bm, ob, b1, b2, b3, b4, b5, b6, b7, b8⟩ := hbm
    exact ⟨bm, ob, b1, b2, b3, b4, base_of b5 (noH b5 (fun xs n z => by rw [b8] at z; cases z) b4), b6, b7, b8⟩
  have e0 : Env0 P w K mg (hidT s₁.heap H) callerA [] s₁ H := ⟨rfl, hM, fun b o e => of_hidT e, Nat.le_of_eq (hidT_size _ _), trivial, fun b hb => absurd (show b ∈ ([] : List Addr) from hb) (by simp), hok, .of_eq hg⟩
  refine codeAny_mono ((F _ hKb (nsK hns) hCb hbmb).run callerA [] s₁ H ⟨[.ref aA], []⟩ [.ref aA] [.ref aA] _ _ hr e0 (hbind s₁ [.ref aA] hlen) (.cons rfl .nil) (hsp H0 H _ sH hHP hS)) fun r s' x => ?_
  cases r with
  | error e => exact False.elim x
  | ok fl =>
    cases fl with
    | next => exact False.elim x
    | brk => exact False.elim x
    | cont => exact False.elim x
    | ret u =>
      obtain ⟨v, H', os, bare, un, hok', r', q⟩ := x
      have kept : ∀ b o, b ≠ Pt → s₁.heap.get? b = some o → s'.heap.get? b = some o := fun b o n e => by
        cases q2 : H b with
        | none => exact un.keep b o e q2 (by intro z; exact absurd (show b ∈ ([] : List Addr) from z) (by simp)) (by simp)
        | some u2 =>
          have q3 := q2
          rw [ne0 n] at q3
          rcases hO0 b with z | ⟨ob, u3, z⟩
          · rw [q3] at z
            cases z
          · have z1 : H b = some (.frz ob u3) := sH _ _ z
            have z2 := un.frzs b ob _ z1
            obtain ⟨e1, _⟩ := hok b _ z1
            obtain ⟨e2, _⟩ := hok' b _ z2
            rw [e] at e1
            cases e1
            exact e2
      have KX' : K.In s'.heap := fun b o e => kept b o (fun z => by rw [z, KP] at e; cases e) (KX b o e)
      obtain ⟨more, eT⟩ := un.tbls Pt _ hHP
      have hT' : s'.heap.get? Pt = some (tabObj (#[] ++ more)) := hok' _ _ eT
      obtain ⟨p, rfl, q⟩ := q
      cases r'
      obtain ⟨as, hrd⟩ := reads_list (R := R) (cl := cl) hok' KX' q
      refine ⟨_, as, rfl, hrd, ⟨fun b o e => ?_, fun b o e => ?_⟩, os, bare⟩
      · by_cases z : b = Pt
        · subst z
          rw [hP] at e
          cases e
          exact .inr (.inl ⟨(hC.tab hP).isCodeTable, rfl, #[], more, rfl, hT'⟩)
        · exact .inl (kept b o z e)
      · by_cases z : b = Pt
        · subst z
          exact ⟨_, hT'⟩
        · exact ⟨o, kept b o z e⟩
/-- the row's goal from the promise of its def -/
theorem walk_specT {r : OpenSpec} {k : Nat} {q : Program} {loose : List Str} {XP : (Str → Option Value) → Heap → Prop} {YP : World → Heap → Prop} {d : DefRec} {x : Str} {K : Params → PySem.W.Frag} {ps : List Str} {sp : PySem.W.Frag → Addr → Sp}
    (hwell : r.wellSaid = true) (hdf : d.params.defaults = []) (hlen : 1 = ps.length) (hr : Room k callerA) (hdn : (recsOf q).any (fun d => d.name == x) = true) (hT : ∀ p, noTabs (K p) = true)
    (hY : ∀ (w : World) (h : Heap), YP w h → (K w.params).In h)
    (F : ∀ (w : World) (mg : Str → Option Value) (fa : Addr) (h : Heap), YP w h → (K w.params).In h → h.Ns mainGlobals mg → mg d.name = some (.ref fa) → ∀ (fn : Addr) (oN : Obj) (fdN : FuncData) (c Pt : Addr), mg x = some (.ref fn) → h.get? fn = some oN → oN.data = .func fdN → fdN.code = .ref c →
      ∃ fd : FuncData, (∀ (s : Shared) (us : List Value), us.length = ps.length → BindsTo s fd ⟨us, []⟩ (ps.zip us)) ∧
        ∀ base : Heap, (K w.params).In base → base.Ns mainGlobals mg → CodeHd base c Pt → base.BuiltinsAt mg Pt → FnOk r.prog w (K w.params) mg base CX0 k fa fd ps (sp (K w.params) Pt))
    (hsp : ∀ a : Codec.denoteAll r.args, Codec.withinAll r.args a = true → Codec.app r.args r.asked a = true → ∃ ns ms : List Int, Codec.encAll r.args a = [WData.list (ns.map WData.int)] ∧ ns.length ≤ sizeLine ∧ r.ret.enc (Codec.app r.args r.f a) = WData.list (ms.map WData.int) ∧
      ∀ (K : PySem.W.Frag) (Pt : Addr) (H0 H : Hp) (b : Addr), Same H0 H → H Pt = some (.tbl #[]) → SqL K H0 b (ns.map V.int) → sp K Pt [.ref b] H (fun v H' => ∃ p, v = .ref p ∧ SqL K H' p (ms.map V.int)) fun _ _ _ => False) :
    PySem.W.WalkOS q loose XP YP r d [] (fun f vs => PySem.call f vs) := by
  intro w s_0 s₁ mg mb G Y fa o pm cd doc dV kV ho hd hcd hD hmg hg args vals as hpre hlay hrd hwl hlo
  obtain ⟨a, e1, e2⟩ := PySem.W.os_pre_some hpre
  obtain ⟨e3, hwi⟩ := Codec.encAll_of_decAll r.args args a e1
  subst e3
  have KX := hY w _ Y
  obtain ⟨dn, hdm, hdx⟩ := List.any_eq_true.mp hdn
  have edx : dn.name = x := beq_iff_eq.mp hdx
  obtain ⟨fn, oN, fdN, c, Pt, t1, t2, t3, t4, t5, t6⟩ := G.T.tab dn hdm
  rw [edx] at t1
  obtain ⟨fd, hb, hF⟩ := F w mg fa _ Y KX G.T.g hmg fn oN fdN c Pt t1 t2 t3 t4
  have hC : CodeHd s₁.heap c Pt := CodeHd.of t5 t6
  have hbm : s₁.heap.BuiltinsAt mg Pt := by
    obtain ⟨bm, ob, b1, b2, b3, b4, b5, b6⟩ := G.T.bmain
    refine ⟨bm, ob, b1, b2, fun z => ?_, fun z => ?_, b3, b4, b5, b6⟩
    · obtain ⟨o, es, ep, e, hd, _⟩ := G.T.g
      rw [z, e] at b3
      cases b3
      rw [hd] at b6
      cases b6
    · have e := t6.2
      rw [← z, b3] at e
      cases e
      cases b4
  obtain ⟨ns, ms, en, hnl, er, hs⟩ := hsp a hwi e2
  rw [en] at hwl
  refine PySem.W.enter_call (codeAny_mono (spec_callT (R := []) (cl := classAt s_0.heap) (ms := ms) KX G.T.g G.T.b G.T.builtins G.T.nolimit hg (hT _) hC t6.2 hbm hwl hnl hr hF hb hlen
    (fun H0 H b s0 hP hS => hs (K w.params) Pt H0 H b s0 hP hS)) fun r' s' hq => ?_)
  obtain ⟨u, as', rfl, h1, h2, h3, h4⟩ := hq
  rw [← er] at h1
  exact ⟨.inl ⟨u, _, as', rfl, fun _ => rfl, h1, (OpenSpec.post_iff hwell hwi _ _).mpr rfl, fun z => Bool.noConfusion (show false = true from z)⟩, h2, h3, h4⟩
end Dk
end
section
set_option Elab.async false
set_option linter.all false
set_option maxRecDepth 100000
set_option maxHeartbeats 4000000
namespace Dk
open PySem PySem.Spec PyProof.Rows L2
open PySem.W (CodeHd tabObj)
/-! ### what the top has written -/
theorem len1 {A : Type} {p : List A → Prop} (h : ∀ a, p [a]) (us : List A) (e : us.length = 1) : p us := by
  obtain ⟨a, rfl⟩ := List.length_eq_one_iff.mp e
  exact h a
theorem len2 {A : Type} {p : List A → Prop} (h : ∀ a b, p [a, b]) (us : List A) (e : us.length = 2) : p us := by
  cases us with
  | nil => cases e
  | cons a us => exact len1 (p := fun l => p (a :: l)) (h a) us (Nat.succ.inj e)
theorem len3 {A : Type} {p : List A → Prop} (h : ∀ a b c, p [a, b, c]) (us : List A) (e : us.length = 3) : p us := by
  cases us with
  | nil => cases e
  | cons a us => exact len2 (p := fun l => p (a :: l)) (h a) us (Nat.succ.inj e)
theorem len4 {A : Type} {p : List A → Prop} (h : ∀ a b c d, p [a, b, c, d]) (us : List A) (e : us.length = 4) : p us := by
  cases us with
  | nil => cases e
  | cons a us => exact len3 (p := fun l => p (a :: l)) (h a) us (Nat.succ.inj e)
structure FnIn (K : PySem.W.Frag) (x qual : Str) (st : Stmt) (f : Addr) : Prop where
  lk : ∃ (oc : Value) (od : Option Addr) (kV doc pm : Value) (an : Option Addr) (cdv ct : Value) (osl : Array (Option Value)),
    K.lookup f = some ⟨oc, od, .func (PySem.W.fnOf x qual (defArgs st) (defBody st) (defScope st) .none kV doc pm an cdv ct), osl⟩ ∧ PySem.W.codeIn K cdv qual = true
  kp : PySem.W.keepIn K (.ref f) = true
theorem FnIn.of {K : PySem.W.Frag} {x qual : Str} {st : Stmt} {f : Addr} {oc : Value} {od : Option Addr} {kV doc pm : Value} {an : Option Addr} {cdv ct : Value} {osl : Array (Option Value)}
    (h1 : K.lookup f = some ⟨oc, od, .func (PySem.W.fnOf x qual (defArgs st) (defBody st) (defScope st) .none kV doc pm an cdv ct), osl⟩) (h2 : PySem.W.codeIn K cdv qual = true) (h3 : PySem.W.keepIn K (.ref f) = true) : FnIn K x qual st f :=
  ⟨⟨oc, od, kV, doc, pm, an, cdv, ct, osl, h1, h2⟩, h3⟩
theorem FnIn.fn {K : PySem.W.Frag} {x qual : Str} {st : Stmt} {f : Addr} (N : FnIn K x qual st f) : ∃ fd, Fun K x qual st f fd := by
  obtain ⟨oc, od, kV, doc, pm, an, cdv, ct, osl, h1, h2⟩ := N.lk
  exact ⟨_, ⟨oc, od, kV, doc, pm, an, cdv, ct, osl, rfl, h1, h2⟩, N.kp⟩
noncomputable def FnG (K : PySem.W.Frag) (x : Str) (st : Stmt) : Prop := ∃ f, PySem.W.nsIn K mainGlobals x = some (some (.ref f)) ∧ FnIn K x x st f
noncomputable def MtG (K : PySem.W.Frag) (C : Addr) (m qual : Str) (st : Stmt) : Prop := ∃ f, PySem.W.findIn K (.ref C) m = some (some (.ref f)) ∧ PySem.W.isFn K (.ref f) = true ∧ FnIn K m qual st f
noncomputable def CsG (K : PySem.W.Frag) (x : Str) (i : Int) : Prop := ∃ t, PySem.W.nsIn K mainGlobals x = some (some (.int i t))
structure ClG (K : PySem.W.Frag) (C : Addr) : Prop where
  pg : PySem.W.plainGet K C Str.empty = true
  hd : PySem.W.hasDictIn K C = true
  po : PySem.W.plainOver K C = true
  sa : PySem.W.findIn K (.ref C) "__setattr__" = some (some (.builtin "object.__setattr__"))
  mks : PySem.W.makesIn K C = true
  kc : PySem.W.keepIn K (.ref C) = true
theorem ClG.cls {K : PySem.W.Frag} {C : Addr} (c : ClG K C) : Cls K C := ⟨c.pg, c.hd, c.po, c.sa⟩
section
variable {P : Program} {w : World} {K : PySem.W.Frag} {h : Heap} {mg : Str → Option Value} {base : Heap}
theorem FnG.of {x : Str} {st : Stmt} {k : Nat} {ps : List Str} {sp : Sp} (X : K.In h) (G : h.Ns mainGlobals mg) (N : FnG K x st) (hok : ∀ f fd, Fun K x x st f fd → FnOk P w K mg base CX0 k f fd ps sp)
    (hb : ∀ (kV doc pm : Value) (an : Option Addr) (cdv ct : Value) (us : List Value), us.length = ps.length → bindArgs (PySem.W.fnOf x x (defArgs st) (defBody st) (defScope st) .none kV doc pm an cdv ct) ⟨us, []⟩ = pure (ps.zip us)) : Def P w K mg base x k ps sp := by
  obtain ⟨f, a, N⟩ := N
  obtain ⟨fd, F⟩ := N.fn
  exact ⟨f, fd, hok f fd F, PySem.W.mg_of X G a, N.kp, F.binds hb⟩
theorem MtG.of {C : Addr} {m qual : Str} {st : Stmt} {k : Nat} {ps : List Str} {sp : Sp} (N : MtG K C m qual st) (hok : ∀ f fd, Fun K m qual st f fd → FnOk P w K mg base CX0 k f fd ps sp)
    (hb : ∀ (kV doc pm : Value) (an : Option Addr) (cdv ct : Value) (us : List Value), us.length = ps.length → bindArgs (PySem.W.fnOf m qual (defArgs st) (defBody st) (defScope st) .none kV doc pm an cdv ct) ⟨us, []⟩ = pure (ps.zip us)) : MDef P w K mg base C m k ps sp := by
  obtain ⟨f, a, i, N⟩ := N
  obtain ⟨fd, F⟩ := N.fn
  exact ⟨f, fd, hok f fd F, ⟨a, i, N.kp⟩, F.binds hb⟩
theorem MtG.mk {C : Addr} {x qual : Str} {st : Stmt} {ps : List Str} {sp : Sp} (X : K.In h) (G : h.Ns mainGlobals mg) (c : ClG K C) (a : PySem.W.nsIn K mainGlobals x = some (some (.ref C))) (N : MtG K C "__init__" qual st) (hok : ∀ f fd, Fun K "__init__" qual st f fd → FnOk P w K mg base CX0 1 f fd ps sp)
    (hb : ∀ (kV doc pm : Value) (an : Option Addr) (cdv ct : Value) (us : List Value), us.length = ps.length → bindArgs (PySem.W.fnOf "__init__" qual (defArgs st) (defBody st) (defScope st) .none kV doc pm an cdv ct) ⟨us, []⟩ = pure (ps.zip us)) : CMk P w K mg base x C ps sp := by
  obtain ⟨f, b, i, N⟩ := N
  obtain ⟨fd, F⟩ := N.fn
  exact ⟨f, fd, ⟨c.mks, b, i, c.kc⟩, hok f fd F, PySem.W.mg_of X G a, F.binds hb⟩
theorem CsG.of {x : Str} {i : Int} (X : K.In h) (G : h.Ns mainGlobals mg) (N : CsG K x i) : Cst mg x i := by
  obtain ⟨t, e⟩ := N
  exact ⟨t, PySem.W.mg_of X G e⟩

theorem all_mk {fa fn CK CC c Pt : Addr} {oN : Obj} {fdN : FuncData} (X : K.In h) (G : h.Ns mainGlobals mg) (hfa : mg "answers" = some (.ref fa)) (t1 : mg "nearest_ring" = some (.ref fn)) (t2 : h.get? fn = some oN) (t3 : oN.data = .func fdN) (t4 : fdN.code = .ref c)
    (aK : PySem.W.nsIn K mainGlobals "KeyRing" = some (some (.ref CK))) (aC : PySem.W.nsIn K mainGlobals "CallReader" = some (some (.ref CC)))
    (g_felt_towards : FnG K "felt_towards" (top 3))
    (g_all_felt_towards : FnG K "all_felt_towards" (top 4))
    (g_last_places : FnG K "last_places" (top 5))
    (g_is_sure : FnG K "is_sure" (top 6))
    (g_least_sure : FnG K "least_sure" (top 7))
    (g_turn_by : FnG K "turn_by" (top 9))
    (g_turn_over_by : FnG K "turn_over_by" (top 10))
    (g_all_turns : FnG K "all_turns" (top 11))
    (g_turned : FnG K "turned" (top 12))
    (g_shows_nothing : FnG K "shows_nothing" (top 13))
    (g_silent_turns : FnG K "silent_turns" (top 14))
    (g_silent_numbers : FnG K "silent_numbers" (top 15))
    (g_reached_places : FnG K "reached_places" (top 16))
    (g_alike_places : FnG K "alike_places" (top 17))
    (g_told_places : FnG K "told_places" (top 18))
    (g_all_looks : FnG K "all_looks" (top 19))
    (g_form_of : FnG K "form_of" (top 20))
    (g_all_rings : FnG K "all_rings" (top 22))
    (g_moving_turns : FnG K "moving_turns" (top 23))
    (g_is_good : FnG K "is_good" (top 24))
    (g_good_rings : FnG K "good_rings" (top 25))
    (g_fewest_shapes : FnG K "fewest_shapes" (top 26))
    (g_is_its_form : FnG K "is_its_form" (top 27))
    (g_count_of_forms : FnG K "count_of_forms" (top 28))
    (g_differences : FnG K "differences" (top 29))
    (g_nearest_ring : FnG K "nearest_ring" (top 30))
    (g_are_heads : FnG K "are_heads" (top 51))
    (g_may_be_ring : FnG K "may_be_ring" (top 52))
    (g_may_be_felt : FnG K "may_be_felt" (top 53))
    (g_may_be_shapes : FnG K "may_be_shapes" (top 54))
    (g_counted : FnG K "counted" (top 55))
    (g_answer_next : FnG K "answer_next" (top 58))
    (g_answers : FnG K "answers" (top 59))
    (g_has_too_many : MtG K CK "has_too_many" "KeyRing.has_too_many" (inClass (top 56) 9))
    (g_good_ones : MtG K CK "good_ones" "KeyRing.good_ones" (inClass (top 56) 10))
    (g_ring : MtG K CK "ring" "KeyRing.ring" (inClass (top 56) 1))
    (g_told : MtG K CK "told" "KeyRing.told" (inClass (top 56) 2))
    (g_alike : MtG K CK "alike" "KeyRing.alike" (inClass (top 56) 3))
    (g_turns : MtG K CK "turns" "KeyRing.turns" (inClass (top 56) 4))
    (g_looks : MtG K CK "looks" "KeyRing.looks" (inClass (top 56) 5))
    (g_form : MtG K CK "form" "KeyRing.form" (inClass (top 56) 6))
    (g_felt : MtG K CK "felt" "KeyRing.felt" (inClass (top 56) 7))
    (g_sure : MtG K CK "sure" "KeyRing.sure" (inClass (top 56) 8))
    (g_fewest : MtG K CK "fewest" "KeyRing.fewest" (inClass (top 56) 11))
    (g_ways : MtG K CK "ways" "KeyRing.ways" (inClass (top 56) 12))
    (g_change : MtG K CK "change" "KeyRing.change" (inClass (top 56) 13))
    (g_has_more : MtG K CC "has_more" "CallReader.has_more" (inClass (top 57) 1))
    (g_take_number : MtG K CC "take_number" "CallReader.take_number" (inClass (top 57) 2))
    (g_take_row : MtG K CC "take_row" "CallReader.take_row" (inClass (top 57) 3))
    (g_kinit : MtG K CK "__init__" "KeyRing.__init__" (inClass (top 56) 0))
    (g_cinit : MtG K CC "__init__" "CallReader.__init__" (inClass (top 57) 0))
    (cK : ClG K CK) (cC : ClG K CC)
    (n_over : NoAttr K CK "over") (n_heads : NoAttr K CK "heads") (n_calls : NoAttr K CC "calls") (n_position : NoAttr K CC "position")
    (c_RISING : CsG K "RISING" (1))
    (c_FALLING : CsG K "FALLING" (-1))
    (c_RING : CsG K "RING" (0))
    (c_TOLD : CsG K "TOLD" (1))
    (c_ALIKE : CsG K "ALIKE" (2))
    (c_TURNS : CsG K "TURNS" (3))
    (c_LOOKS : CsG K "LOOKS" (4))
    (c_FORM : CsG K "FORM" (5))
    (c_FELT : CsG K "FELT" (6))
    (c_SURE : CsG K "SURE" (7))
    (c_FEWEST : CsG K "FEWEST" (8))
    (c_WAYS : CsG K "WAYS" (9))
    (c_CHANGE : CsG K "CHANGE" (10))
    (c_REFUSED : CsG K "REFUSED" (-1))
    (c_NONE_SUCH : CsG K "NONE_SUCH" (-6))
    (c_TOO_MANY_KEYS : CsG K "TOO_MANY_KEYS" (-7))
    (c_MOST_KEYS : CsG K "MOST_KEYS" (9))
    (c_MOST_KEYS_TO_SHAPE : CsG K "MOST_KEYS_TO_SHAPE" (8))
    (c_MOST_SHAPES : CsG K "MOST_SHAPES" (3))
    (c_MOST_FELT : CsG K "MOST_FELT" (20))
    (c_HIGHEST_HEAD : CsG K "HIGHEST_HEAD" (3))
    (z_range : PySem.W.nsIn K mainGlobals "range" = some none)
    (z_len : PySem.W.nsIn K mainGlobals "len" = some none)
    (z_list : PySem.W.nsIn K mainGlobals "list" = some none)
    (z_enumerate : PySem.W.nsIn K mainGlobals "enumerate" = some none)
    (z_min : PySem.W.nsIn K mainGlobals "min" = some none)
    (z_all : PySem.W.nsIn K mainGlobals "all" = some none) :
    ∃ fd : FuncData, (∀ (s : Shared) (us : List Value), us.length = (["calls"] : List Str).length → BindsTo s fd ⟨us, []⟩ ((["calls"] : List Str).zip us)) ∧ ∀ base : Heap, K.In base → base.Ns mainGlobals mg → CodeHd base c Pt → base.BuiltinsAt mg Pt → FnOk P w K mg base CX0 8 fa fd ["calls"] (spAns K Pt) := by
  have E1 : Env1 mg := ⟨PySem.W.mg_none_of X G z_range, PySem.W.mg_none_of X G z_len, PySem.W.mg_none_of X G z_list, PySem.W.mg_none_of X G z_enumerate, PySem.W.mg_none_of X G z_min, PySem.W.mg_none_of X G z_all⟩
  have k_RISING := c_RISING.of X G
  have k_FALLING := c_FALLING.of X G
  have k_RING := c_RING.of X G
  have k_TOLD := c_TOLD.of X G
  have k_ALIKE := c_ALIKE.of X G
  have k_TURNS := c_TURNS.of X G
  have k_LOOKS := c_LOOKS.of X G
  have k_FORM := c_FORM.of X G
  have k_FELT := c_FELT.of X G
  have k_SURE := c_SURE.of X G
  have k_FEWEST := c_FEWEST.of X G
  have k_WAYS := c_WAYS.of X G
  have k_CHANGE := c_CHANGE.of X G
  have k_REFUSED := c_REFUSED.of X G
  have k_NONE_SUCH := c_NONE_SUCH.of X G
  have k_TOO_MANY_KEYS := c_TOO_MANY_KEYS.of X G
  have k_MOST_KEYS := c_MOST_KEYS.of X G
  have k_MOST_KEYS_TO_SHAPE := c_MOST_KEYS_TO_SHAPE.of X G
  have k_MOST_SHAPES := c_MOST_SHAPES.of X G
  have k_MOST_FELT := c_MOST_FELT.of X G
  have k_HIGHEST_HEAD := c_HIGHEST_HEAD.of X G
  have tk : TK K CK := ⟨cK.cls, n_over, n_heads⟩
  have tc : TC K CC := ⟨cC.cls, n_calls, n_position⟩
  obtain ⟨f0, a0, N0⟩ := g_answers
  have e0 := hfa.symm.trans (PySem.W.mg_of X G a0)
  cases e0
  obtain ⟨fd0, F0⟩ := N0.fn
  refine ⟨fd0, fun s us hu => ?_, fun base hK hN hC hB => ?_⟩
  · obtain ⟨oc, od, kV, doc, pm, an, cdv, ct, osl, rfl, _, _⟩ := F0.ex
    exact len1 (p := fun us => BindsTo s _ ⟨us, []⟩ (((["calls"] : List Str)).zip us)) (fun _ => .of_eq rfl) us hu
  have d_felt_towards : Def P w K mg base "felt_towards" 1 ["heads", "last", "step", "many"] (spFeltT K) := g_felt_towards.of X G (fun f fd F => ok_feltT F E1) (fun _ _ _ _ _ _ => len4 fun _ _ _ _ => rfl)
  have d_all_felt_towards : Def P w K mg base "all_felt_towards" 2 ["heads", "over", "last", "many"] (spAllFelt K) := g_all_felt_towards.of X G (fun f fd F => ok_allFelt F E1 k_RISING k_FALLING d_felt_towards) (fun _ _ _ _ _ _ => len4 fun _ _ _ _ => rfl)
  have d_last_places : Def P w K mg base "last_places" 3 ["heads", "over", "felt"] (spLastP K) := g_last_places.of X G (fun f fd F => ok_lastP F E1 d_all_felt_towards) (fun _ _ _ _ _ _ => len3 fun _ _ _ => rfl)
  have d_is_sure : Def P w K mg base "is_sure" 4 ["heads", "over", "many"] (spIsSure K) := g_is_sure.of X G (fun f fd F => ok_isSure F E1 d_all_felt_towards d_last_places) (fun _ _ _ _ _ _ => len3 fun _ _ _ => rfl)
  have d_least_sure : Def P w K mg base "least_sure" 5 ["heads", "over"] (spLeast K) := g_least_sure.of X G (fun f fd F => ok_least F E1 d_is_sure) (fun _ _ _ _ _ _ => len2 fun _ _ => rfl)
  have d_turn_by : Def P w K mg base "turn_by" 1 ["many", "step"] (spTurnBy K) := g_turn_by.of X G (fun f fd F => ok_turn_by F E1) (fun _ _ _ _ _ _ => len2 fun _ _ => rfl)
  have d_turn_over_by : Def P w K mg base "turn_over_by" 1 ["many", "step"] (spTurnOver K) := g_turn_over_by.of X G (fun f fd F => ok_turn_over F E1) (fun _ _ _ _ _ _ => len2 fun _ _ => rfl)
  have d_all_turns : Def P w K mg base "all_turns" 2 ["many", "over"] (spAllTurns K) := g_all_turns.of X G (fun f fd F => ok_all_turns F E1 d_turn_by d_turn_over_by) (fun _ _ _ _ _ _ => len2 fun _ _ => rfl)
  have d_turned : Def P w K mg base "turned" 1 ["heads", "turn"] (spTurned K) := g_turned.of X G (fun f fd F => ok_turned F E1) (fun _ _ _ _ _ _ => len2 fun _ _ => rfl)
  have d_shows_nothing : Def P w K mg base "shows_nothing" 2 ["heads", "turn"] (spShows K) := g_shows_nothing.of X G (fun f fd F => ok_shows F d_turned) (fun _ _ _ _ _ _ => len2 fun _ _ => rfl)
  have d_silent_turns : Def P w K mg base "silent_turns" 3 ["heads", "over"] (spSilent K) := g_silent_turns.of X G (fun f fd F => ok_silent F E1 d_all_turns d_shows_nothing) (fun _ _ _ _ _ _ => len2 fun _ _ => rfl)
  have d_silent_numbers : Def P w K mg base "silent_numbers" 3 ["heads", "over"] (spSilentN K) := g_silent_numbers.of X G (fun f fd F => ok_silentN F E1 d_all_turns d_shows_nothing) (fun _ _ _ _ _ _ => len2 fun _ _ => rfl)
  have d_reached_places : Def P w K mg base "reached_places" 1 ["turns", "place"] (spReached K) := g_reached_places.of X G (fun f fd F => ok_reached F E1) (fun _ _ _ _ _ _ => len2 fun _ _ => rfl)
  have d_alike_places : Def P w K mg base "alike_places" 4 ["heads", "over", "place"] (spAlike K) := g_alike_places.of X G (fun f fd F => ok_alike F d_silent_turns d_reached_places) (fun _ _ _ _ _ _ => len3 fun _ _ _ => rfl)
  have d_told_places : Def P w K mg base "told_places" 4 ["heads", "over"] (spTold K) := g_told_places.of X G (fun f fd F => ok_told F E1 d_silent_turns d_reached_places) (fun _ _ _ _ _ _ => len2 fun _ _ => rfl)
  have d_all_looks : Def P w K mg base "all_looks" 3 ["heads", "over"] (spLooks K) := g_all_looks.of X G (fun f fd F => ok_looks F E1 d_all_turns d_turned) (fun _ _ _ _ _ _ => len2 fun _ _ => rfl)
  have d_form_of : Def P w K mg base "form_of" 4 ["heads", "over"] (spForm K) := g_form_of.of X G (fun f fd F => ok_form F E1 d_all_looks) (fun _ _ _ _ _ _ => len2 fun _ _ => rfl)
  have d_all_rings : Def P w K mg base "all_rings" 1 ["many", "shapes"] (spAllRings K) := g_all_rings.of X G (fun f fd F => ok_allRings F E1) (fun _ _ _ _ _ _ => len2 fun _ _ => rfl)
  have d_moving_turns : Def P w K mg base "moving_turns" 3 ["many", "over"] (spMoving K) := g_moving_turns.of X G (fun f fd F => ok_moving F E1 d_all_turns) (fun _ _ _ _ _ _ => len2 fun _ _ => rfl)
  have d_is_good : Def P w K mg base "is_good" 3 ["heads", "moving"] (spIsGood K) := g_is_good.of X G (fun f fd F => ok_isGood F d_shows_nothing) (fun _ _ _ _ _ _ => len2 fun _ _ => rfl)
  have d_good_rings : Def P w K mg base "good_rings" 4 ["many", "over", "shapes"] (spGoodRings K) := g_good_rings.of X G (fun f fd F => ok_goodRings F d_moving_turns d_all_rings d_is_good) (fun _ _ _ _ _ _ => len3 fun _ _ _ => rfl)
  have d_fewest_shapes : Def P w K mg base "fewest_shapes" 5 ["many", "over"] (spFewest K) := g_fewest_shapes.of X G (fun f fd F => ok_fewest F E1 d_good_rings) (fun _ _ _ _ _ _ => len2 fun _ _ => rfl)
  have d_is_its_form : Def P w K mg base "is_its_form" 2 ["heads", "turns"] (spIsForm K) := g_is_its_form.of X G (fun f fd F => ok_isForm F E1 d_turned) (fun _ _ _ _ _ _ => len2 fun _ _ => rfl)
  have d_count_of_forms : Def P w K mg base "count_of_forms" 3 ["rings", "many", "over"] (spCount K) := g_count_of_forms.of X G (fun f fd F => ok_count F E1 d_all_turns d_is_its_form) (fun _ _ _ _ _ _ => len3 fun _ _ _ => rfl)
  have d_differences : Def P w K mg base "differences" 1 ["heads", "others"] (spDiffs K) := g_differences.of X G (fun f fd F => ok_diffs F E1) (fun _ _ _ _ _ _ => len2 fun _ _ => rfl)
  have d_nearest_ring : Def P w K mg base "nearest_ring" 5 ["heads", "rings"] (spNearest K Pt) := by
    obtain ⟨f1, a1, N1⟩ := g_nearest_ring
    have e1 := t1.symm.trans (PySem.W.mg_of X G a1)
    cases e1
    obtain ⟨oc, od, kV, doc, pm, an, cdv, ct, osl, h1, h2⟩ := N1.lk
    have e2 := X _ _ h1
    rw [t2] at e2
    cases e2
    cases t3
    have e3 : cdv = .ref c := t4
    subst e3
    exact ⟨fn, _, ok_nearest h1 h2 E1 hC hB d_differences, t1, N1.kp, Binds.all (len2 fun _ _ => rfl)⟩
  have d_are_heads : Def P w K mg base "are_heads" 1 ["numbers"] (spAreHeads K) := g_are_heads.of X G (fun f fd F => ok_areHeads F E1 k_HIGHEST_HEAD) (fun _ _ _ _ _ _ => len1 fun _ => rfl)
  have d_may_be_ring : Def P w K mg base "may_be_ring" 2 ["over", "heads"] (spMayRing K) := g_may_be_ring.of X G (fun f fd F => ok_mayRing F E1 k_MOST_KEYS d_are_heads) (fun _ _ _ _ _ _ => len2 fun _ _ => rfl)
  have d_may_be_felt : Def P w K mg base "may_be_felt" 2 ["heads"] (spMayFelt K) := g_may_be_felt.of X G (fun f fd F => ok_mayFelt F E1 k_MOST_FELT d_are_heads) (fun _ _ _ _ _ _ => len1 fun _ => rfl)
  have d_may_be_shapes : Def P w K mg base "may_be_shapes" 1 ["k"] spMayShapes := g_may_be_shapes.of X G (fun f fd F => ok_mayShapes F k_MOST_SHAPES) (fun _ _ _ _ _ _ => len1 fun _ => rfl)
  have d_counted : Def P w K mg base "counted" 1 ["numbers"] spCounted := g_counted.of X G (fun f fd F => ok_counted F E1) (fun _ _ _ _ _ _ => len1 fun _ => rfl)
  have m_has_too_many : MDef P w K mg base CK "has_too_many" 1 ["self"] (spMany K CK) := g_has_too_many.of (fun f fd F => ok_kmany F tk E1 k_MOST_KEYS_TO_SHAPE) (fun _ _ _ _ _ _ => len1 fun _ => rfl)
  have m_good_ones : MDef P w K mg base CK "good_ones" 5 ["self", "k"] (spGoodOnes K CK) := g_good_ones.of (fun f fd F => ok_kgood F tk E1 d_good_rings) (fun _ _ _ _ _ _ => len2 fun _ _ => rfl)
  have m_ring : MDef P w K mg base CK "ring" 5 ["self", "over", "heads"] (spKRing K CK) := g_ring.of (fun f fd F => ok_kring F tk E1 k_REFUSED d_may_be_ring d_told_places) (fun _ _ _ _ _ _ => len3 fun _ _ _ => rfl)
  have m_told : MDef P w K mg base CK "told" 5 ["self"] (spM0 K CK .told) := g_told.of (fun f fd F => ok_ktold F tk d_counted d_told_places) (fun _ _ _ _ _ _ => len1 fun _ => rfl)
  have m_alike : MDef P w K mg base CK "alike" 5 ["self", "place"] (spM1 K CK .alike) := g_alike.of (fun f fd F => ok_kalike F tk E1 k_REFUSED d_counted d_alike_places) (fun _ _ _ _ _ _ => len2 fun _ _ => rfl)
  have m_turns : MDef P w K mg base CK "turns" 4 ["self"] (spM0 K CK .turns) := g_turns.of (fun f fd F => ok_kturns F tk d_counted d_silent_numbers) (fun _ _ _ _ _ _ => len1 fun _ => rfl)
  have m_looks : MDef P w K mg base CK "looks" 4 ["self", "heads"] (spMR K CK .looks) := g_looks.of (fun f fd F => ok_klooks F tk E1 k_REFUSED d_are_heads d_all_looks) (fun _ _ _ _ _ _ => len2 fun _ _ => rfl)
  have m_form : MDef P w K mg base CK "form" 5 ["self"] (spM0 K CK .form) := g_form.of (fun f fd F => ok_kform F tk d_counted d_form_of) (fun _ _ _ _ _ _ => len1 fun _ => rfl)
  have m_felt : MDef P w K mg base CK "felt" 4 ["self", "heads"] (spMR K CK .felt) := g_felt.of (fun f fd F => ok_kfelt F tk k_REFUSED d_counted d_may_be_felt d_last_places) (fun _ _ _ _ _ _ => len2 fun _ _ => rfl)
  have m_sure : MDef P w K mg base CK "sure" 6 ["self"] (spM0 K CK .sure) := g_sure.of (fun f fd F => ok_ksure F tk k_NONE_SUCH d_least_sure) (fun _ _ _ _ _ _ => len1 fun _ => rfl)
  have m_fewest : MDef P w K mg base CK "fewest" 6 ["self"] (spM0 K CK .fewest) := g_fewest.of (fun f fd F => ok_kfewest F tk E1 k_TOO_MANY_KEYS m_has_too_many m_good_ones d_fewest_shapes) (fun _ _ _ _ _ _ => len1 fun _ => rfl)
  have m_ways : MDef P w K mg base CK "ways" 6 ["self", "k"] (spM1 K CK .ways) := g_ways.of (fun f fd F => ok_kways F tk E1 k_TOO_MANY_KEYS k_REFUSED m_has_too_many m_good_ones d_may_be_shapes d_count_of_forms) (fun _ _ _ _ _ _ => len2 fun _ _ => rfl)
  have m_change : MDef P w K mg base CK "change" 6 ["self", "k"] (spKChange K CK Pt) := g_change.of (fun f fd F => ok_kchange F tk E1 k_TOO_MANY_KEYS k_REFUSED k_NONE_SUCH m_has_too_many m_good_ones d_may_be_shapes d_nearest_ring d_differences) (fun _ _ _ _ _ _ => len2 fun _ _ => rfl)
  have m_has_more : MDef P w K mg base CC "has_more" 1 ["self"] (spMore K CC) := g_has_more.of (fun f fd F => ok_more F tc E1) (fun _ _ _ _ _ _ => len1 fun _ => rfl)
  have m_take_number : MDef P w K mg base CC "take_number" 1 ["self"] (spNum K CC) := g_take_number.of (fun f fd F => ok_num F tc) (fun _ _ _ _ _ _ => len1 fun _ => rfl)
  have m_take_row : MDef P w K mg base CC "take_row" 2 ["self"] (spRow K CC) := g_take_row.of (fun f fd F => ok_row F tc m_take_number) (fun _ _ _ _ _ _ => len1 fun _ => rfl)
  have i_K : CMk P w K mg base "KeyRing" CK ["self"] (spKInit K CK) := g_kinit.mk X G cK aK (fun f fd F => ok_kinit F tk) (fun _ _ _ _ _ _ => len1 fun _ => rfl)
  have i_C : CMk P w K mg base "CallReader" CC ["self", "calls"] (spCInit CC) := g_cinit.mk X G cC aC (fun f fd F => ok_cinit F tc) (fun _ _ _ _ _ _ => len2 fun _ _ => rfl)
  have d_answer_next : Def P w K mg base "answer_next" 7 ["keyring", "reader"] (spNext K CK CC Pt) := g_answer_next.of X G (fun f fd F => ok_next F tk tc ⟨k_RING, k_TOLD, k_ALIKE, k_TURNS, k_LOOKS, k_FORM, k_FELT, k_SURE, k_FEWEST, k_WAYS, k_CHANGE⟩ ⟨m_ring, m_told, m_alike, m_turns, m_looks, m_form, m_felt, m_sure, m_fewest, m_ways, m_change, m_take_number, m_take_row⟩) (fun _ _ _ _ _ _ => len2 fun _ _ => rfl)
  exact ok_ans F0 tk tc i_K i_C m_has_more d_counted d_answer_next
end
end Dk
end
set_option Elab.async false
set_option linter.all false
open PySem PySem.W PyProof.Rows
set_option maxRecDepth 100000 in
set_option maxHeartbeats 0 in
theorem PySem.Challenge.cw_darkkeys_s01_answers_holds : PySem.Challenge.rw_darkkeys_s01_answers.Holds := by
  w_on; k_headS; (case hw => exact ⟨[.list [.int 1]], by decide +kernel, by decide +kernel⟩)
  k_fillS
  refine Dk.walk_specT (r := PySem.Challenge.rw_darkkeys_s01_answers) (k := 8) (ps := ["calls"]) (x := "nearest_ring") (sp := Dk.spAns) (by decide +kernel) rfl rfl ⟨rfl, by decide, by decide⟩ ?hdn (fun p => by kernel_rfl) (fun w h Y => PySem.W.kIn_of Y) ?F ?S
  case hdn => kernel_rfl
  case F =>
    intro w mg fa h Y KX G hmg fn oN fdN c Pt t1 t2 t3 t4
    refine' Dk.all_mk KX G hmg t1 t2 t3 t4 ?aK ?aC ?g_felt_towards ?g_all_felt_towards ?g_last_places ?g_is_sure ?g_least_sure ?g_turn_by ?g_turn_over_by ?g_all_turns ?g_turned ?g_shows_nothing ?g_silent_turns ?g_silent_numbers ?g_reached_places ?g_alike_places ?g_told_places ?g_all_looks ?g_form_of ?g_all_rings ?g_moving_turns ?g_is_good ?g_good_rings ?g_fewest_shapes ?g_is_its_form ?g_count_of_forms ?g_differences ?g_nearest_ring ?g_are_heads ?g_may_be_ring ?g_may_be_felt ?g_may_be_shapes ?g_counted ?g_answer_next ?g_answers ?g_has_too_many ?g_good_ones ?g_ring ?g_told ?g_alike ?g_turns ?g_looks ?g_form ?g_felt ?g_sure ?g_fewest ?g_ways ?g_change ?g_has_more ?g_take_number ?g_take_row ?g_kinit ?g_cinit ?cK ?cC ?n_over ?n_heads ?n_calls ?n_position ?c_RISING ?c_FALLING ?c_RING ?c_TOLD ?c_ALIKE ?c_TURNS ?c_LOOKS ?c_FORM ?c_FELT ?c_SURE ?c_FEWEST ?c_WAYS ?c_CHANGE ?c_REFUSED ?c_NONE_SUCH ?c_TOO_MANY_KEYS ?c_MOST_KEYS ?c_MOST_KEYS_TO_SHAPE ?c_MOST_SHAPES ?c_MOST_FELT ?c_HIGHEST_HEAD ?z_range ?z_len ?z_list ?z_enumerate ?z_min ?z_all
    (case aK => k_is)
    (case aC => k_is)
    (case g_felt_towards => exact ⟨_, by k_is, Dk.FnIn.of (by k_is) (by k_is) (by k_is)⟩)
    (case g_all_felt_towards => exact ⟨_, by k_is, Dk.FnIn.of (by k_is) (by k_is) (by k_is)⟩)
    (case g_last_places => exact ⟨_, by k_is, Dk.FnIn.of (by k_is) (by k_is) (by k_is)⟩)
    (case g_is_sure => exact ⟨_, by k_is, Dk.FnIn.of (by k_is) (by k_is) (by k_is)⟩)
    (case g_least_sure => exact ⟨_, by k_is, Dk.FnIn.of (by k_is) (by k_is) (by k_is)⟩)
    (case g_turn_by => exact ⟨_, by k_is, Dk.FnIn.of (by k_is) (by k_is) (by k_is)⟩)
    (case g_turn_over_by => exact ⟨_, by k_is, Dk.FnIn.of (by k_is) (by k_is) (by k_is)⟩)
    (case g_all_turns => exact ⟨_, by k_is, Dk.FnIn.of (by k_is) (by k_is) (by k_is)⟩)
    (case g_turned => exact ⟨_, by k_is, Dk.FnIn.of (by k_is) (by k_is) (by k_is)⟩)
    (case g_shows_nothing => exact ⟨_, by k_is, Dk.FnIn.of (by k_is) (by k_is) (by k_is)⟩)
    (case g_silent_turns => exact ⟨_, by k_is, Dk.FnIn.of (by k_is) (by k_is) (by k_is)⟩)
    (case g_silent_numbers => exact ⟨_, by k_is, Dk.FnIn.of (by k_is) (by k_is) (by k_is)⟩)
    (case g_reached_places => exact ⟨_, by k_is, Dk.FnIn.of (by k_is) (by k_is) (by k_is)⟩)
    (case g_alike_places => exact ⟨_, by k_is, Dk.FnIn.of (by k_is) (by k_is) (by k_is)⟩)
    (case g_told_places => exact ⟨_, by k_is, Dk.FnIn.of (by k_is) (by k_is) (by k_is)⟩)
    (case g_all_looks => exact ⟨_, by k_is, Dk.FnIn.of (by k_is) (by k_is) (by k_is)⟩)
    (case g_form_of => exact ⟨_, by k_is, Dk.FnIn.of (by k_is) (by k_is) (by k_is)⟩)
    (case g_all_rings => exact ⟨_, by k_is, Dk.FnIn.of (by k_is) (by k_is) (by k_is)⟩)
    (case g_moving_turns => exact ⟨_, by k_is, Dk.FnIn.of (by k_is) (by k_is) (by k_is)⟩)
    (case g_is_good => exact ⟨_, by k_is, Dk.FnIn.of (by k_is) (by k_is) (by k_is)⟩)
    (case g_good_rings => exact ⟨_, by k_is, Dk.FnIn.of (by k_is) (by k_is) (by k_is)⟩)
    (case g_fewest_shapes => exact ⟨_, by k_is, Dk.FnIn.of (by k_is) (by k_is) (by k_is)⟩)
    (case g_is_its_form => exact ⟨_, by k_is, Dk.FnIn.of (by k_is) (by k_is) (by k_is)⟩)
    (case g_count_of_forms => exact ⟨_, by k_is, Dk.FnIn.of (by k_is) (by k_is) (by k_is)⟩)
    (case g_differences => exact ⟨_, by k_is, Dk.FnIn.of (by k_is) (by k_is) (by k_is)⟩)
    (case g_nearest_ring => exact ⟨_, by k_is, Dk.FnIn.of (by k_is) (by k_is) (by k_is)⟩)
    (case g_are_heads => exact ⟨_, by k_is, Dk.FnIn.of (by k_is) (by k_is) (by k_is)⟩)
    (case g_may_be_ring => exact ⟨_, by k_is, Dk.FnIn.of (by k_is) (by k_is) (by k_is)⟩)
    (case g_may_be_felt => exact ⟨_, by k_is, Dk.FnIn.of (by k_is) (by k_is) (by k_is)⟩)
    (case g_may_be_shapes => exact ⟨_, by k_is, Dk.FnIn.of (by k_is) (by k_is) (by k_is)⟩)
    (case g_counted => exact ⟨_, by k_is, Dk.FnIn.of (by k_is) (by k_is) (by k_is)⟩)
    (case g_answer_next => exact ⟨_, by k_is, Dk.FnIn.of (by k_is) (by k_is) (by k_is)⟩)
    (case g_answers => exact ⟨_, by k_is, Dk.FnIn.of (by k_is) (by k_is) (by k_is)⟩)
    (case g_has_too_many => exact ⟨_, by k_is, by k_is, Dk.FnIn.of (by k_is) (by k_is) (by k_is)⟩)
    (case g_good_ones => exact ⟨_, by k_is, by k_is, Dk.FnIn.of (by k_is) (by k_is) (by k_is)⟩)
    (case g_ring => exact ⟨_, by k_is, by k_is, Dk.FnIn.of (by k_is) (by k_is) (by k_is)⟩)
    (case g_told => exact ⟨_, by k_is, by k_is, Dk.FnIn.of (by k_is) (by k_is) (by k_is)⟩)
    (case g_alike => exact ⟨_, by k_is, by k_is, Dk.FnIn.of (by k_is) (by k_is) (by k_is)⟩)
    (case g_turns => exact ⟨_, by k_is, by k_is, Dk.FnIn.of (by k_is) (by k_is) (by k_is)⟩)
    (case g_looks => exact ⟨_, by k_is, by k_is, Dk.FnIn.of (by k_is) (by k_is) (by k_is)⟩)
    (case g_form => exact ⟨_, by k_is, by k_is, Dk.FnIn.of (by k_is) (by k_is) (by k_is)⟩)
    (case g_felt => exact ⟨_, by k_is, by k_is, Dk.FnIn.of (by k_is) (by k_is) (by k_is)⟩)
    (case g_sure => exact ⟨_, by k_is, by k_is, Dk.FnIn.of (by k_is) (by k_is) (by k_is)⟩)
    (case g_fewest => exact ⟨_, by k_is, by k_is, Dk.FnIn.of (by k_is) (by k_is) (by k_is)⟩)
    (case g_ways => exact ⟨_, by k_is, by k_is, Dk.FnIn.of (by k_is) (by k_is) (by k_is)⟩)
    (case g_change => exact ⟨_, by k_is, by k_is, Dk.FnIn.of (by k_is) (by k_is) (by k_is)⟩)
    (case g_has_more => exact ⟨_, by k_is, by k_is, Dk.FnIn.of (by k_is) (by k_is) (by k_is)⟩)
    (case g_take_number => exact ⟨_, by k_is, by k_is, Dk.FnIn.of (by k_is) (by k_is) (by k_is)⟩)
    (case g_take_row => exact ⟨_, by k_is, by k_is, Dk.FnIn.of (by k_is) (by k_is) (by k_is)⟩)
    (case g_kinit => exact ⟨_, by k_is, by k_is, Dk.FnIn.of (by k_is) (by k_is) (by k_is)⟩)
    (case g_cinit => exact ⟨_, by k_is, by k_is, Dk.FnIn.of (by k_is) (by k_is) (by k_is)⟩)
    (case cK => exact ⟨by k_is, by k_is, by k_is, by k_is, by k_is, by k_is⟩)
    (case cC => exact ⟨by k_is, by k_is, by k_is, by k_is, by k_is, by k_is⟩)
    (case n_over => unfold L2.NoAttr; k_is)
    (case n_heads => unfold L2.NoAttr; k_is)
    (case n_calls => unfold L2.NoAttr; k_is)
    (case n_position => unfold L2.NoAttr; k_is)
    (case c_RISING => exact ⟨_, by k_is⟩)
    (case c_FALLING => exact ⟨_, by k_is⟩)
    (case c_RING => exact ⟨_, by k_is⟩)
    (case c_TOLD => exact ⟨_, by k_is⟩)
    (case c_ALIKE => exact ⟨_, by k_is⟩)
    (case c_TURNS => exact ⟨_, by k_is⟩)
    (case c_LOOKS => exact ⟨_, by k_is⟩)
    (case c_FORM => exact ⟨_, by k_is⟩)
    (case c_FELT => exact ⟨_, by k_is⟩)
    (case c_SURE => exact ⟨_, by k_is⟩)
    (case c_FEWEST => exact ⟨_, by k_is⟩)
    (case c_WAYS => exact ⟨_, by k_is⟩)
    (case c_CHANGE => exact ⟨_, by k_is⟩)
    (case c_REFUSED => exact ⟨_, by k_is⟩)
    (case c_NONE_SUCH => exact ⟨_, by k_is⟩)
    (case c_TOO_MANY_KEYS => exact ⟨_, by k_is⟩)
    (case c_MOST_KEYS => exact ⟨_, by k_is⟩)
    (case c_MOST_KEYS_TO_SHAPE => exact ⟨_, by k_is⟩)
    (case c_MOST_SHAPES => exact ⟨_, by k_is⟩)
    (case c_MOST_FELT => exact ⟨_, by k_is⟩)
    (case c_HIGHEST_HEAD => exact ⟨_, by k_is⟩)
    (case z_range => k_is)
    (case z_len => k_is)
    (case z_list => k_is)
    (case z_enumerate => k_is)
    (case z_min => k_is)
    (case z_all => k_is)
  case S =>
    intro a hwi hask
    have q : ((Codec.inLen 0 1900 a.1 && a.1.all (Codec.inInt 0 4294967295)) && true) = true := hwi
    rw [Bool.and_eq_true, Bool.and_eq_true] at q
    have hl : a.1.length ≤ 1900 := (Codec.inNat_iff.mp q.1.1).2
    refine ⟨a.1, PyUw69.answers a.1, rfl, Nat.le_trans hl (by decide), rfl, fun K Pt H0 H b s0 hP hs => ?_⟩
    exact ⟨b, a.1, rfl, s0.seq hs, hl, fun x hx => Codec.inInt_iff.mp (List.all_eq_true.mp q.1.2 x hx), hask, .inl hP, fun H2 p hp => ⟨p, rfl, L2.SqL.of hp⟩⟩
#print axioms PySem.Challenge.cw_darkkeys_s01_answers_holds
