import PyProof.Rows.All
import Wide.All
import OpenK.AllK
import Wide.FinOn
import Lean
import PyProof.EqAt
import PyProof.EqKinds
import PyProof.TupleCall
import PyProof.ExcClass3
import PyProof.ExcArgsOwn
import PyProof.InstStoreFacts
import PyProof.NsDelKeeps
import PyProof.ConsumeWalk
import PyProof.ReprRoads
import PyProof.ReprBulk
import PyProof.ZipIter
import PyProof.TupleIter
import PyProof.CompUse
import PySem.Challenge.RW_thirdpoint_k05_refusals_apart
-- CHANGE: your row's module here, as the last of these rows
set_option Elab.async false
set_option linter.all false
set_option maxRecDepth 100000
/-! THE HAND LAYER, for ints, bools, texts, own classes, LISTS and tuples (index, slices, in, append, pop ..), calls, loops. Paste it whole ahead of your own text; what your proof does not reach may be deleted. -/
namespace L2
open PySem PySem.Spec PyProof.Rows

/-- a key: an int or a str -/
abbrev Key := Sum Int Str
def keyIs : Key → Value → Bool
  | .inl k, v => Value.isInt k v
  | .inr x, v => Value.isStrOf x v
def keyH (w : World) : Key → Int
  | .inl k => hashInt k
  | .inr x => hashStr w x
theorem keyIs_shape : ∀ {k : Key} {v : Value}, keyIs k v = true → (∃ i t, k = Sum.inl i ∧ v = Value.int i t) ∨ (∃ x t, k = Sum.inr x ∧ v = Value.str x t)
  | .inl i, v, h => by
    obtain ⟨t, e⟩ := Value.isInt_shape (k := i) (v := v) h
    exact .inl ⟨i, t, rfl, e⟩
  | .inr x, v, h => by
    obtain ⟨t, e⟩ := Value.isStrOf_shape (x := x) (v := v) h
    exact .inr ⟨x, t, rfl, e⟩
theorem key_ll (a b : Int) : decide ((Sum.inl a : Key) = Sum.inl b) = (a == b) := by
  by_cases e : a = b
  · subst e; simp
  · have h : ¬ (Sum.inl a : Key) = Sum.inl b := fun q => e (Sum.inl.inj q)
    rw [decide_eq_false h]
    exact (beq_eq_false_iff_ne.mpr e).symm
theorem key_rr (a b : Str) : decide ((Sum.inr a : Key) = Sum.inr b) = decide (a = b) := by
  by_cases e : a = b
  · subst e; simp
  · have h : ¬ (Sum.inr a : Key) = Sum.inr b := fun q => e (Sum.inr.inj q)
    rw [decide_eq_false h, decide_eq_false e]
theorem key_lr (a : Int) (b : Str) : decide ((Sum.inl a : Key) = Sum.inr b) = false := decide_eq_false (fun q => nomatch q)
theorem key_rl (a : Str) (b : Int) : decide ((Sum.inr a : Key) = Sum.inl b) = false := decide_eq_false (fun q => nomatch q)

def mixKind (prog : Program) (w : World) : PySem.KeyKind prog w Key where
  is := keyIs
  hash := keyH w
  inj := fun v a b ha hb => by
    rcases keyIs_shape ha with ⟨i, t, rfl, rfl⟩ | ⟨x, t, rfl, rfl⟩
    · rcases keyIs_shape hb with ⟨j, u, rfl, e⟩ | ⟨y, u, rfl, e⟩
      · injection e with e1 _; rw [e1]
      · exact nomatch e
    · rcases keyIs_shape hb with ⟨j, u, rfl, e⟩ | ⟨y, u, rfl, e⟩
      · exact nomatch e
      · injection e with e1 _; rw [e1]
  byValue := fun k v h => by
    rcases keyIs_shape h with ⟨i, t, rfl, rfl⟩ | ⟨x, t, rfl, rfl⟩ <;> rfl
  pyHash := fun hv h => by
    rcases keyIs_shape hv with ⟨i, t, rfl, rfl⟩ | ⟨x, t, rfl, rfl⟩
    · exact wpAny_pyHash_int h
    · exact wpAny_pyHash_str h
  eqBool := fun hu hv h => by
    rcases keyIs_shape hu with ⟨i, t, rfl, rfl⟩ | ⟨x, t, rfl, rfl⟩
    · rcases keyIs_shape hv with ⟨j, u, rfl, rfl⟩ | ⟨y, u, rfl, rfl⟩
      · rw [key_ll] at h; exact wpAny_eqBool_int h
      · rw [key_lr] at h; exact SeqAt.EqAt.int_str i t y u _ _ _ _ h
    · rcases keyIs_shape hv with ⟨j, u, rfl, rfl⟩ | ⟨y, u, rfl, rfl⟩
      · rw [key_rl] at h; exact SeqAt.EqAt.str_int x t j u _ _ _ _ h
      · rw [key_rr] at h; exact wpAny_eqBool_str h
  «strs» := fun k x t v h => by
    rcases keyIs_shape h with ⟨i, u, rfl, e⟩ | ⟨y, u, rfl, e⟩
    · exact nomatch e
    · injection e with e1 _
      subst e1
      cases v <;> rfl

end L2

namespace L2
open PySem PySem.Spec PyProof.Rows

/-- a value, without the heap -/
inductive V where
  | non | bl (b : Bool) | int (i : Int) | str (x : Str) | byt (b : Array UInt8) | flt (b : UInt64) | ref (a : Addr) | ty (n : String)
  deriving DecidableEq

def RelV : V → Value → Prop
  | .non, u => u = Value.none
  | .bl b, u => u = Value.bool b
  | .int i, u => ∃ t, u = Value.int i t
  | .str x, u => ∃ t, u = Value.str x t
  | .byt b, u => ∃ t, u = Value.bytes b t
  | .flt b, u => ∃ t, u = Value.float b t
  | .ref a, u => u = Value.ref a
  | .ty n, u => u = Value.type n

abbrev Vals : List V → List Value → Prop := Paired RelV
theorem Vals.length {xs : List V} {us : List Value} (r : Vals xs us) : xs.length = us.length := Paired.length r
theorem Vals.get : ∀ {xs : List V} {us : List Value} {i : Nat} {x : V}, Vals xs us → xs[i]? = some x → ∃ u, us[i]? = some u ∧ RelV x u
  | _, _, _, _, .nil, e => by simp at e
  | _, _, 0, _, .cons r _, e => by simp at e; subst e; exact ⟨_, rfl, r⟩
  | _, _, i + 1, x, .cons _ t, e => by
    obtain ⟨u, h1, h2⟩ := Vals.get (i := i) (x := x) t (by simpa using e)
    exact ⟨u, by simpa using h1, h2⟩
theorem Vals.set {x : V} {u : Value} (r : RelV x u) : ∀ {xs : List V} {us : List Value} (i : Nat), Vals xs us → Vals (xs.set i x) (us.set i u)
  | _, _, _, .nil => .nil
  | _, _, 0, .cons _ t => .cons r t
  | _, _, i + 1, .cons q t => .cons q (Vals.set r i t)
theorem Vals.append : ∀ {xs ys : List V} {us ws : List Value}, Vals xs us → Vals ys ws → Vals (xs ++ ys) (us ++ ws)
  | _, _, _, _, .nil, s => s
  | _, _, _, _, .cons r t, s => .cons r (Vals.append t s)

def RelO : Option V → Option Value → Prop
  | some v, some u => RelV v u
  | none, none => True
  | _, _ => False
def KV {κ : Type} : List (κ × V) → List (κ × Value) → Prop := Paired fun (p : κ × V) (q : κ × Value) => p.1 = q.1 ∧ RelV p.2 q.2

/-- a key of a dict (00_mix): an int or a text -/
def kV : Key → V
  | .inl i => .int i
  | .inr x => .str x

/-- what stands at a tracked address -/
inductive HO where
  /-- a list -/
  | lst (xs : List V)
  /-- a tuple (never changes) -/
  | tup (xs : List V)
  /-- a dict whose keys are ints and texts; one whose keys are tuples of ints and texts (the empty one is both) -/
  | dK (kvs : List (Key × V)) | dT (kvs : List (List Key × V))
  /-- a set of ints: its members, its size -/
  | set (S : Int → Bool) (n : Nat)
  /-- an instance of the class at C, its dict at dx, its attributes -/
  | ins (C dx : Addr) (fs : List (Str × V))
  /-- the dict of the instance at x -/
  | own (x : Addr)
  /-- the dict of an exception -/
  | xd (fs : List (Str × V))
  /-- a bound method, f of x -/
  | met (f x : Addr)
  /-- a range object lo, lo + 1, .. below hi -/
  | rng (lo hi : Int)
  /-- a thing that is known to the object (the script; a dict while a loop walks it): read, never written while it is so -/
  | frz (o : Obj) (u : HO)
  /-- a code object's table -/
  | tbl (ps : Array Value)
  /-- any other thing, by what is true of its one object (a def of one's own: SetO a S n := HO.ext fun h => ..) -/
  | ext (φ : Heap → Prop)

abbrev Hp := Addr → Option HO
def upd (H : Hp) (a : Addr) (o : HO) : Hp := fun b => if b = a then some o else H b
theorem upd_same {H : Hp} {a : Addr} {o : HO} : upd H a o a = some o := by unfold upd; rw [if_pos rfl]
theorem upd_ne {H : Hp} {a b : Addr} {o : HO} (h : b ≠ a) : upd H a o b = H b := by unfold upd; rw [if_neg h]
theorem upd_upd {H : Hp} {a : Addr} {o u : HO} : upd (upd H a o) a u = upd H a u := by
  funext b; unfold upd; split <;> rfl
/-- two objects of different content stand apart -/
theorem ne_of {H : Hp} {a b : Addr} {o u : HO} (h : H a = some o) (h' : H b = some u) (d : o ≠ u) : a ≠ b := by
  intro e; subst e; rw [h] at h'; exact d (Option.some.inj h')
theorem ne_of_none {H : Hp} {a b : Addr} {o : HO} (h : H a = some o) (h' : H b = none) : a ≠ b := by
  intro e; subst e; rw [h] at h'; cases h'

section
variable (P : Program) (w : World)
def ObjOk (H : Hp) (h : Heap) (a : Addr) : HO → Prop
  | .lst xs => xs.length ≤ sizeLine ∧ ∃ (its : List Value) (n : Nat), Vals xs its ∧ h.get? a = some { cls := .type "list", data := .seq its.toArray n }
  | .tup xs => xs.length ≤ sizeLine ∧ ∃ its : List Value, Vals xs its ∧ IsTup h a its.toArray
  | .dK kvs => kvs.length ≤ sizeLine ∧ (a == sysModules) = false ∧ ∃ vs, KV kvs vs ∧ h.DictOf (mixKind P w) a vs
  | .dT kvs => kvs.length ≤ sizeLine ∧ (a == sysModules) = false ∧ ∃ xs : List (List Key × Addr × Value),
      Paired (fun (p : List Key × V) (q : List Key × Addr × Value) => p.1 = q.1 ∧ H q.2.1 = some (.tup (p.1.map kV)) ∧ RelV p.2 q.2.2) kvs xs ∧
      ∃ o es ep, h.get? a = some o ∧ o.ExactDict ∧ o.data = .dict es ep ∧ es.toList = xs.map (entryOfKey (tupleKind (mixKind P w))) ∧ (xs.map (·.1)).Nodup
  | .set S n => h.SetOf (intKind P w) a S n
  | .ins C dx fs => H dx = some (.own a) ∧ fs.length ≤ 1000 ∧ dx ≠ a ∧ h.get? a = some (PySem.W.instObj C dx) ∧
      ∃ mA, h.Ns1 dx mA ∧ (∀ f, RelO (fs.lookup f) (mA f)) ∧ PySem.Within mA (fs.map (·.1))
  | .own _ => ∃ o, h.get? a = some o
  | .xd fs => ∃ mA, h.Ns1 a mA ∧ ∀ f, RelO (fs.lookup f) (mA f)
  | .rng lo hi => ∃ t u v, h.get? a = some { cls := .type "range", data := .fields #[.int lo t, .int hi u, .int 1 v] }
  | .frz o u => h.get? a = some o ∧ ObjOk H h a u
  | .tbl ps => h.get? a = some { cls := .none, data := .fields ps }
  | .met f x => h.get? a = some (PySem.W.methodObj (.ref f) (.ref x))
  | .ext φ => φ h ∧ (∃ o, h.get? a = some o) ∧ ∀ h1 h2 : Heap, φ h1 → (∀ o, h1.get? a = some o → h2.get? a = some o) → φ h2
/-- the abstract heap is held -/
def HOk (H : Hp) (h : Heap) : Prop := ∀ a o, H a = some o → ObjOk P w H h a o
end

section
variable {P : Program} {w : World} {H H' : Hp} {h h' : Heap} {a : Addr} {o : HO}
theorem ObjOk.lt (x : ObjOk P w H h a o) : a < h.objs.size := by
  cases o with
  | lst xs => obtain ⟨_, _, _, _, e⟩ := x; exact Heap.lt_size e
  | tup xs => obtain ⟨_, _, _, p⟩ := x; exact p.lt
  | dK kvs => obtain ⟨_, _, _, _, o, _, _, e, _⟩ := x; exact Heap.lt_size e
  | dT kvs => obtain ⟨_, _, _, _, o, _, _, e, _⟩ := x; exact Heap.lt_size e
  | set S n => obtain ⟨o, _, _, _, e, _⟩ := x; exact Heap.lt_size e
  | ins C dx fs => obtain ⟨_, _, _, e, _⟩ := x; exact Heap.lt_size e
  | own y => obtain ⟨_, e⟩ := x; exact Heap.lt_size e
  | xd fs => obtain ⟨_, ⟨_, _, _, e, _⟩, _⟩ := x; exact Heap.lt_size e
  | rng lo hi => obtain ⟨_, _, _, e⟩ := x; exact Heap.lt_size e
  | frz ob u => obtain ⟨e, _⟩ := x; exact Heap.lt_size e
  | tbl ps => exact Heap.lt_size (show h.get? a = some _ from x)
  | met f y => exact Heap.lt_size (show h.get? a = some _ from x)
  | ext φ => obtain ⟨_, ⟨_, e⟩, _⟩ := x; exact Heap.lt_size e
theorem Paired.mapP {α β : Type} {F G : α → β → Prop} : ∀ {l₁ : List α} {l₂ : List β}, Paired F l₁ l₂ → (∀ a b, F a b → G a b) → Paired G l₁ l₂
  | _, _, .nil, _ => .nil
  | _, _, .cons r t, f => .cons (f _ _ r) (Paired.mapP t f)
/-- what an object's description leans on: its own object, its own dict, the tuples -/
theorem ObjOk.stay (x : ObjOk P w H h a o) (k : ∀ b u, (b = a ∨ H b = some (.own a)) → h.get? b = some u → h'.get? b = some u)
    (ho : ∀ b, H b = some (.own a) → H' b = some (.own a)) (ht : ∀ b xs, H b = some (.tup xs) → H' b = some (.tup xs)) : ObjOk P w H' h' a o := by
  induction o with
  | lst xs => obtain ⟨z, its, n, r, e⟩ := x; exact ⟨z, its, n, r, k _ _ (.inl rfl) e⟩
  | tup xs => obtain ⟨z, its, r, ob, e, c⟩ := x; exact ⟨z, its, r, ob, k _ _ (.inl rfl) e, c⟩
  | dK kvs => obtain ⟨z, y, vs, r, ob, es, ep, e, c⟩ := x; exact ⟨z, y, vs, r, ob, es, ep, k _ _ (.inl rfl) e, c⟩
  | dT kvs =>
    obtain ⟨z, y, xs, r, ob, es, ep, e, c⟩ := x
    exact ⟨z, y, xs, Paired.mapP r fun p q z => ⟨z.1, ht _ _ z.2.1, z.2.2⟩, ob, es, ep, k _ _ (.inl rfl) e, c⟩
  | set S n => obtain ⟨ob, es, ep, t, e, c⟩ := x; exact ⟨ob, es, ep, t, k _ _ (.inl rfl) e, c⟩
  | ins C dx fs =>
    obtain ⟨d, z, ne, e, mA, ⟨od, es, ep, e2, c⟩, r⟩ := x
    exact ⟨ho _ d, z, ne, k _ _ (.inl rfl) e, mA, ⟨od, es, ep, k _ _ (.inr d) e2, c⟩, r⟩
  | own y => obtain ⟨ob, e⟩ := x; exact ⟨ob, k _ _ (.inl rfl) e⟩
  | xd fs => obtain ⟨mA, ⟨od, es, ep, e, c⟩, r⟩ := x; exact ⟨mA, ⟨od, es, ep, k _ _ (.inl rfl) e, c⟩, r⟩
  | rng lo hi => obtain ⟨t, u, v, e⟩ := x; exact ⟨t, u, v, k _ _ (.inl rfl) e⟩
  | frz ob u ih => obtain ⟨e, q⟩ := x; exact ⟨k _ _ (.inl rfl) e, ih q⟩
  | tbl ps =>
    have e : h.get? a = some { cls := .none, data := .fields ps } := x
    show h'.get? a = some { cls := .none, data := .fields ps }
    exact k a _ (.inl rfl) e
  | met f y =>
    have e : h.get? a = some (PySem.W.methodObj (.ref f) (.ref y)) := x
    show h'.get? a = some (PySem.W.methodObj (.ref f) (.ref y))
    exact k a _ (.inl rfl) e
  | ext φ => obtain ⟨p, ⟨o, e⟩, st⟩ := x; exact ⟨st _ _ p fun o q => k _ _ (.inl rfl) q, ⟨o, k _ _ (.inl rfl) e⟩, st⟩
theorem HOk.lt (x : HOk P w H h) (e : H a = some o) : a < h.objs.size := (x a o e).lt
theorem HOk.fresh (x : HOk P w H h) (e : h.objs.size ≤ a) : H a = none := by
  cases q : H a with
  | none => rfl
  | some u => exact absurd (Nat.lt_of_lt_of_le (x.lt q) e) (Nat.lt_irrefl _)
/-- every object of the heap is kept -/
theorem HOk.kept (x : HOk P w H h) (k : ∀ b u, h.get? b = some u → h'.get? b = some u) : HOk P w H h' := fun a o e =>
  (x a o e).stay (fun b u _ q => k b u q) (fun _ q => q) fun _ _ q => q
/-- a new object is laid and tracked -/
theorem HOk.laid (x : HOk P w H h) (k : ∀ b u, h.get? b = some u → h'.get? b = some u) (hp : h.objs.size ≤ a) (new : ObjOk P w (upd H a o) h' a o) : HOk P w (upd H a o) h' := fun b u e => by
  have hn := x.fresh hp
  by_cases hb : b = a
  · subst hb; rw [upd_same] at e; cases e; exact new
  · rw [upd_ne hb] at e
    exact (x b u e).stay (fun c v _ q => k c v q) (fun c q => by rw [upd_ne (ne_of_none q hn)]; exact q) fun c xs q => by rw [upd_ne (ne_of_none q hn)]; exact q
end

/-- what may be read as u: it is u, or a known u -/
def Rd (H : Hp) (a : Addr) (u : HO) : Prop := H a = some u ∨ ∃ o, H a = some (.frz o u)
theorem Rd.ok {P : Program} {w : World} {H : Hp} {h : Heap} {a : Addr} {u : HO} (r : Rd H a u) (x : HOk P w H h) : ObjOk P w H h a u := by
  rcases r with r | ⟨o, r⟩
  · exact x a u r
  · obtain ⟨_, q⟩ := x a _ r
    exact q
/-- what may be written -/
def Mut : Option HO → Prop
  | some (.lst _) => True
  | some (.dK _) => True
  | some (.dT _) => True
  | some (.set _ _) => True
  | some (.ins _ _ _) => True
  | some (.ext _) => True
  | _ => False
section
variable {P : Program} {w : World} {H : Hp} {h h' : Heap} {x e : Addr} {o' : HO}
/-- the object at e is changed: x itself, or the dict of the instance x -/
theorem HOk.write (ok : HOk P w H h) (mu : Mut (H x)) (he : e = x ∨ H e = some (.own x)) (k : ∀ b u, b ≠ e → h.get? b = some u → h'.get? b = some u) (heo : ∃ u, h'.get? e = some u)
    (new : ObjOk P w (upd H x o') h' x o') : HOk P w (upd H x o') h' := fun b u q => by
  have nown : ∀ c y, H c = some (.own y) → c ≠ x := fun c y r z => by subst z; rw [r] at mu; exact mu
  have ntup : ∀ c xs, H c = some (.tup xs) → c ≠ x := fun c xs r z => by subst z; rw [r] at mu; exact mu
  by_cases hb : b = x
  · subst hb; rw [upd_same] at q; cases q; exact new
  · rw [upd_ne hb] at q
    by_cases hbe : b = e
    · have q' : H b = some (.own x) := by
        rcases he with z | z
        · exact absurd (hbe.trans z) hb
        · rw [hbe]; exact z
      rw [q] at q'; cases q'
      obtain ⟨v, hv⟩ := heo
      exact ⟨v, by rw [hbe]; exact hv⟩
    · refine (ok b u q).stay (fun c v hc r => k c v ?_ r) (fun c r => by rw [upd_ne (nown c b r)]; exact r) fun c xs r => by rw [upd_ne (ntup c xs r)]; exact r
      rcases hc with rfl | hc
      · exact hbe
      · rintro rfl
        rcases he with z | z
        · exact nown c b hc z
        · rw [hc] at z; cases z; exact hb rfl
end

/-! ### kept unless tracked; of the frames at fs (the callers') the slots may change (an exception that passes writes there); of the records at ex (iterators) nothing is said -/
structure Un (fs ex : List Addr) (H H' : Hp) (h h' : Heap) : Prop where
  keep : ∀ b o, h.get? b = some o → H b = none → b ∉ fs → b ∉ ex → h'.get? b = some o
  slot : ∀ b o, h.get? b = some o → H b = none → b ∈ fs → b ∉ ex → ∃ sl, h'.get? b = some { o with slots := sl }
  free : ∀ b o, h.get? b = some o → H b = none → b ∉ ex → H' b = none
  there : ∀ b o, h.get? b = some o → b ∉ ex → ∃ o', h'.get? b = some o'
  tups : ∀ b xs, H b = some (.tup xs) → H' b = some (.tup xs)
  frzs : ∀ b o u, H b = some (.frz o u) → H' b = some (.frz o u)
  tbls : ∀ b ps, H b = some (.tbl ps) → ∃ more, H' b = some (.tbl (ps ++ more))
section
variable {fs fs' ex ex' : List Addr} {H H1 H2 : Hp} {h h1 h2 h' : Heap} {a x e : Addr} {o : HO}
theorem Un.any (u : Un fs ex H H1 h h1) {b : Addr} {ob : Obj} (q : h.get? b = some ob) (n : H b = none) (hx : b ∉ ex) : ∃ sl, h1.get? b = some { ob with slots := sl } := by
  by_cases hb : b ∈ fs
  · exact u.slot b ob q n hb hx
  · exact ⟨ob.slots, u.keep b ob q n hb hx⟩
theorem Un.kept (k : ∀ b u, h.get? b = some u → h'.get? b = some u) : Un fs ex H H h h' :=
  ⟨fun b ob q _ _ _ => k b ob q, fun b ob q _ _ _ => ⟨ob.slots, k b ob q⟩, fun _ _ _ n _ => n, fun b ob q _ => ⟨ob, k b ob q⟩, fun _ _ q => q, fun _ _ _ q => q, fun _ ps q => ⟨#[], by rw [q]; simp⟩⟩
theorem Un.refl : Un fs ex H H h h := Un.kept fun _ _ q => q
theorem Un.laid (k : ∀ b u, h.get? b = some u → h'.get? b = some u) (hp : h.objs.size ≤ a) (hn : H a = none) : Un fs ex H (upd H a o) h h' where
  keep := fun b u q _ _ _ => k b u q
  slot := fun b u q _ _ _ => ⟨u.slots, k b u q⟩
  free := fun b u q n _ => by rw [upd_ne (Nat.ne_of_lt (Nat.lt_of_lt_of_le (Heap.lt_size q) hp))]; exact n
  there := fun b u q _ => ⟨u, k b u q⟩
  tups := fun b xs q => by rw [upd_ne (ne_of_none q hn)]; exact q
  frzs := fun b u xs q => by rw [upd_ne (ne_of_none q hn)]; exact q
  tbls := fun b ps q => ⟨#[], by rw [upd_ne (ne_of_none q hn), q]; simp⟩
theorem Un.write (mu : Mut (H x)) (he : e = x ∨ H e = some (.own x)) (k : ∀ b u, b ≠ e → h.get? b = some u → h'.get? b = some u) (heo : ∃ u, h'.get? e = some u) : Un fs ex H (upd H x o) h h' := by
  have hx : ∀ b, H b = none → b ≠ x := fun b n z => by subst z; rw [n] at mu; exact mu
  have hb : ∀ b, H b = none → b ≠ e := fun b n z => by
    subst z
    rcases he with r | r
    · exact hx b n r
    · rw [n] at r; cases r
  have hm : ∀ b u, H b = some u → ¬ Mut (some u) → b ≠ x := fun b u q nm z => by subst z; rw [q] at mu; exact nm mu
  refine ⟨fun b u q n _ _ => k b u (hb b n) q, fun b u q n _ _ => ⟨u.slots, k b u (hb b n) q⟩, fun b u q n _ => by rw [upd_ne (hx b n)]; exact n, fun b u q _ => ?_,
    fun b xs q => by rw [upd_ne (hm b _ q fun z => z)]; exact q, fun b u xs q => by rw [upd_ne (hm b _ q fun z => z)]; exact q, fun b ps q => ⟨#[], by rw [upd_ne (hm b _ q fun z => z), q]; simp⟩⟩
  by_cases hbe : b = e
  · subst hbe; exact heo
  · exact ⟨u, k b u hbe q⟩
end

/-! ### the heap without what is tracked -/
def trk (h : Heap) (H : Hp) : List Addr := (List.range h.objs.size).filter fun a => (H a).isSome
def hidT (h : Heap) (H : Hp) : Heap := PySem.W.hideAll h (trk h H)
theorem hidT_size (h : Heap) (H : Hp) : (hidT h H).objs.size = h.objs.size := PySem.W.hideAll_size _ _
theorem hidT_get {h : Heap} {H : Hp} {b : Addr} {o : Obj} (e : h.get? b = some o) (n : H b = none) : (hidT h H).get? b = some o :=
  PySem.W.hideAll_get _ e fun hm => by
    have q : (H b).isSome = true := (List.mem_filter.mp hm).2
    rw [n] at q; simp at q
theorem of_hidT {h : Heap} {H : Hp} {b : Addr} {o : Obj} (e : (hidT h H).get? b = some o) : h.get? b = some o ∧ H b = none := by
  have e' : h.get? b = some o := PySem.W.of_hideAll (trk h H) e
  refine ⟨e', ?_⟩
  cases q : H b with
  | none => rfl
  | some x =>
    have hm : b ∈ trk h H := List.mem_filter.mpr ⟨List.mem_range.mpr (Heap.lt_size e'), by simp [q]⟩
    have z : (hidT h H).get? b = none := PySem.W.hideAll_none (trk h H) hm
    rw [z] at e; cases e

/-! ### OpenK's ledger, filled with every new object but one -/
end L2

namespace L2
open PySem PySem.Spec PyProof.Rows

/-- the module's facts, over the base: the heap at the law's entry without what is tracked there -/
structure Mod (K : PySem.W.Frag) (mg : Str → Option Value) (base : Heap) : Prop where
  kin : K.In base
  glob : base.Ns mainGlobals mg
  blt : ∃ mb, base.Ns builtinsNs mb ∧ ∀ x : Str, x ≠ "__name__" → mb x = bootBuiltins x
  nolimit : base.NoLimit

/-- the context: a def's body (or a comprehension's block) running. base: fixed through the whole law; s₀, H₀: the entry; outer: the frames whose slots others may change (a def's callers); stack: all frames that run;
   ex: iterators that were made ahead of the entry and are walked here (a comprehension's); fn: the names whose cells were made at the entry (a def: all; a comprehension's block: its own); calm: not within an except suite; pn: pins that every state bears; xe: what is wanted of an exception that leaves the code -/
structure Cx where
  prog : Program
  w : World
  K : PySem.W.Frag
  mg : Str → Option Value
  base : Heap
  A : Around
  N : List Str
  s₀ : Shared
  H₀ : Hp
  env : Env
  outer : List Env
  stack : List Env
  ex : List Addr
  fn : Str → Bool
  calm : Bool
  pn : List (Addr × Obj)
  xe : Value → Shared → Prop
/-- the callers' frames -/
def frs (l : List Env) : List Addr := l.filterMap (·.frame)
abbrev Cx.fs (X : Cx) : List Addr := frs X.outer

def Vis (sc : Scope) (x : Str) : Prop := sc.names.lookup x = some .local ∨ sc.names.lookup x = some .cell ∨ sc.names.lookup x = some .free
def Loc (sc : Scope) (x : Str) : Prop := sc.names.lookup x = some .local ∨ sc.names.lookup x = some .cell
def Look (env : Env) (h : Heap) (m : Str → Option Value) (x : Str) (u : Value) : Prop :=
  (env.kindOf x = some .local ∧ m x = some u) ∨ ((env.kindOf x = some .cell ∨ env.kindOf x = some .free) ∧ ∃ c, env.cells.lookup x = some c ∧ h.IsCell c (some u))

structure Cx.Ok (X : Cx) : Prop where
  mod : Mod X.K X.mg X.base
  kind : X.env.scope.kind = .function
  glob : X.env.globals = mainGlobals
  blt : X.env.builtins = builtinsNs
  above : X.s₀.heap.objs.size ≤ X.env.locals
  inj : ∀ x y c, X.env.cells.lookup x = some c → X.env.cells.lookup y = some c → x = y
  has : ∀ x, (X.env.kindOf x = some .cell ∨ X.env.kindOf x = some .free) → ∃ c, X.env.cells.lookup x = some c
  cab : ∀ x c, X.fn x = true → X.env.cells.lookup x = some c → X.s₀.heap.objs.size ≤ c
  hd : X.calm = true → X.A.handled = none
  frames : X.A.frames = some X.stack
  stk : X.stack = X.outer ∨ (X.stack = X.env :: X.outer ∧ X.env.frame = some X.env.locals)
  exf : ∀ b ∈ X.ex, b ≠ X.env.locals ∧ ∀ x c, X.env.cells.lookup x = some c → c ≠ b
  bs : ∀ b o, X.base.get? b = some o → X.s₀.heap.get? b = some o ∧ X.H₀ b = none
  bsz : X.base.objs.size ≤ X.s₀.heap.objs.size
  noex : ∀ b o, X.base.get? b = some o → b ∉ X.ex
  exfs : ∀ b ∈ X.ex, b ∉ X.fs
  funs : X.s₀.heap.FunFrames X.base X.outer
  frf : ∀ b ∈ X.fs, X.H₀ b = none

structure Inv (X : Cx) (pins : List (Addr × Obj)) (σ : List (Option V)) (H : Hp) (s : Shared) : Prop where
  ok : X.Ok
  os : s.os = X.s₀.os
  bare : AllBare s.gens
  base : Un X.fs X.ex X.H₀ H X.s₀.heap s.heap
  loc : ∃ m, s.heap.Ns X.env.locals m ∧ ∀ (i : Nat) (x : Str) (v : V), X.N[i]? = some x → σ[i]? = some (some v) → Vis X.env.scope x → ∃ u, RelV v u ∧ Look X.env s.heap m x u
  cell : ∀ x c, X.env.cells.lookup x = some c → ∃ v, s.heap.IsCell c v
  free : H X.env.locals = none
  freeC : ∀ x c, X.env.cells.lookup x = some c → H c = none
  pin : ∀ p ∈ X.pn ++ pins, s.heap.get? p.1 = some p.2 ∧ H p.1 = none ∧ p.1 ≠ X.env.locals ∧ p.1 ∉ X.fs ∧ ∀ v, p.2.data ≠ .cell v
  hok : HOk X.prog X.w H s.heap
  len : σ.length = X.N.length

section
variable {X : Cx} {pins : List (Addr × Obj)} {σ : List (Option V)} {H H' : Hp} {s : Shared} {h' : Heap}

theorem Cx.Ok.nofr (ok : X.Ok) {b : Addr} {o : Obj} (e : X.base.get? b = some o) : b ∉ X.fs := fun hb => by
  have := (ok.funs.mem hb).1
  rw [e] at this; cases this
theorem Inv.bs (I : Inv X pins σ H s) : ∀ b o, X.base.get? b = some o → s.heap.get? b = some o ∧ H b = none := fun b o e =>
  ⟨I.base.keep b o (I.ok.bs b o e).1 (I.ok.bs b o e).2 (I.ok.nofr e) (I.ok.noex b o e), I.base.free b o (I.ok.bs b o e).1 (I.ok.bs b o e).2 (I.ok.noex b o e)⟩
theorem Inv.bk (I : Inv X pins σ H s) : ∀ b o, X.base.get? b = some o → s.heap.get? b = some o := fun b o e => (I.bs b o e).1
theorem Inv.mod (I : Inv X pins σ H s) : Mod X.K X.mg X.base := I.ok.mod
theorem Inv.kIn (I : Inv X pins σ H s) : X.K.In s.heap := I.ok.mod.kin.keeps I.bk
/-- the frame over the base: for OpenK's rules (K.In X.base is I.mod.kin) -/
theorem Inv.fr (I : Inv X pins σ H s) : ∃ m, Fr X.base X.env.locals s.heap m :=
  let ⟨m, hn, _⟩ := I.loc
  ⟨m, hn, I.bk, Nat.le_trans I.ok.bsz I.ok.above⟩
theorem Inv.lt (I : Inv X pins σ H s) : X.env.locals < s.heap.objs.size := let ⟨_, hn, _⟩ := I.loc; hn.lt
theorem Inv.sz (I : Inv X pins σ H s) : X.s₀.heap.objs.size ≤ s.heap.objs.size := Nat.le_trans I.ok.above (Nat.le_of_lt I.lt)
theorem Inv.nofs (I : Inv X pins σ H s) {a : Addr} (h : s.heap.objs.size ≤ a) : a ∉ X.fs := fun hb => by
  obtain ⟨_, o, ho, _⟩ := I.ok.funs.mem hb
  exact absurd (Nat.lt_of_lt_of_le (Heap.lt_size ho) (Nat.le_trans I.sz h)) (Nat.lt_irrefl _)
theorem Inv.cne (I : Inv X pins σ H s) : ∀ x c, X.env.cells.lookup x = some c → c ≠ X.env.locals := fun x c e z => by
  obtain ⟨v, o, ho, hd⟩ := I.cell x c e
  obtain ⟨m, ⟨o', es, ep, ho', hd', _⟩, _⟩ := I.loc
  rw [z, ho'] at ho; cases ho; rw [hd'] at hd; cases hd
theorem Inv.funs (I : Inv X pins σ H s) : s.heap.FunFrames X.base X.outer := by
  have all : ∀ (l : List Env), (∀ b ∈ frs l, b ∈ X.fs) → X.s₀.heap.FunFrames X.base l → s.heap.FunFrames X.base l := by
    intro l
    induction l with
    | nil => intro _ _; trivial
    | cons env r ih =>
      intro hs hl
      obtain ⟨hk, ⟨L, o, hf, hn, ho, hd⟩, hr⟩ := hl
      have hL : L ∈ X.fs := hs L (by unfold frs; rw [List.filterMap_cons, hf]; exact List.mem_cons_self)
      obtain ⟨sl, e⟩ := I.base.slot L o ho (I.ok.frf L hL) hL fun z => I.ok.exfs L z hL
      exact ⟨hk, ⟨L, _, hf, hn, e, hd⟩, ih (fun b hb => hs b (by unfold frs; rw [List.filterMap_cons, hf]; exact List.mem_cons_of_mem _ hb)) hr⟩
  exact all X.outer (fun _ hb => hb) I.ok.funs

/-- the frames that run, for a call -/
theorem Inv.stack (I : Inv X pins σ H s) : s.heap.FunFrames X.base X.stack := by
  rcases I.ok.stk with e | ⟨e, hf⟩
  · rw [e]; exact I.funs
  · rw [e]
    obtain ⟨m, hn, _⟩ := I.loc
    refine .cons (by rw [I.ok.kind]; decide) hf hn ?_ I.funs
    exact Heap.get?_none_of_le (Nat.le_trans I.ok.bsz I.ok.above)
theorem Inv.stkSub (I : Inv X pins σ H s) : ∀ b ∈ frs X.stack, b ∈ X.env.locals :: X.fs := fun b hb => by
  rcases I.ok.stk with e | ⟨e, hf⟩
  · rw [e] at hb; exact List.mem_cons_of_mem _ hb
  · rw [e] at hb
    unfold frs at hb
    rw [List.filterMap_cons, hf] at hb
    exact hb
theorem Inv.stkFree (I : Inv X pins σ H s) : ∀ b ∈ frs X.stack, H b = none := fun b hb => by
  rcases List.mem_cons.mp (I.stkSub b hb) with e | hb
  · rw [e]; exact I.free
  · obtain ⟨_, o, ho, _⟩ := I.ok.funs.mem hb
    exact I.base.free b o ho (I.ok.frf b hb) fun z => I.ok.exfs b z hb

/-- THE STEP: the untracked objects but the frame and the records at ch are kept (the callers' frames up to slots), the frame's map is kept, the new abstract heap is held -/
theorem Inv.step {g' : Array GenState} {t' : Nat} {d' : Drawn} {ch : List Addr} (I : Inv X pins σ H s)
    (hch : ∀ b ∈ ch, (b ∈ X.ex ∨ X.s₀.heap.objs.size ≤ b) ∧ b ≠ X.env.locals ∧ (∀ x c, X.env.cells.lookup x = some c → c ≠ b) ∧ ∀ p ∈ X.pn ++ pins, p.1 ≠ b)
    (keep : ∀ b o, b ≠ X.env.locals → b ∉ X.fs → b ∉ ch → s.heap.get? b = some o → H b = none → h'.get? b = some o)
    (slot : ∀ b o, b ≠ X.env.locals → b ∈ X.fs → b ∉ ch → s.heap.get? b = some o → H b = none → ∃ sl, h'.get? b = some { o with slots := sl }) (free : ∀ b o, b ∉ ch → s.heap.get? b = some o → H b = none → H' b = none)
    (there : ∀ b o, b ∉ ch → s.heap.get? b = some o → ∃ o', h'.get? b = some o')
    (tups : ∀ b xs, H b = some (.tup xs) → H' b = some (.tup xs)) (frzs : ∀ b o u, H b = some (.frz o u) → H' b = some (.frz o u)) (tbls : ∀ b ps, H b = some (.tbl ps) → ∃ more, H' b = some (.tbl (ps ++ more)))
    (ns : ∀ m, s.heap.Ns X.env.locals m → h'.Ns X.env.locals m) (hok : HOk X.prog X.w H' h') (hg : AllBare g') :
    Inv X pins σ H' { s with heap := h', gens := g', drawn := d', toks := t' } := by
  have neL : ∀ b o, X.s₀.heap.get? b = some o → b ≠ X.env.locals := fun b o e => Nat.ne_of_lt (Nat.lt_of_lt_of_le (Heap.lt_size e) I.ok.above)
  have neC : ∀ b o, X.s₀.heap.get? b = some o → b ∉ X.ex → b ∉ ch := fun b o e hx hb => by
    rcases (hch b hb).1 with z | z
    · exact hx z
    · exact absurd (Nat.lt_of_lt_of_le (Heap.lt_size e) z) (Nat.lt_irrefl _)
  have cellK : ∀ x c, X.env.cells.lookup x = some c → ∀ v, s.heap.IsCell c v → h'.IsCell c v := fun x c e v ⟨o, ho, hd⟩ => by
    have nch : c ∉ ch := fun z => (hch c z).2.2.1 x c e rfl
    by_cases hc : c ∈ X.fs
    · obtain ⟨sl, q⟩ := slot c o (I.cne x c e) hc nch ho (I.freeC x c e)
      exact ⟨_, q, hd⟩
    · exact ⟨o, keep c o (I.cne x c e) hc nch ho (I.freeC x c e), hd⟩
  refine ⟨I.ok, I.os, hg, ⟨fun b o e n hb hx => ?_, fun b o e n hb hx => ?_, fun b o e n hx => ?_, fun b o e hx => ?_, fun b xs e => tups b xs (I.base.tups b xs e), fun b o xs e => frzs b o xs (I.base.frzs b o xs e), fun b ps e => ?_⟩, ?_, fun x c e => ?_, ?_, fun x c e => ?_, fun p hp => ?_, hok, I.len⟩
  · exact keep b o (neL b o e) hb (neC b o e hx) (I.base.keep b o e n hb hx) (I.base.free b o e n hx)
  · obtain ⟨sl, e1⟩ := I.base.slot b o e n hb hx
    obtain ⟨sl', e2⟩ := slot b _ (neL b o e) hb (neC b o e hx) e1 (I.base.free b o e n hx)
    exact ⟨sl', e2⟩
  · obtain ⟨o', e1⟩ := I.base.there b o e hx
    exact free b o' (neC b o e hx) e1 (I.base.free b o e n hx)
  · obtain ⟨o', e1⟩ := I.base.there b o e hx
    exact there b o' (neC b o e hx) e1
  · obtain ⟨m1, e1⟩ := I.base.tbls b ps e
    obtain ⟨m2, e2⟩ := tbls b _ e1
    exact ⟨m1 ++ m2, by rw [e2, Array.append_assoc]⟩
  · obtain ⟨m, hn, hl⟩ := I.loc
    refine ⟨m, ns m hn, fun i x v e1 e2 e3 => ?_⟩
    obtain ⟨u, r, l⟩ := hl i x v e1 e2 e3
    refine ⟨u, r, ?_⟩
    rcases l with l | ⟨k, c, e, z⟩
    · exact .inl l
    · exact .inr ⟨k, c, e, cellK x c e _ z⟩
  · obtain ⟨v, z⟩ := I.cell x c e
    exact ⟨v, cellK x c e v z⟩
  · obtain ⟨m, ⟨o, _, _, ho, _⟩, _⟩ := I.loc
    exact free _ o (fun z => (hch _ z).2.1 rfl) ho I.free
  · obtain ⟨v, o, ho, hd⟩ := I.cell x c e
    exact free c o (fun z => (hch c z).2.2.1 x c e rfl) ho (I.freeC x c e)
  · obtain ⟨e, n, ne, nf, d⟩ := I.pin p hp
    have nch : p.1 ∉ ch := fun z => (hch p.1 z).2.2.2 p hp rfl
    exact ⟨keep p.1 p.2 ne nf nch e n, free p.1 p.2 nch e n, ne, nf, d⟩
/-- .. where the frame's own object is kept too -/
theorem Inv.un {t' : Nat} (I : Inv X pins σ H s) (u : Un X.fs [] H H' s.heap h') (hok : HOk X.prog X.w H' h') : Inv X pins σ H' { s with heap := h', toks := t' } := by
  obtain ⟨m, ⟨o, es, ep, ho, r⟩, _⟩ := id I.loc
  obtain ⟨sl, hL⟩ := u.any ho I.free (by simp)
  exact I.step (g' := s.gens) (d' := s.drawn) (ch := []) (fun _ z => nomatch z) (fun b o _ hb _ e n => u.keep b o e n hb (by simp)) (fun b o _ hb _ e n => u.slot b o e n hb (by simp)) (fun b o _ e n => u.free b o e n (by simp)) (fun b o _ e => u.there b o e (by simp)) u.tups u.frzs u.tbls (fun m' hm => by
    obtain ⟨o', es', ep', ho', r'⟩ := hm
    rw [ho] at ho'; cases ho'
    exact ⟨_, es', ep', hL, r'⟩) hok I.bare
/-- behind a call (or a comprehension's block): the slots of this frame may have changed too, the records at ch may have turned -/
theorem Inv.call {g' : Array GenState} {t' : Nat} {d' : Drawn} {ch : List Addr} (I : Inv X pins σ H s) (u : Un (frs X.stack) ch H H' s.heap h') (hok : HOk X.prog X.w H' h') (hg : AllBare g')
    (hch : ∀ b ∈ ch, (b ∈ X.ex ∨ X.s₀.heap.objs.size ≤ b) ∧ b ≠ X.env.locals ∧ (∀ x c, X.env.cells.lookup x = some c → c ≠ b) ∧ ∀ p ∈ X.pn ++ pins, p.1 ≠ b) :
    Inv X pins σ H' { s with heap := h', gens := g', drawn := d', toks := t' } := by
  obtain ⟨m, ⟨o, es, ep, ho, r⟩, _⟩ := id I.loc
  obtain ⟨sl, hL⟩ := u.any ho I.free fun z => (hch _ z).2.1 rfl
  exact I.step (ch := ch) hch (fun b o hL hb hc e n => u.keep b o e n (fun z => (List.mem_cons.mp (I.stkSub b z)).elim hL hb) hc) (fun b o _ _ hc e n => u.any e n hc) (fun b o hc e n => u.free b o e n hc) (fun b o hc e => u.there b o e hc) u.tups u.frzs u.tbls (fun m' hm => by
    obtain ⟨o', es', ep', ho', r'⟩ := hm
    rw [ho] at ho'; cases ho'
    exact ⟨_, es', ep', hL, r'⟩) hok hg
/-- an untracked record of ours (an iterator) has turned -/
theorem Inv.turned {t' : Nat} {it : Addr} (I : Inv X pins σ H s) (k : ∀ b o, b ≠ it → s.heap.get? b = some o → h'.get? b = some o) (hn : H it = none) (hL : it ≠ X.env.locals)
    (h1 : it ∈ X.ex ∨ X.s₀.heap.objs.size ≤ it) (h2 : ∀ x c, X.env.cells.lookup x = some c → c ≠ it) (h3 : ∀ p ∈ X.pn ++ pins, p.1 ≠ it) : Inv X pins σ H { s with heap := h', toks := t' } := by
  have nit : ∀ b u, H b = some u → b ≠ it := fun b u e z => by rw [z, hn] at e; cases e
  refine I.step (g' := s.gens) (d' := s.drawn) (ch := [it]) (fun b hb => ?_) (fun b o _ _ hc e _ => k b o (fun z => hc (by simp [z])) e) (fun b o _ _ hc e _ => ⟨o.slots, k b o (fun z => hc (by simp [z])) e⟩) (fun _ _ _ _ n => n)
    (fun b o hc e => ⟨o, k b o (fun z => hc (by simp [z])) e⟩) (fun _ _ e => e) (fun _ _ _ e => e) (fun b ps e => ⟨#[], by rw [e]; simp⟩) (fun m hm => ?_) (fun b u e => ?_) I.bare
  · have e : b = it := by simpa using hb
    subst e
    exact ⟨h1, hL, h2, h3⟩
  · obtain ⟨o, es, ep, ho, r⟩ := hm
    exact ⟨o, es, ep, k _ o (Ne.symm hL) ho, r⟩
  · refine (I.hok b u e).stay (fun c v hc q => k c v ?_ q) (fun _ q => q) fun _ _ q => q
    rcases hc with z | z
    · rw [z]; exact nit b u e
    · exact nit c _ z
theorem Inv.tok (I : Inv X pins σ H s) (t : Nat) : Inv X pins σ H { s with toks := t } := I.un (h' := s.heap) (t' := t) Un.refl I.hok
/-- all objects kept -/
theorem Inv.kept {t' : Nat} (I : Inv X pins σ H s) (k : ∀ b u, s.heap.get? b = some u → h'.get? b = some u) : Inv X pins σ H { s with heap := h', toks := t' } := I.un (Un.kept k) (I.hok.kept k)
/-- a new object laid and tracked -/
theorem Inv.laid {a : Addr} {o : HO} {t' : Nat} (I : Inv X pins σ H s) (k : ∀ b u, s.heap.get? b = some u → h'.get? b = some u) (hp : s.heap.objs.size ≤ a) (new : ObjOk X.prog X.w (upd H a o) h' a o) :
    Inv X pins σ (upd H a o) { s with heap := h', toks := t' } := I.un (Un.laid k hp (I.hok.fresh hp)) (I.hok.laid k hp new)
/-- an object written -/
theorem Inv.write {x e : Addr} {o : HO} {t' : Nat} (I : Inv X pins σ H s) (mu : Mut (H x)) (he : e = x ∨ H e = some (.own x)) (k : ∀ b u, b ≠ e → s.heap.get? b = some u → h'.get? b = some u) (heo : ∃ u, h'.get? e = some u)
    (new : ObjOk X.prog X.w (upd H x o) h' x o) : Inv X pins σ (upd H x o) { s with heap := h', toks := t' } := I.un (Un.write mu he k heo) (I.hok.write mu he k heo new)
/-- forgetting slots, pins -/
theorem Inv.weak {σ' : List (Option V)} (I : Inv X pins σ H s) (hl : σ'.length = σ.length) (w : ∀ (i : Nat) v, σ'[i]? = some (some v) → σ[i]? = some (some v)) : Inv X pins σ' H s :=
  ⟨I.ok, I.os, I.bare, I.base, let ⟨m, hn, hl'⟩ := I.loc; ⟨m, hn, fun i x v e1 e2 e3 => hl' i x v e1 (w i v e2) e3⟩, I.cell, I.free, I.freeC, I.pin, I.hok, hl.trans I.len⟩
theorem Inv.pins_of {pins' : List (Addr × Obj)} (I : Inv X pins σ H s) (h : ∀ p ∈ pins', s.heap.get? p.1 = some p.2 ∧ H p.1 = none ∧ p.1 ≠ X.env.locals ∧ p.1 ∉ X.fs ∧ ∀ v, p.2.data ≠ .cell v) : Inv X pins' σ H s :=
  ⟨I.ok, I.os, I.bare, I.base, I.loc, I.cell, I.free, I.freeC, fun p hp => (List.mem_append.mp hp).elim (fun z => I.pin p (List.mem_append_left _ z)) (h p), I.hok, I.len⟩

theorem nodup_ix {N : List Str} (hN : N.Nodup) {i j : Nat} {x : Str} (a : N[i]? = some x) (b : N[j]? = some x) : i = j := by
  obtain ⟨h1, e1⟩ := List.getElem?_eq_some_iff.mp a
  obtain ⟨h2, e2⟩ := List.getElem?_eq_some_iff.mp b
  exact (List.getElem_inj hN).mp (e1.trans e2.symm)

/-- a name is stored; what changed -/
theorem store_ok2 {M : Model} {A : Around} {E : Value → Shared → Prop} {i : Nat} {x : Str} {v : V} {u : Value} {Q : Unit → Shared → Prop} (I : Inv X pins σ H s) (hN : X.N.Nodup) (hi : X.N[i]? = some x) (hx : Loc X.env.scope x) (r : RelV v u)
    (h : ∀ s', Inv X pins (σ.set i (some v)) H s' → (∃ a, Heap.SameBut a s.heap s'.heap ∧ (a = X.env.locals ∨ X.env.cells.lookup x = some a)) → Q () s') (hf : X.fn x = true ∨ X.env.scope.names.lookup x = some .local := by first | exact .inl rfl | exact .inr rfl | assumption) : wpAny M A (storeName X.env x u) Q E s := by
  obtain ⟨m, hn, hl⟩ := id I.loc
  have hcls : (X.env.scope.kind == .class || (X.env.scope.kind == .module && X.env.locals != X.env.globals)) = false := by rw [I.ok.kind]; rfl
  have hiσ : i < σ.length := by rw [I.len]; exact (List.getElem?_eq_some_iff.mp hi).1
  have cne := I.cne
  have tracked : ∀ {a : Addr} {h' : Heap}, (∃ o, s.heap.get? a = some o ∧ H a = none) → Heap.SameBut a s.heap h' → HOk X.prog X.w H h' := fun {a h'} ha hs b ob e => by
    obtain ⟨_, _, hfree⟩ := ha
    refine (I.hok b ob e).stay (fun c w' hc q => (hs.2 c ?_).trans q) (fun _ q => q) fun _ _ q => q
    rintro rfl
    rcases hc with rfl | hc
    · rw [hfree] at e; cases e
    · rw [hfree] at hc; cases hc
  rcases hx with hk | hk
  · refine wpAny_storeName_local hk hn (fun h' hn' hs => ?_) hcls
    obtain ⟨oL, _, _, hoL, _⟩ := id hn
    refine h _ ⟨I.ok, I.os, I.bare, ⟨fun b o e n hb hx => ?_, fun b o e n hb hx => ?_, I.base.free, fun b o e hx => ?_, I.base.tups, I.base.frzs, I.base.tbls⟩, ⟨_, hn', fun j y v' e1 e2 e3 => ?_⟩, fun y c e => ?_, I.free, I.freeC, fun p hp => ?_, tracked ⟨oL, hoL, I.free⟩ hs, by simpa using I.len⟩ ⟨_, hs, .inl rfl⟩
    · exact (hs.2 b (Nat.ne_of_lt (Nat.lt_of_lt_of_le (Heap.lt_size e) I.ok.above))).trans (I.base.keep b o e n hb hx)
    · obtain ⟨sl, e1⟩ := I.base.slot b o e n hb hx
      exact ⟨sl, (hs.2 b (Nat.ne_of_lt (Nat.lt_of_lt_of_le (Heap.lt_size e) I.ok.above))).trans e1⟩
    · obtain ⟨o', e1⟩ := I.base.there b o e hx
      exact ⟨o', (hs.2 b (Nat.ne_of_lt (Nat.lt_of_lt_of_le (Heap.lt_size e) I.ok.above))).trans e1⟩
    · by_cases hj : j = i
      · subst hj
        rw [hi] at e1; cases e1
        rw [List.getElem?_set_self hiσ] at e2
        cases e2
        exact ⟨u, r, .inl ⟨hk, by simp⟩⟩
      · rw [List.getElem?_set_ne (Ne.symm hj)] at e2
        obtain ⟨u', r', q⟩ := hl j y v' e1 e2 e3
        refine ⟨u', r', ?_⟩
        rcases q with ⟨k, e⟩ | ⟨k, c, e, z⟩
        · refine .inl ⟨k, ?_⟩
          have : y ≠ x := fun e => hj (nodup_ix hN e1 (e ▸ hi))
          simp [this, e]
        · exact .inr ⟨k, c, e, z.sameBut hs (cne y c e)⟩
    · obtain ⟨w', z⟩ := I.cell y c e
      exact ⟨w', z.sameBut hs (cne y c e)⟩
    · obtain ⟨e, n, ne, nf, d⟩ := I.pin p hp
      exact ⟨(hs.2 p.1 ne).trans e, n, ne, nf, d⟩
  · have hfn : X.fn x = true := by
      rcases hf with z | z
      · exact z
      · rw [z] at hk; cases hk
    obtain ⟨c, hc⟩ := I.ok.has x (.inl hk)
    obtain ⟨w', z⟩ := I.cell x c hc
    refine wpAny_storeName_cell I.ok.kind hk hc z (fun h' hc' hs => ?_)
    obtain ⟨oc, hoc, hocd⟩ := id z
    refine h { s with heap := h' } ⟨I.ok, I.os, I.bare, ⟨fun b o e n hb hx => ?_, fun b o e n hb hx => ?_, I.base.free, fun b o e hx => ?_, I.base.tups, I.base.frzs, I.base.tbls⟩, ⟨m, hn.sameBut hs (Ne.symm (cne x c hc)), fun j y v' e1 e2 e3 => ?_⟩, fun y c' e => ?_, I.free, I.freeC, fun p hp => ?_, tracked ⟨oc, hoc, I.freeC x c hc⟩ hs, by simpa using I.len⟩ ⟨c, hs, .inr hc⟩
    · exact (hs.2 b (Nat.ne_of_lt (Nat.lt_of_lt_of_le (Heap.lt_size e) (I.ok.cab x c hfn hc)))).trans (I.base.keep b o e n hb hx)
    · obtain ⟨sl, e1⟩ := I.base.slot b o e n hb hx
      exact ⟨sl, (hs.2 b (Nat.ne_of_lt (Nat.lt_of_lt_of_le (Heap.lt_size e) (I.ok.cab x c hfn hc)))).trans e1⟩
    · obtain ⟨o', e1⟩ := I.base.there b o e hx
      exact ⟨o', (hs.2 b (Nat.ne_of_lt (Nat.lt_of_lt_of_le (Heap.lt_size e) (I.ok.cab x c hfn hc)))).trans e1⟩
    · by_cases hj : j = i
      · subst hj
        rw [hi] at e1; cases e1
        rw [List.getElem?_set_self hiσ] at e2
        cases e2
        exact ⟨u, r, .inr ⟨.inl hk, c, hc, hc'⟩⟩
      · rw [List.getElem?_set_ne (Ne.symm hj)] at e2
        obtain ⟨u', r', q⟩ := hl j y v' e1 e2 e3
        refine ⟨u', r', ?_⟩
        rcases q with q | ⟨k, c', e, z'⟩
        · exact .inl q
        · refine .inr ⟨k, c', e, z'.sameBut hs ?_⟩
          rintro rfl
          exact hj (nodup_ix hN e1 (I.ok.inj _ _ _ e hc ▸ hi))
    · by_cases hcc : c' = c
      · subst hcc; exact ⟨_, hc'⟩
      · obtain ⟨w2, z2⟩ := I.cell y c' e
        exact ⟨w2, z2.sameBut hs hcc⟩
    · obtain ⟨e, n, ne, nf, d⟩ := I.pin p hp
      refine ⟨(hs.2 p.1 ?_).trans e, n, ne, nf, d⟩
      intro q
      rw [q, hoc] at e
      have q' : oc = p.2 := Option.some.inj e
      exact d w' (by rw [← q']; exact hocd)
theorem store_ok {M : Model} {A : Around} {E : Value → Shared → Prop} {i : Nat} {x : Str} {v : V} {u : Value} {Q : Unit → Shared → Prop} (I : Inv X pins σ H s) (hN : X.N.Nodup) (hi : X.N[i]? = some x) (hx : Loc X.env.scope x) (r : RelV v u)
    (h : ∀ s', Inv X pins (σ.set i (some v)) H s' → Q () s') (hf : X.fn x = true ∨ X.env.scope.names.lookup x = some .local := by first | exact .inl rfl | exact .inr rfl | assumption) : wpAny M A (storeName X.env x u) Q E s :=
  store_ok2 I hN hi hx r (fun s' I' _ => h s' I') hf
/-- behind a call or a block, the state as it is -/
theorem Inv.call' {s' : Shared} {ch : List Addr} (I : Inv X pins σ H s) (ho : s'.os = s.os) (u : Un (frs X.stack) ch H H' s.heap s'.heap) (hok : HOk X.prog X.w H' s'.heap) (hg : AllBare s'.gens)
    (hch : ∀ b ∈ ch, (b ∈ X.ex ∨ X.s₀.heap.objs.size ≤ b) ∧ b ≠ X.env.locals ∧ (∀ x c, X.env.cells.lookup x = some c → c ≠ b) ∧ ∀ p ∈ X.pn ++ pins, p.1 ≠ b) : Inv X pins σ H' s' := by
  obtain ⟨h', g', d', t', o'⟩ := s'
  have e : o' = s.os := ho
  subst e
  exact I.call (g' := g') (t' := t') (d' := d') u hok hg hch
end

/-! ### the judgements -/
/-- an exception: its class, its own dict's address (where it has one), the abstract heap behind it -/
abbrev XK := Value → Option Addr → Hp → Prop
abbrev St := List (Option V)
abbrev VK := V → Hp → Prop
/-- an expression's reading; a test's; an argument list's -/
abbrev TE := St → Hp → VK → Prop
abbrev TT := St → Hp → (Bool → Hp → Prop) → Prop
abbrev TA := St → Hp → (List V → Hp → Prop) → Prop
/-- what is wanted behind a statement -/
structure Ends where
  nx : St → Hp → Prop
  rt : VK
  bk : St → Hp → Prop := fun _ _ => False
  ct : St → Hp → Prop := fun _ _ => False
abbrev TS := Ends → St → Hp → Prop

def EP (X : Cx) (pins : List (Addr × Obj)) (σ : St) (Q : VK) (u : Value) (s' : Shared) : Prop := ∃ v H', Inv X pins σ H' s' ∧ RelV v u ∧ Q v H'
def TP (X : Cx) (pins : List (Addr × Obj)) (σ : St) (Q : Bool → Hp → Prop) (b : Bool) (s' : Shared) : Prop := ∃ H', Inv X pins σ H' s' ∧ Q b H'
def AP (X : Cx) (pins : List (Addr × Obj)) (σ : St) (Q : List V → Hp → Prop) (us : List Value) (s' : Shared) : Prop := ∃ vs H', Inv X pins σ H' s' ∧ Vals vs us ∧ Q vs H'
def SP (X : Cx) (pins : List (Addr × Obj)) (D : Ends) (f : Flow) (s' : Shared) : Prop :=
  match f with
  | .next => ∃ σ' H', Inv X pins σ' H' s' ∧ D.nx σ' H'
  | .brk => ∃ σ' H', Inv X pins σ' H' s' ∧ D.bk σ' H'
  | .cont => ∃ σ' H', Inv X pins σ' H' s' ∧ D.ct σ' H'
  | .ret u => ∃ v σ' H', Inv X pins σ' H' s' ∧ RelV v u ∧ D.rt v H'

def PE (X : Cx) (e : Expr) (t : TE) : Prop :=
  ∀ (pins : List (Addr × Obj)) (s : Shared) (σ : St) (H : Hp) (Q : VK), Inv X pins σ H s → t σ H Q → wpAny (model X.prog X.w) X.A (eval e X.env) (EP X pins σ Q) X.xe s
def PT (X : Cx) (e : Expr) (t : TT) : Prop :=
  ∀ (pins : List (Addr × Obj)) (s : Shared) (σ : St) (H : Hp) (Q : Bool → Hp → Prop), Inv X pins σ H s → t σ H Q → wpAny (model X.prog X.w) X.A (isTrue e X.env (eval e X.env)) (TP X pins σ Q) X.xe s
/-- a test whatever its 'whole' is (and, or) -/
def PW (X : Cx) (e : Expr) (t : TT) : Prop :=
  ∀ (whole : Sem Value) (pins : List (Addr × Obj)) (s : Shared) (σ : St) (H : Hp) (Q : Bool → Hp → Prop), Inv X pins σ H s → t σ H Q → wpAny (model X.prog X.w) X.A (isTrue e X.env whole) (TP X pins σ Q) X.xe s
theorem PW.pt {X : Cx} {e : Expr} {t : TT} (h : PW X e t) : PT X e t := h _
/-- an argument list (no star), from the left -/
def PA (X : Cx) (es : List Expr) (t : TA) : Prop :=
  ∀ (pos : Pos) (pins : List (Addr × Obj)) (s : Shared) (σ : St) (H : Hp) (Q : List V → Hp → Prop), Inv X pins σ H s → t σ H Q → wpAny (model X.prog X.w) X.A (spliced (backTo pos (starEach es X.env))) (AP X pins σ Q) X.xe s
def PS (X : Cx) (st : Stmt) (t : TS) : Prop :=
  ∀ (pins : List (Addr × Obj)) (s : Shared) (σ : St) (H : Hp) (D : Ends), Inv X pins σ H s → t D σ H → wpAny (model X.prog X.w) X.A (exec st X.env) (SP X pins D) X.xe s
def PSs (X : Cx) (st : List Stmt) (t : TS) : Prop :=
  ∀ (pins : List (Addr × Obj)) (s : Shared) (σ : St) (H : Hp) (D : Ends), Inv X pins σ H s → t D σ H → wpAny (model X.prog X.w) X.A (execs st X.env) (SP X pins D) X.xe s
/-- weaken the end -/
theorem thn {α : Type} {t : Sem α} {Q Q' : α → Shared → Prop} {M : Model} {A : Around} {E : Value → Shared → Prop} {s : Shared} (h : wpAny M A t Q E s) (hQ : ∀ a s, Q a s → Q' a s) : wpAny M A t Q' E s := wpAny_mono h hQ fun _ _ x => x
end L2

namespace L2
open PySem PySem.Spec PyProof.Rows
section
variable {X : Cx}


/-! ### names and constants -/
def tVar (i : Nat) : TE := fun σ H Q => ∃ v, σ[i]? = some (some v) ∧ Q v H
def tC (v : V) : TE := fun _ H Q => Q v H
theorem pe_var {i : Nat} {x : Str} {pos : Pos} (hN : X.N[i]? = some x) (hv : Vis X.env.scope x) (hd : (x == ("__debug__" : Str)) = false := by decide) (hcd : (x == ("__classdict__" : Str)) = false := by decide) : PE X (.Name x pos) (tVar i) := by
  intro pins s σ H Q I h
  obtain ⟨v, e, h⟩ := h
  obtain ⟨m, hn, hl⟩ := I.loc
  obtain ⟨u, r, l⟩ := hl i x v hN e hv
  have fin : EP X pins σ Q u s := ⟨v, H, I, r, h⟩
  rcases l with ⟨hk, hm⟩ | ⟨hk, c, hc, hcell⟩
  · exact wpAny_Name (wpAny_loadName_local I.ok.kind hk hn hm fin) hd
  · rcases hk with hk | hk
    · exact wpAny_Name (wpAny_loadName_cell I.ok.kind hk hc hcell fin) hd
    · exact wpAny_Name (wpAny_loadName_free I.ok.kind hk hc hcell fin hcd) hd
theorem pe_int {i j pos} : PE X (.Constant (.int i) j pos) (tC (.int i)) := fun _ _ _ H _ I h => wpAny_Constant_int ⟨.int i, H, I.tok _, ⟨_, rfl⟩, h⟩
theorem pe_bl {b j pos} : PE X (.Constant (.bool b) j pos) (tC (.bl b)) := fun _ _ _ H _ I h => Constant_bool ⟨.bl b, H, I, rfl, h⟩
theorem pe_non {j pos} : PE X (.Constant .none j pos) (tC .non) := fun _ _ _ H _ I h => Constant_none ⟨.non, H, I, rfl, h⟩
theorem pe_str {x j pos} : PE X (.Constant (.str x) j pos) (tC (.str x)) := fun _ _ _ H _ I h => Calls.Constant_str ⟨.str x, H, I.tok _, ⟨_, rfl⟩, h⟩

/-- a global name of the def -/
def Gl (X : Cx) (x : Str) : Prop := X.env.kindOf x = some .globalImplicit
theorem ld_glob {E : Value → Shared → Prop} {pins : List (Addr × Obj)} {s : Shared} {σ : St} {H : Hp} {x : Str} {u : Value} {pos : Pos} {Q : Value → Shared → Prop} (I : Inv X pins σ H s) (hg : Gl X x) (hm : X.mg x = some u) (h : Q u s)
    (hd : (x == ("__debug__" : Str)) = false := by decide) : wpAny (model X.prog X.w) X.A (eval (.Name x pos) X.env) Q E s :=
  Calls.Name_function_global I.ok.kind hg (Calls.loadGlobal_global (by rw [I.ok.glob]; exact I.mod.glob.keeps I.bk) hm h) hd
theorem ld_blt {E : Value → Shared → Prop} {pins : List (Addr × Obj)} {s : Shared} {σ : St} {H : Hp} {x : Str} {u : Value} {pos : Pos} {Q : Value → Shared → Prop} (I : Inv X pins σ H s) (hg : Gl X x) (hm : X.mg x = none) (hv : bootBuiltins x = some u) (h : Q u s)
    (hn : x ≠ "__name__" := by decide) (hd : (x == ("__debug__" : Str)) = false := by decide) : wpAny (model X.prog X.w) X.A (eval (.Name x pos) X.env) Q E s := by
  obtain ⟨mb, h1, h2⟩ := I.mod.blt
  exact Calls.Name_function_global I.ok.kind hg (Calls.loadGlobal_builtin (by rw [I.ok.glob]; exact I.mod.glob.keeps I.bk) hm (by rw [I.ok.blt]; exact h1.keeps I.bk) ((h2 x hn).trans hv) h) hd
/-- a module's constant, a class, a function, as a value -/
theorem pe_glob {x : Str} {v : V} {u : Value} {pos : Pos} (hg : Gl X x) (hm : X.mg x = some u) (r : RelV v u) (hd : (x == ("__debug__" : Str)) = false := by decide) : PE X (.Name x pos) (tC v) :=
  fun _ _ _ H _ I h => ld_glob I hg hm ⟨v, H, I, r, h⟩ hd
theorem pe_bltn {x : Str} {v : V} {u : Value} {pos : Pos} (hg : Gl X x) (hm : X.mg x = none) (hv : bootBuiltins x = some u) (r : RelV v u) (hn : x ≠ "__name__" := by decide) (hd : (x == ("__debug__" : Str)) = false := by decide) : PE X (.Name x pos) (tC v) :=
  fun _ _ _ H _ I h => ld_blt I hg hm hv ⟨v, H, I, r, h⟩ hn hd

/-! ### arithmetic -/
variable {a b : Expr} {ta tb : TE} {pos : Pos}

/-! ### comparisons -/
/-- a comparison as a value, as a test -/
def tB (t : TE) : TT := fun σ H Q => t σ H fun x H1 => ∃ c, x = .bl c ∧ Q c H1
/-- an expression whose value is a bool, as a test -/
theorem pt_val {e : Expr} {t : TE} (h : PE X e t) (he : ∀ whole, isTrue e X.env whole = (do let v ← whole; standAt e.pos; holding [v] (truthy v)) := by intro _; rfl) : PT X e (tB t) := by
  intro pins s σ H Q I hw
  refine isTrue_plain (thn (h pins s σ H _ I hw) fun v s1 ⟨x, H1, I1, r1, q1⟩ => ?_) (he _)
  obtain ⟨d, rfl, q⟩ := q1
  cases r1
  exact wpAny_truthy_bool ⟨H1, I1, q⟩

/-! ### and, or, not -/
variable {tA tB' : TT} {rest : List Expr}
def tOr (t u : TT) : TT := fun σ H Q => t σ H fun c H1 => if c = true then Q true H1 else u σ H1 Q
def tNot (t : TT) : TT := fun σ H Q => t σ H fun c H1 => Q (!c) H1
theorem pw_or1 (ha : PT X a tA) : PW X (.BoolOp .Or [a] pos) tA := by
  intro wh pins s σ H Q I h
  refine isTrue_or (thn (ha pins s σ H Q I h) fun c s1 e => ?_)
  cases c with
  | false => exact isTrue_or_nil e
  | true => exact e
theorem pw_or (ha : PT X a tA) (hb : PW X (.BoolOp .Or (b :: rest) pos) tB') : PW X (.BoolOp .Or (a :: b :: rest) pos) (tOr tA tB') := by
  intro wh pins s σ H Q I h
  refine isTrue_or (thn (ha pins s σ H _ I h) fun c s1 ⟨H1, I1, q1⟩ => ?_)
  cases c with
  | true => exact ⟨H1, I1, q1⟩
  | false => exact hb wh pins s1 σ H1 Q I1 q1
theorem pt_not (ha : PT X a tA) : PT X (.UnaryOp .Not a pos) (tNot tA) := by
  intro pins s σ H Q I h
  exact isTrue_not (ha pins s σ H (fun c H1 => Q (!c) H1) I h)
end
end L2

namespace L2
open PySem PySem.Spec PyProof.Rows

/-! ### a list, a tuple that is read: tracked, frozen, or an object of the module -/
def SqL (K : PySem.W.Frag) (H : Hp) (a : Addr) (xs : List V) : Prop :=
  Rd H a (.lst xs) ∨
    ∃ (o : Obj) (its : Array Value) (n : Nat), K.lookup a = some o ∧ o.cls = .type "list" ∧ o.dict = none ∧ o.data = .seq its n ∧ its.size ≤ sizeLine ∧ Vals xs its.toList
def SqT (K : PySem.W.Frag) (H : Hp) (a : Addr) (xs : List V) : Prop :=
  Rd H a (.tup xs) ∨
    ∃ (o : Obj) (its : Array Value) (n : Nat), K.lookup a = some o ∧ o.cls = .type "tuple" ∧ o.data = .seq its n ∧ its.size ≤ sizeLine ∧ Vals xs its.toList
def absV : Value → Option V
  | .none => some .non
  | .bool b => some (.bl b)
  | .int i _ => some (.int i)
  | .str x _ => some (.str x)
  | .bytes b _ => some (.byt b)
  | .float b _ => some (.flt b)
  | .ref a => some (.ref a)
  | .type n => some (.ty n)
  | _ => none
theorem RelV.abs {x : V} {u : Value} (r : RelV x u) : absV u = some x := by
  cases x with
  | non => cases r; rfl
  | bl _ => cases r; rfl
  | int _ => obtain ⟨t, rfl⟩ := r; rfl
  | str _ => obtain ⟨t, rfl⟩ := r; rfl
  | byt _ => obtain ⟨t, rfl⟩ := r; rfl
  | flt _ => obtain ⟨t, rfl⟩ := r; rfl
  | ref _ => cases r; rfl
  | ty _ => cases r; rfl
theorem RelV.inj {x y : V} {u : Value} (r : RelV x u) (q : RelV y u) : x = y := Option.some.inj (r.abs.symm.trans q.abs)
theorem Vals.inj : ∀ {xs ys : List V} {us : List Value}, Vals xs us → Vals ys us → xs = ys
  | _, _, _, .nil, .nil => rfl
  | _, _, _, .cons r t, .cons r' t' => by rw [r.inj r', Vals.inj t t']
section
variable {X : Cx} {pins : List (Addr × Obj)} {σ : St} {H : Hp} {s : Shared} {a : Addr} {xs ys : List V}
theorem SqL.of {K : PySem.W.Frag} (h : H a = some (.lst xs)) : SqL K H a xs := .inl (.inl h)
theorem SqT.of {K : PySem.W.Frag} (h : H a = some (.tup xs)) : SqT K H a xs := .inl (.inl h)
theorem Inv.list (I : Inv X pins σ H s) (h : SqL X.K H a xs) : ∃ its : List Value, Vals xs its ∧ PlainL s.heap a its.toArray ∧ xs.length ≤ sizeLine := by
  rcases h with h | ⟨o, its, n, hk, hc, hd, hs, hz, r⟩
  · obtain ⟨z, its, n, r, e⟩ := h.ok I.hok
    exact ⟨its, r, ⟨_, n, e, rfl, rfl, rfl⟩, z⟩
  · refine ⟨its.toList, r, ⟨o, n, I.kIn a o hk, hc, hd, by simpa using hs⟩, ?_⟩
    have e := r.length
    simp only [Array.length_toList] at e
    omega
theorem Inv.tuple (I : Inv X pins σ H s) (h : SqT X.K H a xs) : ∃ its : List Value, Vals xs its ∧ IsTup s.heap a its.toArray ∧ xs.length ≤ sizeLine := by
  rcases h with h | ⟨o, its, n, hk, hc, hs, hz, r⟩
  · obtain ⟨z, its, r, p⟩ := h.ok I.hok
    exact ⟨its, r, p, z⟩
  · refine ⟨its.toList, r, ⟨o, I.kIn a o hk, hc, n, by simpa using hs⟩, ?_⟩
    have e := r.length
    simp only [Array.length_toList] at e
    omega
theorem Inv.list_inj (I : Inv X pins σ H s) (h : SqL X.K H a xs) (h' : SqL X.K H a ys) : xs = ys := by
  obtain ⟨its, r, ⟨o, n, e, _, _, d⟩, _⟩ := I.list h
  obtain ⟨its', r', ⟨o', n', e', _, _, d'⟩, _⟩ := I.list h'
  rw [e] at e'; cases e'
  rw [d] at d'
  injection d' with d1 _
  have : its = its' := by simpa using congrArg Array.toList d1
  subst this
  exact r.inj r'
theorem Inv.tuple_inj (I : Inv X pins σ H s) (h : SqT X.K H a xs) (h' : SqT X.K H a ys) : xs = ys := by
  obtain ⟨its, r, ⟨o, e, _, n, d⟩, _⟩ := I.tuple h
  obtain ⟨its', r', ⟨o', e', _, n', d'⟩, _⟩ := I.tuple h'
  rw [e] at e'; cases e'
  rw [d] at d'
  injection d' with d1 _
  have : its = its' := by simpa using congrArg Array.toList d1
  subst this
  exact r.inj r'
end

/-! ### another wish about exceptions -/
abbrev Cx.wish (X : Cx) (E : Value → Shared → Prop) : Cx := { X with xe := E }
/-- no exception leaves -/
abbrev Cx.nox (X : Cx) : Cx := X.wish fun _ _ => False
theorem Cx.Ok.wish {X : Cx} (ok : X.Ok) (E : Value → Shared → Prop) : (X.wish E).Ok :=
  ⟨ok.mod, ok.kind, ok.glob, ok.blt, ok.above, ok.inj, ok.has, ok.cab, ok.hd, ok.frames, ok.stk, ok.exf, ok.bs, ok.bsz, ok.noex, ok.exfs, ok.funs, ok.frf⟩
theorem Cx.Ok.unwish {X : Cx} {E : Value → Shared → Prop} (ok : (X.wish E).Ok) : X.Ok :=
  ⟨ok.mod, ok.kind, ok.glob, ok.blt, ok.above, ok.inj, ok.has, ok.cab, ok.hd, ok.frames, ok.stk, ok.exf, ok.bs, ok.bsz, ok.noex, ok.exfs, ok.funs, ok.frf⟩
section
variable {X : Cx} {pins : List (Addr × Obj)} {σ : St} {H : Hp} {s : Shared} {E : Value → Shared → Prop}
theorem Inv.wish (I : Inv X pins σ H s) (E : Value → Shared → Prop) : Inv (X.wish E) pins σ H s := ⟨I.ok.wish E, I.os, I.bare, I.base, I.loc, I.cell, I.free, I.freeC, I.pin, I.hok, I.len⟩
theorem Inv.unwish (I : Inv (X.wish E) pins σ H s) : Inv X pins σ H s := ⟨I.ok.unwish, I.os, I.bare, I.base, I.loc, I.cell, I.free, I.freeC, I.pin, I.hok, I.len⟩
theorem SP.unwish {D : Ends} {f : Flow} {s' : Shared} (h : SP (X.wish E) pins D f s') : SP X pins D f s' := by
  cases f with
  | next => obtain ⟨σ', H', I, q⟩ := h; exact ⟨σ', H', I.unwish, q⟩
  | brk => obtain ⟨σ', H', I, q⟩ := h; exact ⟨σ', H', I.unwish, q⟩
  | cont => obtain ⟨σ', H', I, q⟩ := h; exact ⟨σ', H', I.unwish, q⟩
  | ret u => obtain ⟨v, σ', H', I, r, q⟩ := h; exact ⟨v, σ', H', I.unwish, r, q⟩
theorem PSs.nox {st : List Stmt} {t : TS} (h : PSs X.nox st t) : PSs X st t := fun pins s σ H D I hw =>
  wpAny_mono (h pins s σ H D (I.wish _) hw) (fun _ _ q => q.unwish) fun _ _ z => False.elim z
end

/-! ### blocks and small statements -/
section
variable {X : Cx} {st : Stmt} {rest : List Stmt} {t u : TS} {e : Expr} {te : TE} {pos : Pos}
def tNext : TS := fun D σ H => D.nx σ H
def tSeq (t u : TS) : TS := fun D σ H => t { D with nx := u D } σ H
theorem pss_nil : PSs X [] tNext := fun _ _ σ H _ I h => wpAny_execs_nil ⟨σ, H, I, h⟩
theorem pss_cons (h1 : PS X st t) (h2 : PSs X rest u) : PSs X (st :: rest) (tSeq t u) := by
  intro pins s σ H D I h
  refine wpAny_execs_cons (thn (h1 pins s σ H { D with nx := u D } I h) fun f s1 q => ?_)
  cases f with
  | next =>
    obtain ⟨σ', H', I', q⟩ := q
    exact h2 pins s1 σ' H' D I' q
  | ret v => exact q
  | brk => exact q
  | cont => exact q
theorem pss_one (h1 : PS X st t) : PSs X [st] t := by
  intro pins s σ H D I h
  refine wpAny_execs_cons (thn (h1 pins s σ H D I h) fun f s1 q => ?_)
  cases f with
  | next => exact wpAny_execs_nil q
  | ret v => exact q
  | brk => exact q
  | cont => exact q
/-- in a def's body nothing is shown -/
theorem Inv.quiet {pins : List (Addr × Obj)} {σ : St} {H : Hp} {s : Shared} (I : Inv X pins σ H s) : interactive X.env = false := by simp [interactive, I.ok.kind]
/-- an expression whose value is dropped -/
def tDrop (te : TE) : TS := fun D σ H => te σ H fun _ H1 => D.nx σ H1
theorem ps_expr (he : PE X e te) (hs : swapsWith e none pos.line X.env = pure false := by rfl) : PS X (.Expr e pos) (tDrop te) := by
  intro pins s σ H D I h
  exact wpAny_Expr_any (thn (he pins s σ H _ I h) fun v s1 ⟨x, H1, I1, r1, q1⟩ => ⟨σ, H1, I1, q1⟩) I.quiet hs
def tRet (te : TE) : TS := fun D σ H => te σ H D.rt
theorem ps_ret (he : PE X e te) : PS X (.Return (some e) pos) (tRet te) := by
  intro pins s σ H D I h
  exact wpAny_Return_some (thn (he pins s σ H _ I h) fun v s1 ⟨x, H1, I1, r1, q1⟩ => ⟨x, σ, H1, I1, r1, q1⟩)
def tIfS (c : TT) (t u : TS) : TS := fun D σ H => c σ H fun b H1 => if b = true then t D σ H1 else u D σ H1
theorem ps_if {c : Expr} {a b : List Stmt} {tc : TT} (hc : PT X c tc) (ha : PSs X a t) (hb : PSs X b u) : PS X (.If c a b pos) (tIfS tc t u) := by
  intro pins s σ H D I h
  refine wpAny_If (thn (hc pins s σ H _ I h) fun d s1 ⟨H1, I1, q1⟩ => ?_)
  cases d with
  | true => exact ha pins s1 σ H1 D I1 q1
  | false => exact hb pins s1 σ H1 D I1 q1
end

/-! ### targets -/
abbrev TG := V → St → Hp → (St → Hp → Prop) → Prop
abbrev TGs := List V → St → Hp → (St → Hp → Prop) → Prop
def PG (X : Cx) (target : Expr) (t : TG) : Prop :=
  ∀ (pins : List (Addr × Obj)) (s : Shared) (σ : St) (H : Hp) (v : V) (u : Value) (Q : St → Hp → Prop), Inv X pins σ H s → RelV v u → t v σ H Q →
    wpAny (model X.prog X.w) X.A (assign target X.env u) (fun _ s' => ∃ σ' H', Inv X pins σ' H' s' ∧ Q σ' H') X.xe s
/-- several targets, one after another -/
def PGs (X : Cx) (ts : List Expr) (t : TGs) : Prop :=
  ∀ (pins : List (Addr × Obj)) (s : Shared) (σ : St) (H : Hp) (vs : List V) (us : List Value) (Q : St → Hp → Prop), Inv X pins σ H s → Vals vs us → t vs σ H Q →
    wpAny (model X.prog X.w) X.A (assignInOrder ((assignEach ts X.env).map (·.2)) us) (fun _ s' => ∃ σ' H', Inv X pins σ' H' s' ∧ Q σ' H') X.xe s
/-- o[i] = v, by values -/
abbrev TSet := V → V → V → Hp → (Hp → Prop) → Prop
def PSet (X : Cx) (t : TSet) : Prop :=
  ∀ (pins : List (Addr × Obj)) (s : Shared) (σ : St) (H : Hp) (o i v : V) (ov iv u : Value) (Q : Hp → Prop), Inv X pins σ H s → RelV o ov → RelV i iv → RelV v u → t o i v H Q →
    wpAny (model X.prog X.w) X.A (setItem ov iv u) (fun _ s' => ∃ H', Inv X pins σ H' s' ∧ Q H') X.xe s
section
variable {X : Cx} {pos : Pos}
def gName (i : Nat) : TG := fun v σ H Q => Q (σ.set i (some v)) H
theorem pg_name {i : Nat} {x : Str} (hN : X.N.Nodup) (hi : X.N[i]? = some x) (hx : Loc X.env.scope x) (hf : X.fn x = true ∨ X.env.scope.names.lookup x = some .local := by first | exact .inl rfl | exact .inr rfl | assumption) : PG X (.Name x pos) (gName i) := by
  intro pins s σ H v u Q I r h
  exact wpAny_assign_Name (store_ok I hN hi hx r (fun s' I' => ⟨_, H, I', h⟩) hf)
def gNil : TGs := fun vs σ H Q => vs = [] ∧ Q σ H
def gCons (t : TG) (u : TGs) : TGs := fun vs σ H Q => ∃ v r, vs = v :: r ∧ t v σ H fun σ' H' => u r σ' H' Q
theorem pgs_nil : PGs X [] gNil := by
  intro pins s σ H vs us Q I r h
  obtain ⟨e, h⟩ := h
  subst e
  cases r
  exact assignInOrder_nil ⟨σ, H, I, h⟩
theorem pgs_cons {e : Expr} {es : List Expr} {t : TG} {u : TGs} (h1 : PG X e t) (h2 : PGs X es u)
    (hs : (assignEach (e :: es) X.env).map (·.2) = assign e X.env :: (assignEach es X.env).map (·.2) := by rfl) : PGs X (e :: es) (gCons t u) := by
  intro pins s σ H vs us Q I r h
  obtain ⟨v, vr, e1, h⟩ := h
  subst e1
  cases r with
  | cons r rr =>
    rw [hs]
    refine assignInOrder_cons (thn (h1 pins s σ H _ _ _ I r h) fun _ s1 ⟨σ1, H1, I1, q1⟩ => ?_)
    exact h2 pins s1 σ1 H1 _ _ Q I1 rr q1
/-- (a, b, ..) = a tuple of that length -/
def gTup (K : PySem.W.Frag) (n : Nat) (t : TGs) : TG := fun v σ H Q => ∃ a xs, v = .ref a ∧ SqT K H a xs ∧ xs.length = n ∧ t xs σ H Q
theorem pg_tup {es : List Expr} {k : Nat} {t : TGs} {n : Nat} (hc : X.calm = true) (h : PGs X es t)
    (hn : (assignEach es X.env).length = n := by rfl) (hst : (assignEach es X.env).findIdx? (·.1) = none := by rfl) : PG X (.Tuple es k pos) (gTup X.K n t) := by
  intro pins s σ H v u Q I r hw
  obtain ⟨a, xs, e1, hq, hl, hw⟩ := hw
  subst e1
  cases r
  obtain ⟨its, rv, ht, hz⟩ := I.tuple hq
  refine assign_Tuple_tuple (I.ok.hd hc) ht (by simp [hn, ← hl, rv.length]) hst fun h' hx => ?_
  have I1 : Inv X pins σ H { s with heap := h' } := I.kept (t' := s.toks) fun b o e => hx b o (Nat.ne_of_lt (Heap.lt_size e)) e
  exact h pins _ σ H xs _ Q I1 (by simpa using rv) hw
/-- o[i] = .. -/
def gSub (to ti : TE) (t : TSet) : TG := fun v σ H Q => to σ H fun o H1 => ti σ H1 fun i H2 => t o i v H2 fun H3 => Q σ H3
theorem pg_sub {o i : Expr} {to ti : TE} {t : TSet} (ho : PE X o to) (hi : PE X i ti) (hs : PSet X t)
    (ha : ∀ v, assign (.Subscript o i pos) X.env v = (do
      let ov ← holding [v] (eval o X.env)
      let iv ← holding [v, ov] (eval i X.env)
      standAt pos
      holding [v, ov, iv] (setItem ov iv v)
      release [v, ov, iv] []) := by intro _; rfl) : PG X (.Subscript o i pos) (gSub to ti t) := by
  intro pins s σ H v u Q I r h
  rw [ha]
  refine wpAny_bind (wpAny_holding (thn (ho pins s σ H _ I h) fun ov s1 ⟨x, H1, I1, r1, q1⟩ => ?_))
  refine wpAny_bind (wpAny_holding (thn (hi pins s1 σ H1 _ I1 q1) fun iv s2 ⟨y, H2, I2, r2, q2⟩ => ?_))
  refine wpAny_bind (wpAny_standAt (wpAny_bind (wpAny_holding (thn (hs pins s2 σ H2 x y v ov iv u _ I2 r1 r2 r q2) fun _ s3 ⟨H3, I3, q3⟩ => ?_))))
  exact wpAny_release ⟨σ, H3, I3, q3⟩
/-- target = value -/
def tAsg (te : TE) (g : TG) : TS := fun D σ H => te σ H fun x H1 => g x σ H1 D.nx
theorem ps_asg {tg e : Expr} {te : TE} {g : TG} (he : PE X e te) (hg : PG X tg g) (hs : swapsWithSole [tg] e pos.line X.env = pure false := by rfl) (hw : swappedStores [tg] e X.env = pure none := by rfl)
    (h1 : (assignEach [tg] X.env).map (·.2) = [assign tg X.env] := by rfl) : PS X (.Assign [tg] e pos) (tAsg te g) := by
  intro pins s σ H D I h
  refine wpAny_Assign_stores (thn (he pins s σ H _ I h) fun v s1 ⟨x, H1, I1, r1, q1⟩ => ?_) hs hw
  rw [h1]
  exact thn (hg pins s1 σ H1 x v _ I1 r1 q1) fun _ s2 q => q
/-- name = value -/
theorem ps_set {i : Nat} {x : Str} {e : Expr} {te : TE} {pos' : Pos} (hN : X.N.Nodup) (hi : X.N[i]? = some x) (hx : Loc X.env.scope x) (he : PE X e te) (hs : swapsWith e (some (.Name x pos')) pos.line X.env = pure false := by rfl) (hf : X.fn x = true ∨ X.env.scope.names.lookup x = some .local := by first | exact .inl rfl | exact .inr rfl | assumption) :
    PS X (.Assign [.Name x pos'] e pos) (tAsg te (gName i)) := by
  intro pins s σ H D I h
  refine wpAny_Assign_Name (thn (he pins s σ H _ I h) fun v s1 ⟨y, H1, I1, r1, q1⟩ => ?_) hs
  exact store_ok I1 hN hi hx r1 (fun s2 I2 => ⟨_, H1, I2, q1⟩) hf
end

/-! ### while -/
section
variable {X : Cx} {pos : Pos}
end

/-! ### what a loop or a comprehension walks -/
/-- at turn i: it yields x (the heap may grow), or it stops -/
structure It where
  go : Nat → Hp → Prop
  yld : Nat → Hp → V → Hp → Prop
  stop : Nat → Hp → Prop
/-- the iterator's own objects may turn: they are not the frame's, not pinned, younger than the entry (or a comprehension's own) -/
def FpOk (X : Cx) (pins : List (Addr × Obj)) (H : Hp) (b : Addr) : Prop :=
  H b = none ∧ b ≠ X.env.locals ∧ b ∉ X.fs ∧ (b ∈ X.ex ∨ X.s₀.heap.objs.size ≤ b) ∧ (∀ x c, X.env.cells.lookup x = some c → c ≠ b) ∧ ∀ p ∈ X.pn ++ pins, p.1 ≠ b
theorem Inv.fpOk {X : Cx} {pins : List (Addr × Obj)} {σ : St} {H H' : Hp} {s : Shared} {b : Addr} (I : Inv X pins σ H s) (hb : s.heap.objs.size ≤ b) (hn : H' b = none) : FpOk X pins H' b := by
  refine ⟨hn, Nat.ne_of_gt (Nat.lt_of_lt_of_le I.lt hb), I.nofs hb, .inr (Nat.le_trans I.sz hb), fun x c e z => ?_, fun p hp z => ?_⟩
  · obtain ⟨v, q⟩ := I.cell x c e
    exact absurd (Nat.lt_of_lt_of_le q.lt (by rw [z]; exact hb)) (Nat.lt_irrefl _)
  · exact absurd (Nat.lt_of_lt_of_le (Heap.lt_size (I.pin p hp).1) (by rw [z]; exact hb)) (Nat.lt_irrefl _)
structure Turn (P : Program) (w : World) (K : PySem.W.Frag) (tg : Expr) (J : It) (fp : List Addr) (it : Addr) (tn : Nat → Heap → Prop) : Prop where
  mem : it ∈ fp
  obj : ∀ i h, tn i h → ∀ b ∈ fp, ∃ o, h.get? b = some o ∧ ∀ v, o.data ≠ .cell v
  keep : ∀ i h h', tn i h → (∀ b ∈ fp, ∀ o, h.get? b = some o → h'.get? b = some o) → tn i h'
  item : ∀ (X : Cx), X.prog = P → X.w = w → X.K = K → X.calm = true → ∀ (i : Nat) (pins : List (Addr × Obj)) (s : Shared) (σ : St) (H : Hp) (E : Value → Shared → Prop), Inv X pins σ H s → (∀ b ∈ fp, FpOk X pins H b) → tn i s.heap → J.go i H →
    wpAny (model P w) X.A (pyNext (.ref it)) (fun r s1 => ∃ u, r = some u ∧
      wpAny (model P w) X.A (letOwnedTupleGo tg (.ref it) u) (fun _ s2 => ∃ x H', Inv X pins σ H' s2 ∧ RelV x u ∧ J.yld i H x H' ∧ tn (i + 1) s2.heap ∧ ∀ b ∈ fp, H' b = none) E s1) E s
  done : ∀ (X : Cx), X.prog = P → X.w = w → X.K = K → X.calm = true → ∀ (i : Nat) (pins : List (Addr × Obj)) (s : Shared) (σ : St) (H : Hp) (E : Value → Shared → Prop), Inv X pins σ H s → (∀ b ∈ fp, FpOk X pins H b) → tn i s.heap → J.stop i H →
    wpAny (model P w) X.A (pyNext (.ref it)) (fun r s1 => r = none ∧ Inv X pins σ H s1) E s
  self : ∀ (A : Around) (i : Nat) (s : Shared) (Q : Value → Shared → Prop) (E : Value → Shared → Prop), tn i s.heap → Q (.ref it) s → wpAny (model P w) A (pyIter (.ref it)) Q E s
abbrev TI := St → Hp → (It → Hp → Prop) → Prop
/-- an iterator has come -/
def PIE (X : Cx) (pins : List (Addr × Obj)) (σ : St) (tg : Expr) (R : It → Hp → Prop) (itv : Value) (s2 : Shared) : Prop :=
  ∃ (it : Addr) (fp : List Addr) (tn : Nat → Heap → Prop) (J : It) (H' : Hp), itv = .ref it ∧ Inv X pins σ H' s2 ∧ Turn X.prog X.w X.K tg J fp it tn ∧ tn 0 s2.heap ∧ (∀ b ∈ fp, FpOk X pins H' b) ∧ R J H'
def PI (X : Cx) (tg iter : Expr) (wi : TI) : Prop :=
  ∀ (pins : List (Addr × Obj)) (s : Shared) (σ : St) (H : Hp) (R : It → Hp → Prop), Inv X pins σ H s → wi σ H R →
    wpAny (model X.prog X.w) X.A (eval iter X.env) (fun v s1 => wpAny (model X.prog X.w) X.A (pyIter v) (PIE X pins σ tg R) X.xe s1) X.xe s

/-- the step ahead of the store is nothing for an iterator that keeps no tuple -/
theorem go_of {M : Model} {A : Around} {E : Value → Shared → Prop} {s : Shared} {tg : Expr} {it : Addr} {u : Value} {o : Obj} {n : String} {vs : Array Value} {Q : Unit → Shared → Prop} (ho : s.heap.get? it = some o) (hc : o.cls = .type n) (hd : o.data = .fields vs)
    (hn : ["enumerate", "zip", "dict_itemiterator", "dict_reverseitemiterator", "odict_iterator", "itertools.zip_longest", "itertools.pairwise"].contains n = false) (hQ : Q () s) : wpAny M A (letOwnedTupleGo tg (.ref it) u) Q E s := by
  unfold letOwnedTupleGo
  cases tg <;> first
    | exact wpAny_pure hQ
    | (cases u <;> first
        | exact wpAny_pure hQ
        | (refine wpAny_bind (wpAny_load ho ?_)
           rw [hc, hd]
           show wpAny M A (if (["enumerate", "zip", "dict_itemiterator", "dict_reverseitemiterator", "odict_iterator", "itertools.zip_longest", "itertools.pairwise"].contains n && vs[0]? == some (rawInt _)) = true then _ else _) Q E s
           rw [if_neg (by intro h; rw [hn, Bool.false_and] at h; cases h)]
           exact wpAny_pure hQ))

/-- the list at a, as it stands at each turn (a loop may append to it) -/
def Itl (K : PySem.W.Frag) (a : Addr) : It :=
  ⟨fun i H => ∃ xs x, SqL K H a xs ∧ xs[i]? = some x, fun i H x H' => H' = H ∧ ∀ xs, SqL K H a xs → xs[i]? = some x, fun i H => ∃ xs, SqL K H a xs ∧ xs.length ≤ i⟩
def Itt (K : PySem.W.Frag) (a : Addr) : It :=
  ⟨fun i H => ∃ xs x, SqT K H a xs ∧ xs[i]? = some x, fun i H x H' => H' = H ∧ ∀ xs, SqT K H a xs → xs[i]? = some x, fun i H => ∃ xs, SqT K H a xs ∧ xs.length ≤ i⟩
/-- lo, lo + 1, .. (n of them) -/
def Itr (lo : Int) (n : Nat) : It := ⟨fun i _ => i < n, fun i H x H' => H' = H ∧ x = .int (lo + i), fun i _ => n ≤ i⟩
theorem turn_list {P : Program} {w : World} {K : PySem.W.Frag} {tg : Expr} (a it : Addr) : Turn P w K tg (Itl K a) [it] it (fun i h => h.IsListIter it a i) where
  mem := by simp
  obj := fun i h st b hb => by
    have e : b = it := by simpa using hb
    subst e
    obtain ⟨o, e, c, d⟩ := st
    exact ⟨o, e, fun v z => by rw [d] at z; cases z⟩
  keep := fun i h h' st k => st.at fun o e => k it (by simp) o e
  item := by
    intro X hP hw hK hc i pins s σ H E I hf st hg
    subst hP hw hK
    obtain ⟨xs, x, hq, hx⟩ := hg
    obtain ⟨its, rv, p, hz⟩ := I.list hq
    obtain ⟨u, hu, ru⟩ := rv.get hx
    obtain ⟨f0, f1, f2, f3, f4, f5⟩ := hf it (by simp)
    refine wpAny_pyNext_list_item st p.isList (x := u) (by simpa using hu) fun h' st' sb => ?_
    have I1 : Inv X pins σ H { s with heap := h' } := I.turned (t' := s.toks) (fun b o hb e => (sb.2 b hb).trans e) f0 f1 f3 f4 f5
    obtain ⟨o, e, c, d⟩ := id st'
    exact ⟨u, rfl, go_of (s := { s with heap := h' }) e c d (by decide) ⟨x, H, I1, ru, ⟨rfl, fun ys hy => by rw [I.list_inj hy hq]; exact hx⟩, st', fun b hb => (hf b hb).1⟩⟩
  done := by
    intro X hP hw hK hc i pins s σ H E I hf st hg
    subst hP hw hK
    obtain ⟨xs, hq, hx⟩ := hg
    obtain ⟨its, rv, p, hz⟩ := I.list hq
    obtain ⟨f0, f1, f2, f3, f4, f5⟩ := hf it (by simp)
    have hl := rv.length
    exact wpAny_pyNext_list_end (I.ok.hd hc) st p.isList (by simp; omega) fun h' eb => ⟨rfl, I.turned (t' := s.toks) (fun b o hb e => eb b o hb e) f0 f1 f3 f4 f5⟩
  self := fun _ _ _ _ _ st h => wpAny_pyIter_listiter st h
theorem turn_tuple {P : Program} {w : World} {K : PySem.W.Frag} {tg : Expr} (a it : Addr) : Turn P w K tg (Itt K a) [it] it (fun i h => h.IsTupleIter it a i) where
  mem := by simp
  obj := fun i h st b hb => by
    have e : b = it := by simpa using hb
    subst e
    obtain ⟨o, e, c, d⟩ := st
    exact ⟨o, e, fun v z => by rw [d] at z; cases z⟩
  keep := fun i h h' st k => st.at fun o e => k it (by simp) o e
  item := by
    intro X hP hw hK hc i pins s σ H E I hf st hg
    subst hP hw hK
    obtain ⟨xs, x, hq, hx⟩ := hg
    obtain ⟨its, rv, p, hz⟩ := I.tuple hq
    obtain ⟨u, hu, ru⟩ := rv.get hx
    obtain ⟨f0, f1, f2, f3, f4, f5⟩ := hf it (by simp)
    refine wpAny_pyNext_tuple_item st (show s.heap.IsTuple a its.toArray from p) (x := u) (by simpa using hu) fun h' st' sb => ?_
    have I1 : Inv X pins σ H { s with heap := h' } := I.turned (t' := s.toks) (fun b o hb e => (sb.2 b hb).trans e) f0 f1 f3 f4 f5
    obtain ⟨o, e, c, d⟩ := id st'
    exact ⟨u, rfl, go_of (s := { s with heap := h' }) e c d (by decide) ⟨x, H, I1, ru, ⟨rfl, fun ys hy => by rw [I.tuple_inj hy hq]; exact hx⟩, st', fun b hb => (hf b hb).1⟩⟩
  done := by
    intro X hP hw hK hc i pins s σ H E I hf st hg
    subst hP hw hK
    obtain ⟨xs, hq, hx⟩ := hg
    obtain ⟨its, rv, p, hz⟩ := I.tuple hq
    obtain ⟨f0, f1, f2, f3, f4, f5⟩ := hf it (by simp)
    have hl := rv.length
    exact wpAny_pyNext_tuple_end (I.ok.hd hc) st (show s.heap.IsTuple a its.toArray from p) (by simp; omega) fun h' eb => ⟨rfl, I.turned (t' := s.toks) (fun b o hb e => eb b o hb e) f0 f1 f3 f4 f5⟩
  self := fun _ _ _ _ _ st h => wpAny_pyIter_tupleiter st h
theorem turn_range {P : Program} {w : World} {K : PySem.W.Frag} {tg : Expr} (it : Addr) (lo : Int) (n : Nat) : Turn P w K tg (Itr lo n) [it] it (fun i h => IsRangeIter h it (lo + (i : Nat) * 1) ((n : Int) - (i : Nat)) 1) where
  mem := by simp
  obj := fun i h st b hb => by
    have e : b = it := by simpa using hb
    subst e
    exact ⟨_, st, fun v z => by
      have z' : Data.fields _ = Data.cell v := z
      cases z'⟩
  keep := fun i h h' st k => k it (by simp) _ st
  item := by
    intro X hP hw hK hc i pins s σ H E I hf st hg
    subst hP hw hK
    obtain ⟨f0, f1, f2, f3, f4, f5⟩ := hf it (by simp)
    have W := Walks.range (prog := X.prog) (w := X.w) (I.ok.hd hc) it lo 1 n
    refine W.item i s _ _ hg st fun v h' tk hv st' kk => ?_
    obtain ⟨t, rfl⟩ := hv
    have I1 : Inv X pins σ H { s with heap := h', toks := tk } := I.turned (fun b o hb e => kk b o (by simpa using hb) e) f0 f1 f3 f4 f5
    refine ⟨_, rfl, go_of (s := { s with heap := h', toks := tk }) (n := "range_iterator") st' rfl rfl (by decide) ⟨.int (lo + i), H, I1, ⟨t, ?_⟩, ⟨rfl, rfl⟩, st', fun b hb => (hf b hb).1⟩⟩
    rw [Int.mul_one]
  done := by
    intro X hP hw hK hc i pins s σ H E I hf st hg
    subst hP hw hK
    obtain ⟨f0, f1, f2, f3, f4, f5⟩ := hf it (by simp)
    exact wpAny_pyNext_range_end (I.ok.hd hc) st (by have : n ≤ i := hg; omega) fun h' eb => ⟨rfl, I.turned (t' := s.toks) (fun b o hb e => eb b o hb e) f0 f1 f3 f4 f5⟩
  self := fun _ _ _ _ _ st h => wpAny_pyIter_rangeiter st h
end L2

namespace L2
open PySem PySem.Spec PyProof.Rows
section
variable {X : Cx} {tg : Expr}
def iList (K : PySem.W.Frag) (tl : TE) : TI := fun σ H R => tl σ H fun x H1 => ∃ a, x = .ref a ∧ (∃ xs, SqL K H1 a xs) ∧ R (Itl K a) H1
def iTup (K : PySem.W.Frag) (tl : TE) : TI := fun σ H R => tl σ H fun x H1 => ∃ a, x = .ref a ∧ (∃ xs, SqT K H1 a xs) ∧ R (Itt K a) H1
theorem pi_list {l : Expr} {tl : TE} (hl : PE X l tl) : PI X tg l (iList X.K tl) := by
  intro pins s σ H R I h
  refine thn (hl pins s σ H _ I h) fun v s1 ⟨x, H1, I1, r1, q1⟩ => ?_
  obtain ⟨a, e, ⟨xs, hq⟩, q⟩ := q1
  subst e
  cases r1
  obtain ⟨its, rv, p, hz⟩ := I1.list hq
  refine wpAny_pyIter_list p.isList ?_
  refine ⟨s1.heap.objs.size, [s1.heap.objs.size], _, _, H1, rfl, I1.kept (t' := s1.toks) fun b o e => Heap.get?_push_of_some _ e, turn_list a _, ⟨_, Heap.get?_push_size _ rfl, rfl, rfl⟩, fun b hb => ?_, q⟩
  have e : b = s1.heap.objs.size := by simpa using hb
  subst e
  exact I1.fpOk (Nat.le_refl _) (I1.hok.fresh (Nat.le_refl _))
theorem pi_tup {l : Expr} {tl : TE} (hl : PE X l tl) : PI X tg l (iTup X.K tl) := by
  intro pins s σ H R I h
  refine thn (hl pins s σ H _ I h) fun v s1 ⟨x, H1, I1, r1, q1⟩ => ?_
  obtain ⟨a, e, ⟨xs, hq⟩, q⟩ := q1
  subst e
  cases r1
  obtain ⟨its, rv, p, hz⟩ := I1.tuple hq
  refine wpAny_pyIter_tuple (show s1.heap.IsTuple a its.toArray from p) ?_
  refine ⟨s1.heap.objs.size, [s1.heap.objs.size], _, _, H1, rfl, I1.kept (t' := s1.toks) fun b o e => Heap.get?_push_of_some _ e, turn_tuple a _, ⟨_, Heap.get?_push_size _ rfl, rfl, rfl⟩, fun b hb => ?_, q⟩
  have e : b = s1.heap.objs.size := by simpa using hb
  subst e
  exact I1.fpOk (Nat.le_refl _) (I1.hok.fresh (Nat.le_refl _))
/-- a range object just made, walked -/
theorem range_it {pins : List (Addr × Obj)} {σ : St} {H : Hp} {s : Shared} {R : It → Hp → Prop} {E : Value → Shared → Prop} {lo hi : Int} {t u v : Tok} {tk : Nat} (I : Inv X pins σ H s) (h1 : -(2 ^ 62) ≤ lo) (h2 : lo < 2 ^ 62) (h3 : -(2 ^ 62) ≤ hi) (h4 : hi < 2 ^ 62)
    (q : R (Itr lo (hi - lo).toNat) H) : wpAny (model X.prog X.w) X.A (pyIter (.ref s.heap.objs.size)) (PIE X pins σ tg R) E { s with heap := s.heap.push { cls := .type "range", data := .fields #[.int lo t, .int hi u, .int 1 v] }, toks := tk } := by
  refine wpAny_pyIter_range (IsRange.new ..) (small_one h1 h2 h3 h4) ?_
  have I1 : Inv X pins σ H { s with heap := s.heap.push { cls := .type "range", data := .fields #[.int lo t, .int hi u, .int 1 v] }, toks := tk } := I.kept fun b o e => Heap.get?_push_of_some _ e
  refine ⟨(s.heap.push { cls := .type "range", data := .fields #[.int lo t, .int hi u, .int 1 v] }).objs.size, [(s.heap.push { cls := .type "range", data := .fields #[.int lo t, .int hi u, .int 1 v] }).objs.size], _, _, H, rfl,
    I1.kept (t' := tk) fun b o e => Heap.get?_push_of_some _ e, turn_range _ lo (hi - lo).toNat, ?_, fun b hb => ?_, q⟩
  · have e1 : lo + ((0 : Nat) : Int) * 1 = lo := by simp
    have e2 : (((hi - lo).toNat : Nat) : Int) - ((0 : Nat) : Int) = Builtin.Range.rangeSize lo hi 1 := by rw [rangeSize_one]; split <;> omega
    show IsRangeIter _ _ (lo + ((0 : Nat) : Int) * 1) ((((hi - lo).toNat : Nat) : Int) - ((0 : Nat) : Int)) 1
    rw [e1, e2]
    exact Heap.get?_push_size _ rfl
  · have e : b = (s.heap.push { cls := .type "range", data := .fields #[.int lo t, .int hi u, .int 1 v] }).objs.size := by simpa using hb
    subst e
    exact I1.fpOk (Nat.le_refl _) (I1.hok.fresh (Nat.le_refl _))
def iRng1 (ta : TA) : TI := fun σ H R => ta σ H fun vs H1 => ∃ j : Int, vs = [.int j] ∧ -(2 ^ 62) ≤ j ∧ j < 2 ^ 62 ∧ R (Itr 0 j.toNat) H1
theorem pi_range1 {a : Expr} {ta : TA} {p pos : Pos} (hg : Gl X "range") (hm : X.mg "range" = none) (ha : PA X [a] ta) (hs : starEach [a] X.env = [(false, eval a X.env)] := by rfl) : PI X tg (.Call (.Name "range" p) [a] [] pos) (iRng1 ta) := by
  intro pins s σ H R I h
  refine Call_ (ld_blt I hg hm boot_range (PyProof.Rows.callWith_type1 (thn (ha pos pins s σ H _ I h) fun us s1 ⟨vs, H1, I1, r1, q1⟩ => ?_) hs rfl))
  obtain ⟨j, e, q1, q2, q⟩ := q1
  subst e
  cases r1 with
  | cons r rr =>
    cases rr
    obtain ⟨t, rfl⟩ := r
    exact call_range_1 (range_it I1 (by omega) (by omega) q1 q2 (by simpa using q))

/-! ### for -/
/-- W: the invariant by the turn and a measure; N: what the body is to reach -/
def tFor (wi : TI) (g : TG) (tb : TS) : TS := fun D σ H => wi σ H fun J H1 => ∃ W : Nat → Nat → St → Hp → Prop, (∃ m, W 0 m σ H1) ∧ ∀ i m σ H, W i m σ H →
  (J.stop i H ∧ D.nx σ H) ∨ (J.go i H ∧ ∃ N : St → Hp → Prop, (∀ σ' H', N σ' H' → ∃ m', m' < m ∧ W (i + 1) m' σ' H') ∧ ∀ x H', J.yld i H x H' → g x σ H' fun σ2 H2 => tb { D with nx := N, ct := N, bk := D.nx } σ2 H2)
/-- the records at fp as they stand -/
def pinsAt (fp : List Addr) (h : Heap) : List (Addr × Obj) := fp.filterMap fun b => (h.get? b).map fun o => (b, o)
theorem mem_pinsAt {fp : List Addr} {h : Heap} {b : Addr} {o : Obj} (hb : b ∈ fp) (e : h.get? b = some o) : (b, o) ∈ pinsAt fp h := List.mem_filterMap.mpr ⟨b, hb, by rw [e]; rfl⟩
theorem of_pinsAt {fp : List Addr} {h : Heap} {p : Addr × Obj} (hp : p ∈ pinsAt fp h) : p.1 ∈ fp ∧ h.get? p.1 = some p.2 := by
  obtain ⟨b, hb, e⟩ := List.mem_filterMap.mp hp
  cases q : h.get? b with
  | none => rw [q] at e; cases e
  | some o =>
    rw [q] at e
    have e' : (b, o) = p := Option.some.inj e
    subst e'
    exact ⟨hb, q⟩
theorem Inv.pinned {pins : List (Addr × Obj)} {σ : St} {H : Hp} {s : Shared} {fp : List Addr} (I : Inv X pins σ H s) (hf : ∀ b ∈ fp, FpOk X pins H b) (ho : ∀ b ∈ fp, ∃ o, s.heap.get? b = some o ∧ ∀ v, o.data ≠ .cell v) : Inv X (pins ++ pinsAt fp s.heap) σ H s :=
  I.pins_of fun p hp => (List.mem_append.mp hp).elim (fun z => I.pin p (List.mem_append_right _ z)) fun z => by
    obtain ⟨hb, e⟩ := of_pinsAt z
    obtain ⟨f0, f1, f2, _⟩ := hf p.1 hb
    obtain ⟨o, e', d⟩ := ho p.1 hb
    rw [e] at e'; cases e'
    exact ⟨e, f0, f1, f2, d⟩
theorem Inv.unpinned {pins pl : List (Addr × Obj)} {σ : St} {H : Hp} {s : Shared} (I : Inv X (pins ++ pl) σ H s) : Inv X pins σ H s := I.pins_of fun p hp => I.pin p (List.mem_append_right _ (List.mem_append_left _ hp))
theorem ps_for {iter : Expr} {body : List Stmt} {wi : TI} {g : TG} {tb : TS} {pos : Pos} (hp : PassesOwn (model X.prog X.w) X.A X.env X.xe) (hc : X.calm = true) (hi : PI X tg iter wi) (hg : PG X tg g) (hb : PSs X body tb)
    (hs : ∀ x, foldedSetIterable iter X.env x = pure x := by intro _; rfl) : PS X (.For tg iter body [] pos) (tFor wi g tb) := by
  intro pins s σ H D I h
  refine wpAny_For (thn (hi pins s σ H _ I h) fun v s1 h1 => thn h1 fun itv s2 h2 => ?_) hs
  obtain ⟨it, fp, tn, J, H2, e, I2, T, st2, f2, W, ⟨m0, w0⟩, turn⟩ := h2
  subst e
  -- what stays true of the iterator's objects through the loop
  have stat : ∀ {H' : Hp}, (∀ b ∈ fp, H' b = none) → ∀ b ∈ fp, FpOk X pins H' b := fun hn b hb => ⟨hn b hb, (f2 b hb).2⟩
  refine codeAny_forLoop_any (fun n s' => ∃ i σ' H', Inv X pins σ' H' s' ∧ tn i s'.heap ∧ (∀ b ∈ fp, H' b = none) ∧ W i n σ' H') ?_ m0 ⟨0, σ, H2, I2, st2, fun b hb => (f2 b hb).1, w0⟩
  rintro n s3 ⟨i, σ3, H3, I3, st3, fr3, w3⟩
  rcases turn i n σ3 H3 w3 with ⟨stop, qn⟩ | ⟨go, N, hN, step⟩
  · refine wpAny_passesOwn hp (thn (T.done X rfl rfl rfl hc i pins s3 σ3 H3 X.xe I3 (stat fr3) st3 stop) fun r s4 ⟨hr, I4⟩ => ?_)
    subst hr
    exact wpAny_execs_nil ⟨σ3, H3, I4, qn⟩
  · refine wpAny_passesOwn hp (thn (T.item X rfl rfl rfl hc i pins s3 σ3 H3 X.xe I3 (stat fr3) st3 go) fun r s4 ⟨u, hr, h4⟩ => ?_)
    subst hr
    refine wpAny_passesOwn hp (thn h4 fun _ s5 ⟨x, H5, I5, r5, y5, st5, fr5⟩ => ?_)
    have I5' := I5.pinned (stat fr5) (T.obj _ _ st5)
    refine wpAny_passesOwn hp (thn (hg _ s5 σ3 H5 x u _ I5' r5 (step x H5 y5)) fun _ s6 ⟨σ6, H6, I6, q6⟩ => ?_)
    refine wpAny_passesOwn hp (thn (hb _ s6 σ6 H6 _ I6 q6) fun f s7 q7 => ?_)
    have again : ∀ {σ7 : St} {H7 : Hp}, Inv X (pins ++ pinsAt fp s5.heap) σ7 H7 s7 → N σ7 H7 → ∃ m, m < n ∧ ∃ i σ' H', Inv X pins σ' H' s7 ∧ tn i s7.heap ∧ (∀ b ∈ fp, H' b = none) ∧ W i m σ' H' := fun {σ7 H7} I7 n7 => by
      obtain ⟨m', hm, w7⟩ := hN σ7 H7 n7
      refine ⟨m', hm, i + 1, σ7, H7, I7.unpinned, T.keep _ _ _ st5 fun b hb o e => (I7.pin (b, o) (List.mem_append_right _ (List.mem_append_right _ (mem_pinsAt hb e)))).1, fun b hb => ?_, w7⟩
      obtain ⟨o, e, d⟩ := T.obj _ _ st5 b hb
      exact (I7.pin (b, o) (List.mem_append_right _ (List.mem_append_right _ (mem_pinsAt hb e)))).2.1
    cases f with
    | next => obtain ⟨σ7, H7, I7, n7⟩ := q7; exact again I7 n7
    | cont => obtain ⟨σ7, H7, I7, n7⟩ := q7; exact again I7 n7
    | brk => obtain ⟨σ7, H7, I7, q7⟩ := q7; exact ⟨σ7, H7, I7.unpinned, q7⟩
    | ret v => obtain ⟨x7, σ7, H7, I7, r7, q7⟩ := q7; exact ⟨x7, σ7, H7, I7.unpinned, r7, q7⟩
end

/-! ### the forms one uses -/
/-- over a list that the body leaves as it is -/
theorem for_list {K : PySem.W.Frag} {a : Addr} {xs : List V} {g : TG} {tb : TS} {D : Ends} {σ : St} {H : Hp} (Pv : Nat → St → Hp → Prop) (h0 : Pv 0 σ H) (hl : ∀ i σ H, i ≤ xs.length → Pv i σ H → SqL K H a xs)
    (hs : ∀ i x σ H, xs[i]? = some x → Pv i σ H → g x σ H fun σ2 H2 => tb { D with nx := Pv (i + 1), ct := Pv (i + 1), bk := D.nx } σ2 H2) (hd : ∀ σ H, Pv xs.length σ H → D.nx σ H) :
    ∃ W : Nat → Nat → St → Hp → Prop, (∃ m, W 0 m σ H) ∧ ∀ i m σ H, W i m σ H →
      ((Itl K a).stop i H ∧ D.nx σ H) ∨ ((Itl K a).go i H ∧ ∃ N : St → Hp → Prop, (∀ σ' H', N σ' H' → ∃ m', m' < m ∧ W (i + 1) m' σ' H') ∧ ∀ x H', (Itl K a).yld i H x H' → g x σ H' fun σ2 H2 => tb { D with nx := N, ct := N, bk := D.nx } σ2 H2) := by
  refine ⟨fun i m σ H => m = xs.length - i ∧ i ≤ xs.length ∧ Pv i σ H, ⟨xs.length, by simp, Nat.zero_le _, h0⟩, ?_⟩
  rintro i m σ H ⟨rfl, hi, p⟩
  have q := hl i σ H hi p
  by_cases hlt : i < xs.length
  · refine .inr ⟨⟨xs, xs[i], q, by simp [hlt]⟩, Pv (i + 1), fun σ' H' p' => ⟨xs.length - (i + 1), by omega, rfl, hlt, p'⟩, fun x H' y => ?_⟩
    obtain ⟨e, y⟩ := y
    subst e
    exact hs i x σ _ (y xs q) p
  · have e : i = xs.length := by omega
    subst e
    exact .inl ⟨⟨xs, q, Nat.le_refl _⟩, hd σ H p⟩
theorem for_range {lo : Int} {n : Nat} {g : TG} {tb : TS} {D : Ends} {σ : St} {H : Hp} (Pv : Nat → St → Hp → Prop) (h0 : Pv 0 σ H)
    (hs : ∀ i σ H, i < n → Pv i σ H → g (.int (lo + i)) σ H fun σ2 H2 => tb { D with nx := Pv (i + 1), ct := Pv (i + 1), bk := D.nx } σ2 H2) (hd : ∀ σ H, Pv n σ H → D.nx σ H) :
    ∃ W : Nat → Nat → St → Hp → Prop, (∃ m, W 0 m σ H) ∧ ∀ i m σ H, W i m σ H →
      ((Itr lo n).stop i H ∧ D.nx σ H) ∨ ((Itr lo n).go i H ∧ ∃ N : St → Hp → Prop, (∀ σ' H', N σ' H' → ∃ m', m' < m ∧ W (i + 1) m' σ' H') ∧ ∀ x H', (Itr lo n).yld i H x H' → g x σ H' fun σ2 H2 => tb { D with nx := N, ct := N, bk := D.nx } σ2 H2) := by
  refine ⟨fun i m σ H => m = n - i ∧ i ≤ n ∧ Pv i σ H, ⟨n, by simp, Nat.zero_le _, h0⟩, ?_⟩
  rintro i m σ H ⟨rfl, hi, p⟩
  by_cases hlt : i < n
  · refine .inr ⟨hlt, Pv (i + 1), fun σ' H' p' => ⟨n - (i + 1), by omega, rfl, hlt, p'⟩, fun x H' y => ?_⟩
    obtain ⟨e, y⟩ := y
    subst e y
    exact hs i σ _ hlt p
  · have e : i = n := by omega
    subst e
    exact .inl ⟨Nat.le_refl _, hd σ H p⟩
end L2

namespace L2
open PySem PySem.Spec PyProof.Rows

abbrev R2 := V → V → Hp → VK → Prop
/-- a two-place operation on values: f is binaryOp op, inplaceOp op or compareOp op -/
def OpR (X : Cx) (f : Value → Value → Sem Value) (r : R2) : Prop :=
  ∀ (pins : List (Addr × Obj)) (s : Shared) (σ : St) (H : Hp) (x y : V) (v u : Value) (Q : VK), Inv X pins σ H s → RelV x v → RelV y u → r x y H Q →
    wpAny (model X.prog X.w) X.A (f v u) (EP X pins σ Q) X.xe s
/-- a call of a value that is known (a builtin, a type) with values -/
def CallR (X : Cx) (f : Value) (r : List V → Hp → VK → Prop) : Prop :=
  ∀ (pins : List (Addr × Obj)) (s : Shared) (σ : St) (H : Hp) (xs : List V) (us : List Value) (Q : VK), Inv X pins σ H s → Vals xs us → r xs H Q →
    wpAny (model X.prog X.w) X.A (call f us) (EP X pins σ Q) X.xe s

def tOp (r : R2) (ta tb : TE) : TE := fun σ H Q => ta σ H fun x H1 => tb σ H1 fun y H2 => r x y H2 Q
/-- ints in, under C, and a value out -/
def rI (C : Int → Int → Prop) (g : Int → Int → V) : R2 := fun x y H Q => ∃ i j, x = .int i ∧ y = .int j ∧ C i j ∧ Q (g i j) H
def rI0 (g : Int → Int → V) : R2 := fun x y H Q => ∃ i j, x = .int i ∧ y = .int j ∧ Q (g i j) H

section
variable {X : Cx} {a b c : Expr} {ta tb tc : TE} {pos : Pos}

theorem binT (ha : PE X a ta) (hb : PE X b tb) {pins : List (Addr × Obj)} {s : Shared} {σ : St} {H : Hp} {R : V → V → Hp → Prop} (I : Inv X pins σ H s)
    (h : ta σ H fun x H1 => tb σ H1 fun y H2 => R x y H2) {Q : Value → Shared → Prop} {f : Value → Value → Sem Value}
    (hf : ∀ v u s2 x y H2, Inv X pins σ H2 s2 → RelV x v → RelV y u → R x y H2 → wpAny (model X.prog X.w) X.A (f v u) Q X.xe s2) :
    wpAny (model X.prog X.w) X.A (eval a X.env) (fun v s₁ => wpAny (model X.prog X.w) X.A (eval b X.env) (fun u s₂ => wpAny (model X.prog X.w) X.A (f v u) Q X.xe s₂) X.xe s₁) X.xe s := by
  refine thn (ha pins s σ H _ I h) fun v s1 ⟨x, H1, I1, r1, q1⟩ => ?_
  refine thn (hb pins s1 σ H1 _ I1 q1) fun u s2 ⟨y, H2, I2, r2, q2⟩ => ?_
  exact hf v u s2 x y H2 I2 r1 r2 q2

theorem pe_op {op : Operator} {r : R2} (ho : OpR X (binaryOp op) r) (ha : PE X a ta) (hb : PE X b tb) : PE X (.BinOp a op b pos) (tOp r ta tb) := by
  intro pins s σ H Q I h
  exact wpAny_BinOp (binT ha hb I h fun v u s2 x y H2 I2 rx ry q => ho pins s2 σ H2 x y v u Q I2 rx ry q)

/-! ### ints -/
theorem opI {f : Value → Value → Sem Value} {C : Int → Int → Prop} {g : Int → Int → Int}
    (rule : ∀ (i j : Int) (t u : Tok) (s : Shared) (Q : Value → Shared → Prop) (E : Value → Shared → Prop), C i j → Q (.int (g i j) s.toks) { s with toks := s.toks + 1 } → wpAny (model X.prog X.w) X.A (f (.int i t) (.int j u)) Q E s) :
    OpR X f (rI C fun i j => .int (g i j)) := by
  intro pins s σ H x y v u Q I rx ry h
  obtain ⟨i, j, rfl, rfl, hc, q⟩ := h
  obtain ⟨t, rfl⟩ := rx
  obtain ⟨t', rfl⟩ := ry
  exact rule i j t t' s _ _ hc ⟨.int (g i j), H, I.tok _, ⟨_, rfl⟩, q⟩
theorem opI0 {f : Value → Value → Sem Value} {g : Int → Int → Int}
    (rule : ∀ (i j : Int) (t u : Tok) (s : Shared) (Q : Value → Shared → Prop) (E : Value → Shared → Prop), Q (.int (g i j) s.toks) { s with toks := s.toks + 1 } → wpAny (model X.prog X.w) X.A (f (.int i t) (.int j u)) Q E s) :
    OpR X f (rI0 fun i j => .int (g i j)) := by
  intro pins s σ H x y v u Q I rx ry h
  obtain ⟨i, j, rfl, rfl, q⟩ := h
  obtain ⟨t, rfl⟩ := rx
  obtain ⟨t', rfl⟩ := ry
  exact rule i j t t' s _ _ ⟨.int (g i j), H, I.tok _, ⟨_, rfl⟩, q⟩
theorem opB0 {f : Value → Value → Sem Value} {g : Int → Int → Bool}
    (rule : ∀ (i j : Int) (t u : Tok) (s : Shared) (Q : Value → Shared → Prop) (E : Value → Shared → Prop), Q (.bool (g i j)) s → wpAny (model X.prog X.w) X.A (f (.int i t) (.int j u)) Q E s) :
    OpR X f (rI0 fun i j => .bl (g i j)) := by
  intro pins s σ H x y v u Q I rx ry h
  obtain ⟨i, j, rfl, rfl, q⟩ := h
  obtain ⟨t, rfl⟩ := rx
  obtain ⟨t', rfl⟩ := ry
  exact rule i j t t' s _ _ ⟨.bl (g i j), H, I, rfl, q⟩

def CDiv (i j : Int) : Prop := 0 < j ∧ j < 1073741824
def CPow (i j : Int) : Prop := 0 ≤ j ∧ j ≤ 1000000 ∧ i.natAbs < 2 ^ 64
def CMul (i j : Int) : Prop := (-(2 ^ 64) < i ∧ i < 2 ^ 64) ∨ (-(2 ^ 64) < j ∧ j < 2 ^ 64)
theorem CMul.ok {i j : Int} (h : CMul i j) : IntMulOk i j := by
  rcases h with ⟨h1, h2⟩ | ⟨h1, h2⟩
  · exact .of_left (intBits_le_64 h1 h2)
  · exact .of_right (intBits_le_64 h1 h2)

theorem op_add : OpR X (binaryOp .Add) (rI0 fun i j => .int (i + j)) := opI0 fun _ _ _ _ _ _ _ q => add_int q
theorem op_mul : OpR X (binaryOp .Mult) (rI CMul fun i j => .int (i * j)) := opI fun _ _ _ _ _ _ _ hc q => mul_int q hc.ok
/-- // by a positive divisor -/
theorem op_fdiv : OpR X (binaryOp .FloorDiv) (rI CDiv fun i j => .int (i / j)) := opI fun i j _ _ _ _ _ hc q => by
  have h1 : (0 : Int) < j := hc.1
  have h2 : j < 1073741824 := hc.2
  exact floordiv_int (by omega) (by rw [Int.fdiv_eq_ediv_of_nonneg i (by omega)]; exact q) (.inl (PyProof.noPylong_small (by omega)))
/-- % by a positive divisor of any size -/
theorem op_mod : OpR X (binaryOp .Mod) (rI (fun _ j => 0 < j) fun i j => .int (i % j)) := opI fun i j _ _ _ _ _ hc q => by
  have h1 : (0 : Int) < j := hc
  exact mod_int' (by omega) (by rw [Int.fmod_eq_emod_of_nonneg i (by omega)]; exact q)
theorem op_pow : OpR X (binaryOp .Pow) (rI CPow fun i j => .int (i ^ j.toNat)) := opI fun _ _ _ _ _ _ _ hc q => pow_int_small hc.1 hc.2.1 hc.2.2 q



/-! ### bools among ints: n += (a < b) -/
end

/-! ### comparisons -/
/-- the scalars that == tells apart as data does -/
def scal : V → V → Bool
  | .non, .non => true | .non, .int _ => true | .int _, .non => true | .non, .bl _ => true | .bl _, .non => true | .non, .str _ => true | .str _, .non => true
  | .int _, .int _ => true | .bl _, .bl _ => true | .str _, .str _ => true | .byt _, .byt _ => true
  | .int _, .str _ => true | .str _, .int _ => true | .bl _, .str _ => true | .str _, .bl _ => true
  | _, _ => false
def rEq : R2 := fun x y H Q => scal x y = true ∧ Q (.bl (decide (x = y))) H
def rNe : R2 := fun x y H Q => scal x y = true ∧ Q (.bl (!decide (x = y))) H

theorem dec_int {i j : Int} : decide (V.int i = V.int j) = (i == j) := by
  rw [Bool.eq_iff_iff]
  simp
theorem dec_bl {i j : Bool} : decide (V.bl i = V.bl j) = (i == j) := by
  rw [Bool.eq_iff_iff]
  simp
theorem dec_str {i j : Str} : decide (V.str i = V.str j) = (i == j) := by
  rw [Bool.eq_iff_iff]
  simp
theorem dec_byt {i j : Array UInt8} : decide (V.byt i = V.byt j) = (i.toList == j.toList) := by
  rw [Bool.eq_iff_iff]
  cases i
  cases j
  simp

section
variable {X : Cx} {a b c : Expr} {ta tb tc : TE} {pos : Pos}
theorem fin_bl {pins : List (Addr × Obj)} {σ : St} {H : Hp} {s : Shared} {Q : VK} {k k' : Bool} (I : Inv X pins σ H s) (q : Q (.bl k) H) (e : k = k') : EP X pins σ Q (.bool k') s := by
  subst e
  exact ⟨.bl k, H, I, rfl, q⟩
theorem op_eq : OpR X (compareOp .Eq) rEq := by
  intro pins s σ H x y v u Q I rx ry h
  obtain ⟨hs, q⟩ := h
  cases x with
  | non =>
    cases rx
    cases y with
    | non => cases ry; exact PySem.EqNone.eq_none_none (fin_bl I q (by simp))
    | bl j => cases ry; exact PySem.EqNone.eq_none_bool (fin_bl I q (by simp))
    | int j => obtain ⟨t', rfl⟩ := ry; exact PySem.EqNone.eq_none_int (fin_bl I q (by simp))
    | str j => obtain ⟨t', rfl⟩ := ry; exact PySem.EqNone.eq_none_str (fin_bl I q (by simp))
    | _ => exact absurd (show false = true from hs) Bool.false_ne_true
  | bl i =>
    cases rx
    cases y with
    | non => cases ry; exact PySem.EqNone.eq_bool_none (fin_bl I q (by simp))
    | bl j => cases ry; exact eq_bool (fin_bl I q dec_bl)
    | str j => obtain ⟨t', rfl⟩ := ry; exact PySem.EqMixed.eq_bool_str (fin_bl I q (by simp))
    | _ => exact absurd (show false = true from hs) Bool.false_ne_true
  | int i =>
    obtain ⟨t, rfl⟩ := rx
    cases y with
    | non => cases ry; exact PySem.EqNone.eq_int_none (fin_bl I q (by simp))
    | int j => obtain ⟨t', rfl⟩ := ry; exact eq_int (fin_bl I q dec_int)
    | str j => obtain ⟨t', rfl⟩ := ry; exact PySem.EqMixed.eq_int_str (fin_bl I q (by simp))
    | _ => exact absurd (show false = true from hs) Bool.false_ne_true
  | str i =>
    obtain ⟨t, rfl⟩ := rx
    cases y with
    | non => cases ry; exact PySem.EqNone.eq_str_none (fin_bl I q (by simp))
    | bl j => cases ry; exact PySem.EqMixed.eq_str_bool (fin_bl I q (by simp))
    | int j => obtain ⟨t', rfl⟩ := ry; exact PySem.EqMixed.eq_str_int (fin_bl I q (by simp))
    | str j => obtain ⟨t', rfl⟩ := ry; exact eq_str (fin_bl I q dec_str)
    | _ => exact absurd (show false = true from hs) Bool.false_ne_true
  | byt i =>
    obtain ⟨t, rfl⟩ := rx
    cases y with
    | byt j => obtain ⟨t', rfl⟩ := ry; exact PySem.W.eq_bytes (fin_bl I q dec_byt)
    | _ => exact absurd (show false = true from hs) Bool.false_ne_true
  | _ => cases y <;> exact absurd (show false = true from hs) Bool.false_ne_true
theorem op_ne : OpR X (compareOp .NotEq) rNe := by
  intro pins s σ H x y v u Q I rx ry h
  obtain ⟨hs, q⟩ := h
  cases x with
  | non =>
    cases rx
    cases y with
    | non => cases ry; exact PySem.EqNone.ne_none_none (fin_bl I q (by simp))
    | bl j => cases ry; exact PySem.EqNone.ne_none_bool (fin_bl I q (by simp))
    | int j => obtain ⟨t', rfl⟩ := ry; exact PySem.EqNone.ne_none_int (fin_bl I q (by simp))
    | str j => obtain ⟨t', rfl⟩ := ry; exact PySem.EqNone.ne_none_str (fin_bl I q (by simp))
    | _ => exact absurd (show false = true from hs) Bool.false_ne_true
  | bl i =>
    cases rx
    cases y with
    | non => cases ry; exact PySem.EqNone.ne_bool_none (fin_bl I q (by simp))
    | bl j => cases ry; exact ne_bool (fin_bl I q (congrArg not dec_bl))
    | str j => obtain ⟨t', rfl⟩ := ry; exact PySem.EqMixed.ne_bool_str (fin_bl I q (by simp))
    | _ => exact absurd (show false = true from hs) Bool.false_ne_true
  | int i =>
    obtain ⟨t, rfl⟩ := rx
    cases y with
    | non => cases ry; exact PySem.EqNone.ne_int_none (fin_bl I q (by simp))
    | int j => obtain ⟨t', rfl⟩ := ry; exact ne_int (fin_bl I q (congrArg not dec_int))
    | str j => obtain ⟨t', rfl⟩ := ry; exact PySem.EqMixed.ne_int_str (fin_bl I q (by simp))
    | _ => exact absurd (show false = true from hs) Bool.false_ne_true
  | str i =>
    obtain ⟨t, rfl⟩ := rx
    cases y with
    | non => cases ry; exact PySem.EqNone.ne_str_none (fin_bl I q (by simp))
    | bl j => cases ry; exact PySem.EqMixed.ne_str_bool (fin_bl I q (by simp))
    | int j => obtain ⟨t', rfl⟩ := ry; exact PySem.EqMixed.ne_str_int (fin_bl I q (by simp))
    | str j => obtain ⟨t', rfl⟩ := ry; exact ne_str (fin_bl I q (congrArg not dec_str))
    | _ => exact absurd (show false = true from hs) Bool.false_ne_true
  | byt i =>
    obtain ⟨t, rfl⟩ := rx
    cases y with
    | byt j => obtain ⟨t', rfl⟩ := ry; exact PySem.W.ne_bytes (fin_bl I q (congrArg not dec_byt))
    | _ => exact absurd (show false = true from hs) Bool.false_ne_true
  | _ => cases y <;> exact absurd (show false = true from hs) Bool.false_ne_true

theorem op_lt : OpR X (compareOp .Lt) (rI0 fun i j => .bl (decide (i < j))) := opB0 fun _ _ _ _ _ _ _ q => lt_int q
theorem op_gt : OpR X (compareOp .Gt) (rI0 fun i j => .bl (decide (j < i))) := opB0 fun _ _ _ _ _ _ _ q => gt_int q




theorem nomark (b : Expr) {op : CmpOp} (h : op ≠ .In := by decide) (h2 : op ≠ .NotIn := by decide) : behindInMarks op b = false := by
  have e1 : (op == CmpOp.In) = false := by cases op <;> first | rfl | exact absurd rfl h
  have e2 : (op == CmpOp.NotIn) = false := by cases op <;> first | rfl | exact absurd rfl h2
  cases b <;> simp [behindInMarks, e1, e2]
/-- a comparison as a value; hm: nomark b, or (for in, not in) by with_unfolding_all rfl -/
theorem pe_cmpR {op : CmpOp} {r : R2} (ho : OpR X (compareOp op) r) (ha : PE X a ta) (hb : PE X b tb) (hm : behindInMarks op b = false) : PE X (.Compare a [op] [b] pos) (tOp r ta tb) := by
  intro pins s σ H Q I h
  exact wpAny_Compare1 (binT ha hb I h fun v u s2 x y H2 I2 rx ry q => ho pins s2 σ H2 x y v u Q I2 rx ry q) hm
/-- a reading of a value as a test -/
def tTest (t : TE) : TT := fun σ H Q => t σ H fun x H' => ∃ k, x = .bl k ∧ Q k H'
theorem pt_cmpR {op : CmpOp} {r : R2} (ho : OpR X (compareOp op) r) (ha : PE X a ta) (hb : PE X b tb) (hm : behindInMarks op b = false) : PT X (.Compare a [op] [b] pos) (tTest (tOp r ta tb)) := by
  intro pins s σ H Q I h
  refine wpAny_isTrue_Compare1 (thn (ha pins s σ H _ I h) fun v s1 ⟨x, H1, I1, r1, q1⟩ => thn (hb pins s1 σ H1 _ I1 q1) fun u s2 ⟨y, H2, I2, r2, q2⟩ =>
    thn (ho pins s2 σ H2 x y v u _ I2 r1 r2 q2) fun c s3 ⟨z, H3, I3, r3, k, e, q3⟩ => ?_) hm
  subst e
  cases r3
  exact wpAny_truthy_bool ⟨H3, I3, q3⟩

/-! ### truth -/
theorem line63 : (sizeLine : Nat) < 2 ^ 63 := by rw [sizeLine_eq]; decide

/-! ### strs and bytes -/


/-! ### scalar builtins, by CallR -/
theorem vals1 {x : V} {us : List Value} (r : Vals [x] us) : ∃ u, us = [u] ∧ RelV x u := by
  cases r with
  | cons r1 r2 => cases r2; exact ⟨_, rfl, r1⟩
theorem vals2 {x y : V} {us : List Value} (r : Vals [x, y] us) : ∃ u w', us = [u, w'] ∧ RelV x u ∧ RelV y w' := by
  cases r with
  | cons r1 r2 =>
    cases r2 with
    | cons r3 r4 => cases r4; exact ⟨_, _, rfl, r1, r3⟩
theorem call_max2 (hc : X.calm = true) : CallR X (.builtin "max") (fun xs H Q => ∃ i j, xs = [.int i, .int j] ∧ Q (.int (if j > i then j else i)) H) := by
  intro pins s σ H xs us Q I r h
  obtain ⟨i, j, rfl, q⟩ := h
  obtain ⟨u, w', rfl, ⟨t, rfl⟩, ⟨t', rfl⟩⟩ := vals2 r
  refine max_two_ints (I.ok.hd hc) fun h' tk k => ⟨_, H, I.kept k, ?_, q⟩
  by_cases hj : j > i
  · rw [if_pos hj, if_pos hj]; exact ⟨_, rfl⟩
  · rw [if_neg hj, if_neg hj]; exact ⟨_, rfl⟩
theorem call_min2 (hc : X.calm = true) : CallR X (.builtin "min") (fun xs H Q => ∃ i j, xs = [.int i, .int j] ∧ Q (.int (if j < i then j else i)) H) := by
  intro pins s σ H xs us Q I r h
  obtain ⟨i, j, rfl, q⟩ := h
  obtain ⟨u, w', rfl, ⟨t, rfl⟩, ⟨t', rfl⟩⟩ := vals2 r
  refine min_two_ints (I.ok.hd hc) fun h' tk k => ⟨_, H, I.kept k, ?_, q⟩
  by_cases hj : j < i
  · rw [if_pos hj, if_pos hj]; exact ⟨_, rfl⟩
  · rw [if_neg hj, if_neg hj]; exact ⟨_, rfl⟩
end
end L2

namespace L2
open PySem PySem.Spec PyProof.Rows

/-! ### an instance, its attributes a map -/
structure ObjM (h : Heap) (x dx C : Addr) (mA : Str → Option Value) : Prop where
  obj : h.get? x = some (PySem.W.instObj C dx)
  ns : h.Ns1 dx mA
  ne : dx ≠ x

theorem lookIn_ns {h : Heap} {dx : Addr} {mA : Str → Option Value} (n : h.Ns1 dx mA) : ∃ od, h.get? dx = some od ∧ ∀ name, PySem.W.lookIn name od = some (mA name) := by
  obtain ⟨o, es, ep, ho, hd, hk, _, hm⟩ := n
  refine ⟨o, ho, fun name => ?_⟩
  have e := hm name
  unfold nsFind findBy at e
  rw [← Array.find?_toList] at e
  unfold PySem.W.lookIn
  rw [hd]
  dsimp only
  split
  · rename_i y q
    rw [q] at e
    exact congrArg some e
  · rename_i q
    rw [q] at e
    have a : es.toList.any (·.refKey) = false := by
      rw [List.any_eq_false]
      intro y hy
      obtain ⟨z, t, hkey⟩ := hk y (Array.mem_toList_iff.mp hy)
      simp [DictEntry.refKey, hkey]
    have a' : ¬ es.toList.any (·.refKey) = true := by rw [a]; exact Bool.false_ne_true
    rw [if_neg a']
    exact congrArg some e

theorem ObjM.look {h : Heap} {x dx C : Addr} {mA : Str → Option Value} (I : ObjM h x dx C mA) : ∃ od, PySem.W.InstAt h x (PySem.W.instObj C dx) C (some od) ∧ ∀ name, PySem.W.lookIn name od = some (mA name) :=
  let ⟨od, ho, hl⟩ := lookIn_ns I.ns
  ⟨od, ⟨I.obj, rfl, rfl, ho⟩, hl⟩

section
variable {prog : Program} {w : World} {A : Around} {E : Value → Shared → Prop} {s : Shared} {K : PySem.W.Frag} {x dx C f : Addr} {mA : Str → Option Value} {name : Str} {v : Value}





end

/-! ### the attributes as a list of pairs -/
def putF (f : Str) (v : V) : List (Str × V) → List (Str × V)
  | [] => [(f, v)]
  | (g, x) :: r => if g = f then (g, v) :: r else (g, x) :: putF f v r
theorem lookup_putF (f g : Str) (v : V) : ∀ fs : List (Str × V), (putF f v fs).lookup g = if g = f then some v else fs.lookup g
  | [] => by
    show List.lookup g [(f, v)] = _
    by_cases h : g = f
    · have hb : (g == f) = true := beq_iff_eq.mpr h
      simp only [List.lookup, hb, if_pos h]
    · have hb : (g == f) = false := beq_eq_false_iff_ne.mpr h
      simp only [List.lookup, hb, if_neg h]
  | (k, x) :: r => by
    have ih := lookup_putF f g v r
    rw [show putF f v ((k, x) :: r) = (if k = f then (k, v) :: r else (k, x) :: putF f v r) from rfl]
    by_cases hk : k = f
    · rw [if_pos hk]
      by_cases h : g = k
      · have hb : (g == k) = true := beq_iff_eq.mpr h
        simp only [List.lookup, hb, if_pos (h.trans hk)]
      · have hb : (g == k) = false := beq_eq_false_iff_ne.mpr h
        simp only [List.lookup, hb, if_neg (fun e : g = f => h (e.trans hk.symm))]
    · rw [if_neg hk]
      by_cases h : g = k
      · have hb : (g == k) = true := beq_iff_eq.mpr h
        simp only [List.lookup, hb, if_neg (fun e : g = f => hk (h.symm.trans e))]
      · have hb : (g == k) = false := beq_eq_false_iff_ne.mpr h
        simp only [List.lookup, hb]
        exact ih
theorem keys_putF (f : Str) (v : V) : ∀ fs : List (Str × V), f ∈ (putF f v fs).map (·.1) ∧ ∀ g, g ∈ fs.map (·.1) → g ∈ (putF f v fs).map (·.1)
  | [] => ⟨by simp [putF], fun g h => by simp at h⟩
  | (k, x) :: r => by
    obtain ⟨i1, i2⟩ := keys_putF f v r
    rw [show putF f v ((k, x) :: r) = (if k = f then (k, v) :: r else (k, x) :: putF f v r) from rfl]
    by_cases hk : k = f
    · rw [if_pos hk]
      subst hk
      exact ⟨by simp, fun g h => by simpa using h⟩
    · rw [if_neg hk]
      refine ⟨?_, fun g h => ?_⟩
      · rw [List.map_cons]
        exact List.mem_cons_of_mem _ i1
      · rw [List.map_cons] at h ⊢
        rcases List.mem_cons.mp h with e | e
        · exact List.mem_cons.mpr (.inl e)
        · exact List.mem_cons_of_mem _ (i2 g e)

theorem RelO.some_of {v : V} {o : Option Value} (r : RelO (some v) o) : ∃ u, o = some u ∧ RelV v u := by
  cases o with
  | none => exact (show False from r).elim
  | some u => exact ⟨u, rfl, r⟩
theorem handed_of {v : V} {u : Value} (r : RelV v u) : PySem.W.handedIn u = true := by
  cases v with
  | non => cases (show u = Value.none from r); rfl
  | bl b => cases (show u = Value.bool b from r); rfl
  | int i => obtain ⟨t, e⟩ := (show ∃ t, u = Value.int i t from r); cases e; rfl
  | str x => obtain ⟨t, e⟩ := (show ∃ t, u = Value.str x t from r); cases e; rfl
  | byt b => obtain ⟨t, e⟩ := (show ∃ t, u = Value.bytes b t from r); cases e; rfl
  | flt b => obtain ⟨t, e⟩ := (show ∃ t, u = Value.float b t from r); cases e; rfl
  | ref a => cases (show u = Value.ref a from r); rfl
  | ty n => cases (show u = Value.type n from r); rfl

section
variable {P : Program} {w : World} {H H' : Hp} {h h' : Heap} {a C dx : Addr} {fs fs' : List (Str × V)}
theorem ins_get (hok : HOk P w H h) (e : H a = some (.ins C dx fs)) : ∃ mA, ObjM h a dx C mA ∧ (∀ f, RelO (fs.lookup f) (mA f)) ∧ PySem.Within mA (fs.map (·.1)) ∧ fs.length ≤ 1000 ∧ H dx = some (.own a) := by
  obtain ⟨d, z, ne, ob, mA, n, r, q⟩ := (show ObjOk P w H h a (.ins C dx fs) from hok a _ e)
  exact ⟨mA, ⟨ob, n, ne⟩, r, q, z, d⟩
end

/-! ### what of the text a class must have -/
structure Cls (K : PySem.W.Frag) (C : Addr) : Prop where
  pg : PySem.W.plainGet K C Str.empty = true
  hd : PySem.W.hasDictIn K C = true
  po : PySem.W.plainOver K C = true
  sa : PySem.W.findIn K (.ref C) "__setattr__" = some (some (.builtin "object.__setattr__"))
theorem Cls.get {K : PySem.W.Frag} {C : Addr} (c : Cls K C) (f : Str) : PySem.W.plainGet K C f = true := c.pg
/-- no class of it has the name -/
def NoAttr (K : PySem.W.Frag) (C : Addr) (f : Str) : Prop := PySem.W.findIn K (.ref C) f = some none

section
variable {X : Cx} {pins : List (Addr × Obj)} {σ : St} {H : Hp} {s : Shared} {a C dx : Addr} {fs : List (Str × V)} {f : Str} {v : V} {A : Around} {E : Value → Shared → Prop}






/-- e.f where nothing but the object is asked: through attributeBase (super) and the last hold -/
theorem attr_of {prog : Program} {w : World} {env : Env} {e : Expr} {f : Str} {pos : Pos} {s : Shared} {Q : Value → Shared → Prop} (hb : attributeBase e f env (eval e env) = eval e env)
    (h : wpAny (model prog w) A (eval e env) (fun o s₁ => wpAny (model prog w) A (getAttr o f true) Q E s₁) E s) : wpAny (model prog w) A (eval (.Attribute e f pos) env) Q E s :=
  Attribute_any_ h (by rw [arm_eval_Attribute, hb])
end

/-! ### readings and rules -/

section
variable {X : Cx} {o e value : Expr} {f : Str} {pos pos' tpos : Pos} {ta tv : TE}

end

/-! ### isinstance -/
section
variable {X : Cx} {pins : List (Addr × Obj)} {σ : St} {H : Hp} {s : Shared} {A : Around} {E : Value → Shared → Prop} {Q : Value → Shared → Prop} {c : Value} {b : Bool}
/-- the type of a value, as the fragment's deciders take it; for an instance its class -/
inductive TyOf (K : PySem.W.Frag) (H : Hp) : V → Value → Prop where
  | non : TyOf K H .non (.type "NoneType")
  | bl (x : Bool) : TyOf K H (.bl x) (.type "bool")
  | int (i : Int) : TyOf K H (.int i) (.type "int")
  | str (x : Str) : TyOf K H (.str x) (.type "str")
  | flt (x : UInt64) : TyOf K H (.flt x) (.type "float")
  | lst {a : Addr} {xs : List V} (e : H a = some (.lst xs)) : TyOf K H (.ref a) (.type "list")
  | frz {a : Addr} {o : Obj} {xs : List V} (e : H a = some (.frz o (.lst xs))) : TyOf K H (.ref a) (.type "list")
  | tup {a : Addr} {xs : List V} (e : H a = some (.tup xs)) : TyOf K H (.ref a) (.type "tuple")
  | dK {a : Addr} {kvs : List (Key × V)} (e : H a = some (.dK kvs)) : TyOf K H (.ref a) (.type "dict")
  | dT {a : Addr} {kvs : List (List Key × V)} (e : H a = some (.dT kvs)) : TyOf K H (.ref a) (.type "dict")
  | ins {a C dx : Addr} {fs : List (Str × V)} (e : H a = some (.ins C dx fs)) (cl : Cls K C) (ha : PySem.W.findIn K (.ref C) "__class__" = some (some (.builtin "object.__class__")))
      (hn : PySem.W.specialIn K (.builtin "object.__class__") "__get__" = some (some (.builtin "getset_descriptor.__get__"))) (htk : PySem.W.takesIn K (.builtin "object.__class__") = some true)
      (hm : PySem.W.mroIn K C (.type "object") = some true) : TyOf K H (.ref a) (.ref C)
/-- isinstance(x, c) for one class c, a built-in or an own one: kitOne's answer -/
theorem isinst_ok {x : V} {u t : Value} (I : Inv X pins σ H s) (rx : RelV x u) (ty : TyOf X.K H x t) (e : PySem.W.kitOne X.K t c = some b) (h : ∀ tk, Q (.bool b) { s with toks := tk }) :
    wpAny (model X.prog X.w) A (call (.builtin "isinstance") [u, c]) Q E s := by
  cases ty with
  | non => cases (show u = Value.none from rx); exact PySem.W.kia_one PySem.W.kitx_none I.kIn True.intro e (fun z => nomatch z) h
  | bl y => cases (show u = Value.bool y from rx); exact PySem.W.kia_one PySem.W.kitx_bool I.kIn True.intro e (fun z => nomatch z) h
  | int i => obtain ⟨t, q⟩ := (show ∃ t, u = Value.int i t from rx); cases q; exact PySem.W.kia_one PySem.W.kitx_int I.kIn True.intro e (fun z => nomatch z) h
  | str y => obtain ⟨t, q⟩ := (show ∃ t, u = Value.str y t from rx); cases q; exact PySem.W.kia_one PySem.W.kitx_str I.kIn True.intro e (fun z => nomatch z) h
  | flt y => obtain ⟨t, q⟩ := (show ∃ t, u = Value.float y t from rx); cases q; exact PySem.W.kia_one PySem.W.kitx_float I.kIn True.intro e (fun z => nomatch z) h
  | @lst a xs ea =>
    cases (show u = Value.ref a from rx)
    obtain ⟨_, _, n, _, h1⟩ := (show ObjOk X.prog X.w H s.heap a (.lst xs) from I.hok a _ ea)
    exact PySem.W.kia_one PySem.W.kitx_list I.kIn ⟨_, h1, rfl⟩ e (fun z => nomatch z) h
  | @frz a ob xs ea =>
    cases (show u = Value.ref a from rx)
    obtain ⟨_, _, _, n, _, h1⟩ := (show ObjOk X.prog X.w H s.heap a (.frz ob (.lst xs)) from I.hok a _ ea)
    exact PySem.W.kia_one PySem.W.kitx_list I.kIn ⟨_, h1, rfl⟩ e (fun z => nomatch z) h
  | @tup a xs ea =>
    cases (show u = Value.ref a from rx)
    obtain ⟨_, _, _, p⟩ := (show ObjOk X.prog X.w H s.heap a (.tup xs) from I.hok a _ ea)
    obtain ⟨o, h1, h2, _⟩ := p
    exact PySem.W.kia_one PySem.W.kitx_tuple I.kIn ⟨o, h1, h2⟩ e (fun z => nomatch z) h
  | @dK a kvs ea =>
    cases (show u = Value.ref a from rx)
    obtain ⟨_, _, vs, _, p⟩ := (show ObjOk X.prog X.w H s.heap a (.dK kvs) from I.hok a _ ea)
    obtain ⟨o, es, ep, h1, h2, _⟩ := p
    exact PySem.W.kia_one PySem.W.kitx_dict I.kIn ⟨o, h1, h2.1⟩ e (fun z => nomatch z) h
  | @dT a kvs ea =>
    cases (show u = Value.ref a from rx)
    obtain ⟨_, _, xs, _, o, es, ep, h1, h2, _⟩ := (show ObjOk X.prog X.w H s.heap a (.dT kvs) from I.hok a _ ea)
    exact PySem.W.kia_one PySem.W.kitx_dict I.kIn ⟨o, h1, h2.1⟩ e (fun z => nomatch z) h
  | @ins a C dx fs ea cl ha hn htk hm =>
    cases (show u = Value.ref a from rx)
    obtain ⟨mA, O, _⟩ := ins_get I.hok ea
    obtain ⟨od, J, _⟩ := O.look
    exact PySem.W.kia_one (PySem.W.kitx_own (cl.get _) cl.hd ha hn htk hm) I.kIn J e (fun z => nomatch z) h
end
end L2

namespace L2
open PySem PySem.Spec PyProof.Rows

/-! ### room -/
structure Room (k : Nat) (A : Around) : Prop where
  hd : A.handled = none
  dp : A.depth + 3 * k + 5 < recursionLimit
  un : A.units + 16 * k + 200 < cLine
  gd : A.guards = some []
theorem Room.mono {j k : Nat} {A : Around} (r : Room k A) (h : j ≤ k) : Room j A := ⟨r.hd, by have := r.dp; omega, by have := r.un; omega, r.gd⟩
theorem Room.deeper {k : Nat} {A : Around} (r : Room (k + 1) A) (env : Env) : Room k (A.deeper env) :=
  ⟨r.hd, by have := r.dp; show A.depth + 1 + 3 * k + 5 < _; omega, by have := r.un; show A.units + 3 + 16 * k + 200 < _; omega, r.gd⟩
theorem make_depth {A : Around} {C : Addr} {us : List Value} {kw : List (Str × Value)} : (A.under (.builtin "type.__call__" ⟨.ref C :: us, kw⟩)).depth = A.depth + 1 := by
  first | rfl | simp [Around.under, Code.weight, Code.isCreation, Code.isGuard, Code.isCaller, Code.frames, Code.isFrame, guardIds]
theorem make_units {A : Around} {C : Addr} {us : List Value} {kw : List (Str × Value)} : (A.under (.builtin "type.__call__" ⟨.ref C :: us, kw⟩)).units = A.units + 1 := by
  first | rfl | simp [Around.under, Code.cUnits, Code.frames, Code.isFrame]
theorem make_guards {A : Around} {C : Addr} {us : List Value} {kw : List (Str × Value)} (h : A.guards = some []) : (A.under (.builtin "type.__call__" ⟨.ref C :: us, kw⟩)).guards = some [] := by
  show pushGuards (Code.guards (.builtin "type.__call__" ⟨.ref C :: us, kw⟩)) A.guards = some []
  rw [h]; first | rfl | (simp [Code.guards, Code.isGuard, guardIds, pushGuards])
theorem Room.make {k : Nat} {A : Around} (r : Room (k + 1) A) (C : Addr) (us : List Value) (kw : List (Str × Value)) : Room k (A.under (.builtin "type.__call__" ⟨.ref C :: us, kw⟩)) :=
  ⟨r.hd, by have := r.dp; rw [make_depth]; omega, by have := r.un; rw [make_units]; omega, make_guards r.gd⟩
theorem Room.depth {k : Nat} {A : Around} (r : Room k A) : A.depth < recursionLimit := by have := r.dp; omega
theorem Room.units {k : Nat} {A : Around} (r : Room k A) : A.units + 64 < cLine := by have := r.un; omega

/-! ### argument lists and displays -/
def tNil : TA := fun _ H Q => Q [] H
def tCons (ta : TE) (tr : TA) : TA := fun σ H Q => ta σ H fun x H1 => tr σ H1 fun xs H2 => Q (x :: xs) H2
section
variable {X : Cx} {e : Expr} {es : List Expr} {te : TE} {t : TA} {pos : Pos}
theorem pa_nil : PA X [] tNil := fun _ _ _ _ H Q I h => Calls.spliced_nil ⟨[], H, I, .nil, h⟩
theorem pa_cons (ha : PE X e te) (hr : PA X es t) (hs : starEach (e :: es) X.env = (false, eval e X.env) :: starEach es X.env := by rfl) : PA X (e :: es) (tCons te t) := by
  intro pos pins s σ H Q I h
  rw [hs]
  show wpAny _ _ (spliced ((false, eval e X.env) :: backTo pos (starEach es X.env))) _ _ s
  refine Calls.spliced_cons (thn (ha pins s σ H _ I h) fun u s1 ⟨x, H1, I1, r1, q1⟩ => ?_)
  exact thn (hr pos pins s1 σ H1 _ I1 q1) fun us s2 ⟨xs, H2, I2, r2, q2⟩ => ⟨x :: xs, H2, I2, .cons r1 r2, q2⟩

/-- a tuple, a list of written items -/
def tTup (t : TA) : TE := fun σ H Q => t σ H fun xs H1 => xs.length ≤ sizeLine ∧ ∀ p, H1 p = none → Q (.ref p) (upd H1 p (.tup xs))
def tLst (t : TA) : TE := fun σ H Q => t σ H fun xs H1 => xs.length ≤ sizeLine ∧ ∀ p, H1 p = none → Q (.ref p) (upd H1 p (.lst xs))
theorem pe_tup {x1} (h : PA X es t) : PE X (.Tuple es x1 pos) (tTup t) := by
  intro pins s σ H Q I hq
  refine wpAny_Tuple_spliced (thn (h pos pins s σ H _ I hq) fun us s1 ⟨xs, H1, I1, r, z, q⟩ => ⟨by rw [← r.length]; exact z, ?_⟩)
  have hf : H1 s1.heap.objs.size = none := I1.hok.fresh (Nat.le_refl _)
  refine ⟨.ref s1.heap.objs.size, upd H1 s1.heap.objs.size (.tup xs), I1.laid (t' := s1.toks) (fun b u e => Heap.get?_push_of_some _ e) (Nat.le_refl _) ?_, rfl, q _ hf⟩
  exact ⟨z, us, r, ⟨_, Heap.get?_push_size _ rfl, rfl, _, rfl⟩⟩
theorem pe_lst (h : PA X es t) : PE X (.List es pos) (tLst t) := by
  intro pins s σ H Q I hq
  refine wpAny_List_spliced (thn (h pos pins s σ H _ I hq) fun us s1 ⟨xs, H1, I1, r, z, q⟩ => ⟨by rw [← r.length]; exact z, ?_⟩)
  have hf : H1 s1.heap.objs.size = none := I1.hok.fresh (Nat.le_refl _)
  refine ⟨.ref s1.heap.objs.size, upd H1 s1.heap.objs.size (.lst xs), I1.laid (t' := s1.toks) (fun b u e => Heap.get?_push_of_some _ e) (Nat.le_refl _) ?_, rfl, q _ hf⟩
  exact ⟨z, us, 0, r, Heap.get?_push_size _ rfl⟩
end

/-! ### what a def promises -/
/-- a def's promise: the bound arguments in the parameters' order, the heap, the wanted end, the wanted exception -/
abbrev Sp := List V → Hp → VK → XK → Prop
/-- how an exception lies behind a call (file 08 gives it): the callers' frames, abstract heap and state ahead of the call, the wish, the exception, the state -/
abbrev CXT := List Env → Hp → Shared → XK → Value → Shared → Prop

/-- the state at a call -/
structure Env0 (P : Program) (w : World) (K : PySem.W.Frag) (mg : Str → Option Value) (base : Heap) (A : Around) (outer : List Env) (s : Shared) (H : Hp) : Prop where
  frames : A.frames = some outer
  mod : Mod K mg base
  bs : ∀ b o, base.get? b = some o → s.heap.get? b = some o ∧ H b = none
  bsz : base.objs.size ≤ s.heap.objs.size
  funs : s.heap.FunFrames base outer
  frf : ∀ b ∈ frs outer, H b = none
  hok : HOk P w H s.heap
  bare : AllBare s.gens
/-- a call's end -/
def CE (outer : List Env) (P : Program) (w : World) (H : Hp) (s : Shared) (Q : VK) (u : Value) (s' : Shared) : Prop :=
  ∃ v H', s'.os = s.os ∧ AllBare s'.gens ∧ Un (frs outer) [] H H' s.heap s'.heap ∧ HOk P w H' s'.heap ∧ RelV v u ∧ Q v H'
def CR (CX : CXT) (outer : List Env) (P : Program) (w : World) (H : Hp) (s : Shared) (Q : VK) (E : XK) (r : Result) (s' : Shared) : Prop :=
  match r with
  | .ok (.ret u) => CE outer P w H s Q u s'
  | .ok _ => False
  | .error e => CX outer H s E e s'
structure FnOk (P : Program) (w : World) (K : PySem.W.Frag) (mg : Str → Option Value) (base : Heap) (CX : CXT) (k : Nat) (f : Addr) (fd : FuncData) (ps : List Str) (sp : Sp) : Prop where
  len : ∀ vs H Q E, sp vs H Q E → vs.length = ps.length
  run : ∀ (A : Around) (outer : List Env) (s : Shared) (H : Hp) (args : Args) (us : List Value) (vs : List V) (Q : VK) (E : XK), Room k A → Env0 P w K mg base A outer s H → BindsTo s fd args (ps.zip us) → Vals vs us → sp vs H Q E →
    codeAny (model P w) A (.call (.ref f) args) (CR CX outer P w H s Q E) s

theorem Env0.make {P : Program} {w : World} {K : PySem.W.Frag} {mg : Str → Option Value} {base : Heap} {A : Around} {outer : List Env} {s : Shared} {H : Hp} (e : Env0 P w K mg base A outer s H) (C : Addr) (us : List Value) (kw : List (Str × Value)) :
    Env0 P w K mg base (A.under (.builtin "type.__call__" ⟨.ref C :: us, kw⟩)) outer s H := ⟨by first | exact e.frames | (simpa [Around.under, Code.envs, Code.isFrame, pushEnvs] using e.frames), e.mod, e.bs, e.bsz, e.funs, e.frf, e.hok, e.bare⟩

section
variable {X : Cx} {pins : List (Addr × Obj)} {σ : St} {H : Hp} {s s' : Shared}
/-- from a body: what a callee wants -/
theorem Inv.env0 (I : Inv X pins σ H s) : Env0 X.prog X.w X.K X.mg X.base X.A X.stack s H :=
  ⟨I.ok.frames, I.ok.mod, I.bs, Nat.le_trans I.ok.bsz I.sz, I.stack, I.stkFree, I.hok, I.bare⟩
/-- behind a call -/
theorem Inv.after {Q : VK} {u : Value} (I : Inv X pins σ H s) (h : CE X.stack X.prog X.w H s Q u s') : EP X pins σ Q u s' := by
  obtain ⟨v, H', os, bare, un, hok, r, q⟩ := h
  obtain ⟨hh, g, d, t, os'⟩ := s'
  obtain rfl : os' = s.os := os
  exact ⟨v, H', I.call (h' := hh) (g' := g) (d' := d) (t' := t) (ch := []) un hok bare (fun b z => absurd z (by simp)), r, q⟩
end

/-! ### calls -/
/-- f(..): the written arguments, then the defaults dvs; E: what is wanted of an exception -/
def tCall (sp : Sp) (dvs : List V) (E : XK) (t : TA) : TE := fun σ H Q => t σ H fun vs H1 => sp (vs ++ dvs) H1 Q E

/-- how the parameters are bound: us the positional arguments, kw the keywords' values by name, ds the defaults that fill up -/
def Binds (K : PySem.W.Frag) (fd : FuncData) (ps : List Str) (ds : List Value) : Prop :=
  ∀ (s : Shared) (us : List Value), K.In s.heap → (us ++ ds).length = ps.length → BindsTo s fd ⟨us, []⟩ (ps.zip (us ++ ds))
/-- every parameter is given -/
theorem Binds.all {K : PySem.W.Frag} {fd : FuncData} {ps : List Str} (h : ∀ us : List Value, us.length = ps.length → bindArgs fd ⟨us, []⟩ = pure (ps.zip us)) : Binds K fd ps [] := fun s us _ hl => by
  rw [List.append_nil] at hl ⊢
  exact .of_eq (h us hl)

/-- an exception of a callee reaches what this body wants of exceptions -/
def Passes (CX : CXT) (X : Cx) (E : XK) : Prop := ∀ (pins : List (Addr × Obj)) (σ : St) (H : Hp) (s : Shared) (e : Value) (s' : Shared), Inv X pins σ H s → CX X.stack H s E e s' → X.xe e s'

section
variable {X : Cx} {CX : CXT} {k : Nat} {f C : Addr} {fd : FuncData} {ps : List Str} {sp : Sp} {dvs : List V} {ds : List Value} {E : XK} {x m : Str} {p pos apos : Pos} {e o : Expr} {es : List Expr} {ta : TE} {t : TA}

/-- the callee runs -/
theorem run_fn {pins : List (Addr × Obj)} {σ : St} {H : Hp} {s : Shared} {Q : VK} {us : List Value} {vs : List V} (F : FnOk X.prog X.w X.K X.mg X.base CX k f fd ps sp) (hr : Room k X.A) (hb : Binds X.K fd ps ds) (hd : Vals dvs ds) (hx : Passes CX X E)
    (I : Inv X pins σ H s) (r : Vals vs us) (h : sp (vs ++ dvs) H Q E) : wpAny (model X.prog X.w) X.A (call (.ref f) us) (EP X pins σ Q) X.xe s := by
  have r2 : Vals (vs ++ dvs) (us ++ ds) := r.append hd
  have hl : (us ++ ds).length = ps.length := by rw [← r2.length]; exact F.len _ _ _ _ h
  refine wpAny_call (codeAny_mono (F.run X.A X.stack s H ⟨us, []⟩ (us ++ ds) (vs ++ dvs) Q E hr I.env0 (hb s us I.kIn hl) r2 h) fun r s' hq => ?_)
  cases r with
  | error e => exact hx pins σ H s e s' I hq
  | ok fl =>
    cases fl with
    | ret u => exact I.after hq
    | next => exact False.elim hq
    | brk => exact False.elim hq
    | cont => exact False.elim hq

theorem pe_call (F : FnOk X.prog X.w X.K X.mg X.base CX k f fd ps sp) (hr : Room k X.A) (hg : Gl X x) (hm : X.mg x = some (.ref f)) (hk : PySem.W.keepIn X.K (.ref f) = true) (hb : Binds X.K fd ps ds) (hd : Vals dvs ds) (hx : Passes CX X E)
    (ha : PA X (e :: es) t) (hdb : (x == ("__debug__" : Str)) = false := by decide) (he : starEach (e :: es) X.env = (false, eval e X.env) :: starEach es X.env := by rfl) (hpl : (backTo pos (starEach es X.env)).any (·.1) = false := by rfl) :
    PE X (.Call (.Name x p) (e :: es) [] pos) (tCall sp dvs E t) := by
  intro pins s σ H Q I h
  refine wpAny_Call_Name_kw (ld_glob I hg hm ?_ hdb)
  refine PySem.W.callWith_K (h₀ := X.base) I.ok.mod.kin hk (thn (ha pos pins s σ H _ I h) fun us s1 ⟨vs, H1, I1, r, q⟩ => ⟨I1.kIn, ?_⟩) he hpl
  exact run_fn F hr hb hd hx I1 r q



end

/-! ### keywords -/
section
variable {X : Cx} {CX : CXT} {k : Nat} {f C : Addr} {fd : FuncData} {ps ks : List Str} {sp : Sp} {E : XK} {x m : Str} {p pos apos kpos : Pos} {e o : Expr} {es : List Expr} {kws : List Keyword} {te ta : TE} {t tk : TA} {nm : Option Str}

variable {g : List Value → List Value → List Value} {gV : List V → List V → List V}
end

/-! ### a def's body keeps its promise -/
/-- names: the parameters first -/
structure FnScope (N P : List Str) (sc : Scope) : Prop where
  kind : sc.kind = .function
  co : sc.isCoroutine = false
  gen : sc.isGenerator = false
  nd : N.Nodup
  pre : N.take P.length = P
  par : ∀ x ∈ P, sc.names.lookup x = some .local ∨ sc.names.lookup x = some .cell
  nofree : ∀ y ∈ sc.names, y.2 ≠ .free

theorem bindL_out {kindOf : Str → Option NameKind} {x : Str} : ∀ {binds : List (Str × Value)} {m : Str → Option Value}, (∀ v, (x, v) ∉ binds) → bindL kindOf binds m x = m x
  | [], _, _ => rfl
  | (n, v) :: r, m, h => by
    unfold bindL
    rw [bindL_out fun w hw => h w (List.mem_cons_of_mem _ hw)]
    split
    · have : x ≠ n := by rintro rfl; exact h v List.mem_cons_self
      simp [this]
    · rfl
theorem bindC_out {kindOf : Str → Option NameKind} {x : Str} : ∀ {binds : List (Str × Value)} {m : Str → Option Value}, (∀ v, (x, v) ∉ binds) → bindC kindOf binds m x = m x
  | [], _, _ => rfl
  | (n, v) :: r, m, h => by
    unfold bindC
    rw [bindC_out fun w hw => h w (List.mem_cons_of_mem _ hw)]
    split
    · rfl
    · have : x ≠ n := by rintro rfl; exact h v List.mem_cons_self
      simp [this]
theorem bindL_get {kindOf : Str → Option NameKind} {x : Str} {v : Value} : ∀ {P : List Str} {vs : List Value} {i : Nat} {m : Str → Option Value}, P.Nodup → P[i]? = some x → vs[i]? = some v → kindOf x = some .local →
    bindL kindOf (P.zip vs) m x = some v
  | [], _, _, _, _, h, _, _ => by simp at h
  | _ :: _, [], _, _, _, _, h, _ => by simp at h
  | p :: P, w :: vs, 0, m, nd, h1, h2, hk => by
    simp at h1 h2; subst h1; subst h2
    show bindL kindOf ((p, w) :: P.zip vs) m p = _
    unfold bindL
    rw [bindL_out fun v hv => (List.nodup_cons.mp nd).1 (List.of_mem_zip hv).1, if_pos hk]
    simp
  | p :: P, w :: vs, i + 1, m, nd, h1, h2, hk => by
    show bindL kindOf ((p, w) :: P.zip vs) m x = _
    unfold bindL
    exact bindL_get (i := i) (List.nodup_cons.mp nd).2 (by simpa using h1) (by simpa using h2) hk
theorem bindC_get {kindOf : Str → Option NameKind} {x : Str} {v : Value} : ∀ {P : List Str} {vs : List Value} {i : Nat} {m : Str → Option Value}, P.Nodup → P[i]? = some x → vs[i]? = some v → kindOf x ≠ some .local →
    bindC kindOf (P.zip vs) m x = some v
  | [], _, _, _, _, h, _, _ => by simp at h
  | _ :: _, [], _, _, _, _, h, _ => by simp at h
  | p :: P, w :: vs, 0, m, nd, h1, h2, hk => by
    simp at h1 h2; subst h1; subst h2
    show bindC kindOf ((p, w) :: P.zip vs) m p = _
    unfold bindC
    rw [bindC_out fun v hv => (List.nodup_cons.mp nd).1 (List.of_mem_zip hv).1, if_neg hk]
    simp
  | p :: P, w :: vs, i + 1, m, nd, h1, h2, hk => by
    show bindC kindOf ((p, w) :: P.zip vs) m x = _
    unfold bindC
    exact bindC_get (i := i) (List.nodup_cons.mp nd).2 (by simpa using h1) (by simpa using h2) hk

/-- the names' values at the entry -/
def start (N : List Str) (vs : List V) : St := vs.map some ++ List.replicate (N.length - vs.length) none

/-- the context of a def's body, at its entry; an exception leaves the frame, then lies as CX says -/
def cxOf (CX : CXT) (P : Program) (w : World) (K : PySem.W.Frag) (mg : Str → Option Value) (base : Heap) (N : List Str) (qual : Str) (scope : Scope) (f : Addr) (cd : Value) (A : Around) (outer : List Env) (s : Shared) (H : Hp) (E : XK) : Cx where
  prog := P
  w := w
  K := K
  mg := mg
  base := base
  A := A.deeper (envOfC qual scope s.heap.objs.size f cd)
  N := N
  s₀ := s
  H₀ := H
  env := envOfC qual scope s.heap.objs.size f cd
  outer := outer
  stack := envOfC qual scope s.heap.objs.size f cd :: outer
  ex := []
  calm := true
  fn := fun _ => true
  pn := []
  xe := fun e s' => wpAny (model P w) (A.deeper (envOfC qual scope s.heap.objs.size f cd)) (leaving (envOfC qual scope s.heap.objs.size f cd) e) (fun _ s'' => CX outer H s E e s'') (fun e' s'' => CX outer H s E e' s'') s'

theorem cell_has {sc : Scope} {n : Nat} {x : Str} (h : sc.names.lookup x = some .cell) : ∃ c, (cellsFrom n sc.names []).lookup x = some c := by
  have q := PySem.W.cellsFrom_some sc.names n [] (.inl h)
  exact Option.isSome_iff_exists.mp q

theorem inv_start {CX : CXT} {P : Program} {w : World} {K : PySem.W.Frag} {mg : Str → Option Value} {base : Heap} {N ps : List Str} {qual : Str} {scope : Scope} {f : Addr} {cd : Value} {A : Around} {outer : List Env} {s s1 : Shared} {H : Hp} {E : XK} {us : List Value} {vs : List V}
    (S : FnScope N ps scope) (hd : A.handled = none) (e0 : Env0 P w K mg base A outer s H) (hl : vs.length = ps.length) (r : Vals vs us)
    (x : InCallC s s.heap.objs.size (bindL (envOfC qual scope s.heap.objs.size f cd).kindOf (ps.zip us) fun _ => none) (cellsFrom (s.heap.objs.size + 1) scope.names []) (bindC (envOfC qual scope s.heap.objs.size f cd).kindOf (ps.zip us) fun _ => none) s1) :
    Inv (cxOf CX P w K mg base N qual scope f cd A outer s H E) [] (start N vs) H s1 := by
  have hpl : ps.length ≤ N.length := by have := congrArg List.length S.pre; rw [List.length_take] at this; omega
  obtain ⟨h1, tk, rfl, hk⟩ := x.done
  have noA : ∀ b : Addr, b ∉ (cxOf CX P w K mg base N qual scope f cd A outer s H E).ex := fun b z => absurd (show b ∈ ([] : List Addr) from z) (by simp)
  refine ⟨⟨e0.mod, S.kind, rfl, rfl, Nat.le_refl _, fun y z c h1 h2 => ?_, fun y hy => ?_, fun y c _ h => ?_, fun _ => hd, Around.frames_deeper e0.frames, .inr ⟨rfl, rfl⟩, fun b z => absurd z (noA b), e0.bs, e0.bsz, fun b _ _ => noA b, fun b z => absurd z (noA b), e0.funs, e0.frf⟩,
    rfl, e0.bare, Un.kept hk, ⟨_, x.toInCall.ns, fun i y v h1 h2 h3 => ?_⟩, fun y c h => ⟨_, x.cell y c h⟩, e0.hok.fresh (Nat.le_refl _), fun y c h => ?_, fun p hp => absurd (show p ∈ ([] : List (Addr × Obj)) from hp) (by simp), e0.hok.kept hk, ?_⟩
  · exact name_of_addr x.apart (PySem.mem_of_lookup h1) (PySem.mem_of_lookup h2)
  · have hy : scope.names.lookup y = some .cell ∨ scope.names.lookup y = some .free := hy
    rcases hy with hy | hy
    · exact cell_has hy
    · exact absurd rfl (S.nofree _ (PySem.mem_of_lookup hy))
  · exact Nat.le_of_lt (x.above y c (PySem.mem_of_lookup h))
  · have hi : i < vs.length := by
      unfold start at h2
      by_cases hi : i < vs.length
      · exact hi
      · rw [List.getElem?_append_right (by simpa using hi)] at h2
        rw [List.getElem?_replicate] at h2
        split at h2 <;> cases h2
    have ha : vs[i]? = some v := by
      unfold start at h2
      rw [List.getElem?_append_left (by simpa using hi), List.getElem?_map] at h2
      cases e : vs[i]? with
      | none => rw [e] at h2; cases h2
      | some a => rw [e] at h2; cases h2; rfl
    obtain ⟨u, hu, rv⟩ := r.get ha
    have hp : ps[i]? = some y := by
      rw [← S.pre, List.getElem?_take_of_lt (by omega)]; exact h1
    have ndP : ps.Nodup := by rw [← S.pre]; exact S.nd.sublist (List.take_sublist _ _)
    refine ⟨u, rv, ?_⟩
    rcases S.par y (List.mem_of_getElem? hp) with k | k
    · exact .inl ⟨k, bindL_get ndP hp hu k⟩
    · obtain ⟨c, e⟩ := cell_has (n := s.heap.objs.size + 1) k
      refine .inr ⟨.inl k, c, e, ?_⟩
      have q := x.cell y c e
      rw [bindC_get ndP hp hu (by show scope.names.lookup y ≠ _; rw [k]; decide)] at q
      exact q
  · exact e0.hok.fresh (Nat.le_of_lt (x.above y c (PySem.mem_of_lookup h)))
  · unfold start
    show _ = N.length
    rw [List.length_append, List.length_map, List.length_replicate]
    omega

/-- THE RULE: a def (or a method) of the text, by its body. The body's reading t is chosen for each entry; it is run at the parameters' values -/
theorem fn_of {CX : CXT} {P : Program} {w : World} {K : PySem.W.Frag} {mg : Str → Option Value} {base : Heap} {k : Nat} {f : Addr} {name qual : Str} {params : Arguments} {body : List Stmt} {scope : Scope} {dV kV doc pm cdv ct oc : Value} {an od : Option Addr}
    {osl : Array (Option Value)} {N ps : List Str} {sp : Sp} (lk : K.lookup f = some ⟨oc, od, .func (PySem.W.fnOf name qual params body scope dV kV doc pm an cdv ct), osl⟩) (hcd : PySem.W.codeIn K cdv qual = true) (S : FnScope N ps scope)
    (len : ∀ vs H Q E, sp vs H Q E → vs.length = ps.length)
    (hbody : ∀ (A : Around) (outer : List Env) (s : Shared) (H : Hp) (vs : List V) (Q : VK) (E : XK), Room k (A.deeper (envOfC qual scope s.heap.objs.size f cdv)) → sp vs H Q E →
      ∃ t, PSs (cxOf CX P w K mg base N qual scope f cdv A outer s H E) body t ∧ t { nx := fun _ H' => Q .non H', rt := Q } (start N vs) H) :
    FnOk P w K mg base CX (k + 1) f (PySem.W.fnOf name qual params body scope dV kV doc pm an cdv ct) ps sp := by
  refine ⟨len, fun A outer s H args us vs Q E hr e0 hb r hsp => ?_⟩
  have hl := len _ _ _ _ hsp
  have KX : K.In s.heap := e0.mod.kin.keeps fun b o e => (e0.bs b o e).1
  have lim : s.heap.NoLimit := e0.mod.nolimit.keeps fun b o e => (e0.bs b o e).1
  have hkind : ∀ y ∈ ps.zip us, scope.names.lookup y.1 = some .local ∨ (scope.names.lookup y.1 = some .cell ∧ ((cellsFrom (s.heap.objs.size + 1) scope.names []).lookup y.1).isSome = true) := fun ⟨n, v⟩ hy => by
    rcases S.par n (List.of_mem_zip hy).1 with q | q
    · exact .inl q
    · exact .inr ⟨q, PySem.W.cellsFrom_some _ _ _ (.inl q)⟩
  refine codeAny_call_function hr.depth (KX _ _ lk) rfl S.co S.gen rfl (PySem.W.codeRec_of KX hcd) (hb _ _ _ _ ?_)
  refine wpAny_newFunctionEnv_cells S.kind hkind fun env he s1 x => ?_
  subst he
  refine ⟨lim.keeps x.toInCall.keep, codeAny_func ?_⟩
  obtain ⟨t, ht, hq⟩ := hbody A outer s H vs Q E (hr.deeper _) hsp
  have I : Inv (cxOf CX P w K mg base N qual scope f cdv A outer s H E) [] (start N vs) H s1 := inv_start S hr.hd e0 hl r x
  refine wpAny_mono (ht [] s1 (start N vs) H _ I hq) (fun fl s' hs => ?_) fun e s' hs => hs
  have fin : ∀ {σ' : St} {H' : Hp} {v : V} {u : Value}, Inv (cxOf CX P w K mg base N qual scope f cdv A outer s H E) [] σ' H' s' → RelV v u → Q v H' → CE outer P w H s Q u s' :=
    fun {σ' H' v u} J rv q => ⟨v, H', J.os, J.bare, J.base, J.hok, rv, q⟩
  cases fl with
  | ret u =>
    obtain ⟨v, σ', H', J, rv, q⟩ := hs
    exact fin J rv q
  | next =>
    obtain ⟨σ', H', J, q⟩ := hs
    exact fin (v := V.non) (u := Value.none) J rfl q
  | brk =>
    obtain ⟨_, _, _, q⟩ := hs
    exact False.elim q
  | cont =>
    obtain ⟨_, _, _, q⟩ := hs
    exact False.elim q
end L2

namespace L2
open PySem PySem.Spec PyProof.Rows
section
variable {X : Cx} {x : Str} {p pos : Pos} {e : Expr} {es : List Expr} {t : TA} {id T : String} {r : List V → Hp → VK → Prop}

def tCB (r : List V → Hp → VK → Prop) (t : TA) : TE := fun σ H Q => t σ H fun vs H1 => r vs H1 Q
/-- f(e, ..), f a built-in function -/
theorem pe_callB (hc : CallR X (.builtin id) r) (hg : Gl X x) (hm : X.mg x = none) (hv : bootBuiltins x = some (.builtin id)) (ha : PA X (e :: es) t) (hn : x ≠ "__name__" := by decide) (hdb : (x == ("__debug__" : Str)) = false := by decide)
    (he : starEach (e :: es) X.env = (false, eval e X.env) :: starEach es X.env := by rfl) (hpl : (backTo pos (starEach es X.env)).any (·.1) = false := by rfl) : PE X (.Call (.Name x p) (e :: es) [] pos) (tCB r t) := by
  intro pins s σ H Q I h
  refine wpAny_Call_Name_kw (ld_blt I hg hm hv ?_ hn hdb)
  exact PyProof.Rows.callWith_builtin1 (thn (ha pos pins s σ H _ I h) fun us s1 ⟨vs, H1, I1, r1, q1⟩ => hc pins s1 σ H1 vs us Q I1 r1 q1) he hpl
end
end L2

namespace HT
open PySem PyProof.Rows



section
open PySem.SeqAt
open PySem.AutoSeq1 (wpAny_loadPart')
open PySem.MeetsSeq PySem.MeetsSeq2 PySem.MeetsSeq3

end

section
variable {prog : Program} {w : World} {A : Around} {E : Value → Shared → Prop} {s : Shared}



/-! ### t[a:b], not the whole -/

end
end HT

namespace L2
open PySem PySem.Spec PyProof.Rows

/-! ### the parts of a slice -/


section
variable {X : Cx} {e : Expr} {te : TE} {lo hi : Option Expr} {tl th : TO} {pos p2 : Pos}




/-! ### t < u, t + u -/
end
end L2

namespace L2
open PySem PySem.Spec PyProof.Rows

/-! ### places -/
/-- the place that an index of any sign means -/
def ixN (n : Nat) (i : Int) : Option Nat := if 0 ≤ i then (if i < n then some i.toNat else none) else if -(n : Int) ≤ i then some (i + n).toNat else none
def atI {α : Type} (xs : List α) (i : Int) : Option α := (ixN xs.length i).bind fun j => xs[j]?
theorem ixN_seq {n : Nat} {i : Int} {j : Nat} (h : ixN n i = some j) : seqIndex? i n = some j ∧ j < n ∧ -(n : Int) ≤ i ∧ i < n := by
  unfold ixN at h
  by_cases h0 : 0 ≤ i
  · rw [if_pos h0] at h
    by_cases h1 : i < n
    · rw [if_pos h1] at h
      have e : i.toNat = j := Option.some.inj h
      exact ⟨by rw [seqIndex_of h0 h1, e], by omega, by omega, h1⟩
    · rw [if_neg h1] at h; cases h
  · rw [if_neg h0] at h
    by_cases h1 : -(n : Int) ≤ i
    · rw [if_pos h1] at h
      have e : (i + n).toNat = j := Option.some.inj h
      exact ⟨by rw [seqIndex_neg (by omega) h1, e], by omega, h1, by omega⟩
    · rw [if_neg h1] at h; cases h
theorem atI_get {α : Type} {xs : List α} {i : Int} {v : α} (h : atI xs i = some v) : ∃ j, seqIndex? i xs.length = some j ∧ xs[j]? = some v ∧ j < xs.length ∧ -(xs.length : Int) ≤ i ∧ i < xs.length := by
  unfold atI at h
  cases e : ixN xs.length i with
  | none => rw [e] at h; cases h
  | some j =>
    rw [e] at h
    obtain ⟨h1, h2, h3, h4⟩ := ixN_seq e
    exact ⟨j, h1, h, h2, h3, h4⟩
theorem atI_nat {α : Type} {xs : List α} {j : Nat} {v : α} (h : xs[j]? = some v) : atI xs (j : Int) = some v := by
  have hj : j < xs.length := (List.getElem?_eq_some_iff.mp h).1
  have e : ixN xs.length (j : Int) = some j := by
    unfold ixN
    rw [if_pos (by omega), if_pos (by omega)]; simp
  unfold atI; rw [e]; exact h

/-! ### what may be subscripted -/
/-- what stands as an index of a plain subscript -/
def PlainIx (b : Expr) : Prop := ∀ o i, subscripted b false o i = operate [o, i] (getItem o i)
/-- a subscript by values -/
def IxR (X : Cx) (r : R2) : Prop :=
  ∀ (value slice : Expr) (pins : List (Addr × Obj)) (s : Shared) (σ : St) (H : Hp) (x y : V) (v u : Value) (Q : VK), Inv X pins σ H s → RelV x v → RelV y u → r x y H Q →
    subscripted slice false v u = operate [v, u] (getItem v u) → wpAny (model X.prog X.w) X.A (subscriptTail value slice v u) (EP X pins σ Q) X.xe s
/-- a call of a builtin's method by values: the receiver, the arguments -/
def MtR (X : Cx) (id : String) (r : V → List V → Hp → VK → Prop) : Prop :=
  ∀ (pins : List (Addr × Obj)) (s : Shared) (σ : St) (H : Hp) (x : V) (xs : List V) (v : Value) (us : List Value) (Q : VK), Inv X pins σ H s → RelV x v → Vals xs us → r x xs H Q →
    wpAny (model X.prog X.w) X.A (call (.builtin id) (v :: us)) (EP X pins σ Q) X.xe s
section
variable {X : Cx} {a b : Expr} {ta tb : TE} {pos : Pos}
/-- a[b] -/
theorem pe_ix {r : R2} (hr : IxR X r) (ha : PE X a ta) (hb : PE X b tb) (hs : PlainIx b) : PE X (.Subscript a b pos) (tOp r ta tb) := by
  intro pins s σ H Q I h
  exact Subscript_ (binT ha hb I h fun v u s2 x y H2 I2 rx ry q => hr a b pins s2 σ H2 x y v u Q I2 rx ry q (hs _ _))

def rIxL (K : PySem.W.Frag) : R2 := fun x y H Q => ∃ p xs i v, x = .ref p ∧ y = .int i ∧ SqL K H p xs ∧ atI xs i = some v ∧ Q v H
theorem ix_list : IxR X (rIxL X.K) := by
  intro value slice pins s σ H x y v u Q I rx ry h hs
  obtain ⟨p, xs, i, z, rfl, rfl, hq, he, q⟩ := h
  cases rx
  obtain ⟨t, rfl⟩ := ry
  obtain ⟨its, r, pl, hz⟩ := I.list hq
  obtain ⟨j, h1, h2, h3, h4, h5⟩ := atI_get he
  obtain ⟨w, ew, rw'⟩ := r.get h2
  have hl := r.length
  have hn := line63
  have fin : EP X pins σ Q w s := ⟨z, H, I, rw', q⟩
  by_cases h0 : 0 ≤ i
  · have hj : i.toNat = j := by
      rw [seqIndex_of h0 h5] at h1
      exact Option.some.inj h1
    exact item_listR pl.isList h0 (by omega) (by rw [hj]; simpa using ew) fin hs
  · have hj : (i + (its.toArray.size : Int)).toNat = j := by
      rw [seqIndex_neg (by omega) h4] at h1
      rw [List.size_toArray, ← hl]
      exact Option.some.inj h1
    exact subscriptTail_builtinR (x := w) pl.isList.typeIs slot_list_getitem.lookup
      (wpAny_getItem_list_neg (Q := fun r s' => r = w ∧ EP X pins σ Q r s') pl.isList (by omega) (by rw [List.size_toArray] <;> omega) (by omega) (by rw [hj]; simpa using ew) ⟨rfl, fin⟩) hs

/-! ### xs[i] = v, any sign -/
/-- the list's object behind a store -/
theorem mapSeq_set (its : List Value) (n j : Nat) (u : Value) : Obj.mapSeq (·.setIfInBounds j u) { cls := .type "list", data := .seq its.toArray n } = { cls := .type "list", data := .seq (its.set j u).toArray n } := by
  simp [Obj.mapSeq]
theorem Inv.lst {pins : List (Addr × Obj)} {σ : St} {H : Hp} {s : Shared} {p : Addr} {xs : List V} (I : Inv X pins σ H s) (h : H p = some (.lst xs)) :
    ∃ (its : List Value) (n : Nat), Vals xs its ∧ s.heap.get? p = some { cls := .type "list", data := .seq its.toArray n } ∧ xs.length ≤ sizeLine := by
  obtain ⟨z, its, n, r, e⟩ := I.hok p _ h
  exact ⟨its, n, r, e, z⟩
/-- the list at p is written by an update of its object -/
theorem Inv.lstUpd {pins : List (Addr × Obj)} {σ : St} {H : Hp} {s : Shared} {p : Addr} {xs ys : List V} {its its' : List Value} {n n' : Nat} {f : Obj → Obj} (I : Inv X pins σ H s) (h : H p = some (.lst xs))
    (ho : s.heap.get? p = some { cls := .type "list", data := .seq its.toArray n }) (hf : f { cls := .type "list", data := .seq its.toArray n } = { cls := .type "list", data := .seq its'.toArray n' }) (r : Vals ys its') (hz : ys.length ≤ sizeLine) (t : Nat) :
    Inv X pins σ (upd H p (.lst ys)) { s with heap := s.heap.update p f, toks := t } := by
  have e : (s.heap.update p f).get? p = some { cls := .type "list", data := .seq its'.toArray n' } := by
    rw [Heap.get?_update_self f ho (by rw [hf] <;> rfl), hf]
  refine I.write (x := p) (e := p) (by rw [h]; trivial) (.inl rfl) (fun b u hb q => (Heap.get?_update_other _ _ (Ne.symm hb)).trans q) ⟨_, e⟩ ?_
  exact ⟨hz, its', n', r, e⟩
def rSetL : V → V → V → Hp → (Hp → Prop) → Prop := fun o i v H Q => ∃ p xs k j, o = .ref p ∧ i = .int k ∧ H p = some (.lst xs) ∧ ixN xs.length k = some j ∧ Q (upd H p (.lst (xs.set j v)))
theorem set_list : PSet X rSetL := by
  intro pins s σ H o i v ov iv u Q I ro ri rv h
  obtain ⟨p, xs, k, j, rfl, rfl, hp, hj, q⟩ := h
  cases ro
  obtain ⟨t, rfl⟩ := ri
  obtain ⟨its, n, r, ho, hz⟩ := I.lst hp
  obtain ⟨h1, h2, h3, h4⟩ := ixN_seq hj
  have hl := r.length
  have hn := line63
  have I' : Inv X pins σ (upd H p (.lst (xs.set j v))) { s with heap := s.heap.update p (Obj.mapSeq (·.setIfInBounds j u)) } :=
    I.lstUpd hp ho (mapSeq_set its n j u) (r.set rv j) (by rw [List.length_set]; exact hz) s.toks
  by_cases h0 : 0 ≤ k
  · have hk : k.toNat = j := by
      rw [seqIndex_of h0 h4] at h1
      exact Option.some.inj h1
    exact PySem.W.ki_setAt ho h0 (by omega) (by rw [List.size_toArray, ← hl]; exact h4) (by rw [hk]; exact ⟨_, I', q⟩)
  · have hk : (k + (its.toArray.size : Int)).toNat = j := by
      rw [seqIndex_neg (by omega) h3] at h1
      rw [List.size_toArray, ← hl]
      exact Option.some.inj h1
    exact PySem.W.ki_setBack ho (by omega) (by rw [List.size_toArray, ← hl]; exact h3) (by omega) (by rw [hk]; exact ⟨_, I', q⟩)

/-! ### slices -/

/-! ### in, not in: flat items -/
def flatV : V → Bool
  | .non => true
  | .bl _ => true
  | .int _ => true
  | .str _ => true
  | _ => false
/-- == of flat values -/
def eqV : V → V → Bool
  | .non, .non => true
  | .bl a, .bl b => a == b
  | .bl a, .int b => (if a then 1 else 0) == b
  | .int a, .bl b => a == (if b then 1 else 0)
  | .int a, .int b => a == b
  | .str a, .str b => a == b
  | _, _ => false
theorem eqAt_V {A : Around} {s : Shared} {y x : V} {u v : Value} (ry : RelV y u) (rx : RelV x v) (fy : flatV y = true) (fx : flatV x = true) : SeqAt.EqAt A s u v (eqV y x) := by
  cases y with
  | non =>
    cases ry
    cases x with
    | non => cases rx; exact SeqAt.EqAt.same _
    | bl b => cases rx; exact SeqAt.EqAt.none_bool b
    | int b => obtain ⟨t, rfl⟩ := rx; exact SeqAt.EqAt.none_int b t
    | str b => obtain ⟨t, rfl⟩ := rx; exact SeqAt.EqAt.none_str b t
    | _ => exact absurd (show false = true from fx) Bool.false_ne_true
  | bl a =>
    cases ry
    cases x with
    | non => cases rx; exact SeqAt.EqAt.bool_none a
    | bl b => cases rx; exact SeqAt.EqAt.bool_bool a b
    | int b => obtain ⟨t, rfl⟩ := rx; exact SeqAt.EqAt.bool_int a b t
    | str b => obtain ⟨t, rfl⟩ := rx; exact SeqAt.EqAt.bool_str a b t
    | _ => exact absurd (show false = true from fx) Bool.false_ne_true
  | int a =>
    obtain ⟨t', rfl⟩ := ry
    cases x with
    | non => cases rx; exact SeqAt.EqAt.int_none a t'
    | bl b => cases rx; exact SeqAt.EqAt.int_bool a t' b
    | int b => obtain ⟨t, rfl⟩ := rx; exact SeqAt.EqAt.int_int a t' b t
    | str b => obtain ⟨t, rfl⟩ := rx; exact SeqAt.EqAt.int_str a t' b t
    | _ => exact absurd (show false = true from fx) Bool.false_ne_true
  | str a =>
    obtain ⟨t', rfl⟩ := ry
    cases x with
    | non => cases rx; exact SeqAt.EqAt.str_none a t'
    | bl b => cases rx; exact SeqAt.EqAt.str_bool a t' b
    | int b => obtain ⟨t, rfl⟩ := rx; exact SeqAt.EqAt.str_int a t' b t
    | str b => obtain ⟨t, rfl⟩ := rx; exact SeqAt.EqAt.str_str a t' b t
    | _ => exact absurd (show false = true from fx) Bool.false_ne_true
  | _ => exact absurd (show false = true from fy) Bool.false_ne_true
/-- the items' answers, read off the values (a value's own answer does not lean on its token) -/
def eqU (x : V) (u : Value) : Bool := match u with
  | .none => eqV .non x
  | .bool b => eqV (.bl b) x
  | .int i _ => eqV (.int i) x
  | .str z _ => eqV (.str z) x
  | _ => false
theorem eqU_of {x y : V} {u : Value} (r : RelV y u) (f : flatV y = true) : eqU x u = eqV y x := by
  cases y with
  | non => cases r; rfl
  | bl b => cases r; rfl
  | int i => obtain ⟨t, rfl⟩ := r; rfl
  | str z => obtain ⟨t, rfl⟩ := r; rfl
  | _ => exact absurd (show false = true from f) Bool.false_ne_true
theorem any_eqU {x : V} : ∀ {xs : List V} {us : List Value}, Vals xs us → xs.all flatV = true → us.any (eqU x) = xs.any fun y => eqV y x
  | _, _, .nil, _ => rfl
  | y :: xs, u :: us, .cons r t, f => by
    rw [List.all_cons, Bool.and_eq_true] at f
    rw [List.any_cons, List.any_cons, eqU_of r f.1, any_eqU t f.2]
theorem mem_eqAt {A : Around} {s : Shared} {x : V} {v : Value} (rx : RelV x v) (fx : flatV x = true) : ∀ {xs : List V} {us : List Value}, Vals xs us → xs.all flatV = true → ∀ u ∈ us, SeqAt.EqAt A s u v (eqU x u)
  | _, _, .nil, _ => fun u hu => by cases hu
  | y :: xs, u :: us, .cons r t, f => fun u' hu => by
    rw [List.all_cons, Bool.and_eq_true] at f
    rcases List.mem_cons.mp hu with rfl | hu
    · rw [eqU_of r f.1]; exact eqAt_V r rx f.1 fx
    · exact mem_eqAt rx fx t f.2 u' hu
def inV (x : V) (xs : List V) : Bool := xs.any fun y => eqV y x
/-- x in a list or tuple of flat items -/
def rIn (K : PySem.W.Frag) (neg : Bool) : R2 := fun x y H Q => ∃ p xs, y = .ref p ∧ (SqL K H p xs ∨ SqT K H p xs) ∧ flatV x = true ∧ xs.all flatV = true ∧ Q (.bl (if neg then !inV x xs else inV x xs)) H
theorem op_in_seq : OpR X (compareOp .In) (rIn X.K false) := by
  intro pins s σ H x y v u Q I rx ry h
  obtain ⟨p, xs, rfl, hq, fx, fs, q⟩ := h
  cases ry
  rcases hq with hq | hq
  · obtain ⟨its, r, pl, hz⟩ := I.list hq
    refine SeqAt.in_listAt (eqU x) pl.isList (fun w hw => mem_eqAt rx fx r fs w (by simpa using hw)) ⟨.bl _, H, I, rfl, ?_⟩
    rw [show its.toArray.any (eqU x) = its.any (eqU x) by simp, any_eqU r fs]
    exact q
  · obtain ⟨its, r, pl, hz⟩ := I.tuple hq
    refine SeqAt.in_tupleAt (eqU x) pl (fun w hw => mem_eqAt rx fx r fs w (by simpa using hw)) ⟨.bl _, H, I, rfl, ?_⟩
    rw [show its.toArray.any (eqU x) = its.any (eqU x) by simp, any_eqU r fs]
    exact q

/-! ### len, list(x), tuple(x) of any list or tuple that is read -/
theorem call_len_seq : CallR X (.builtin "len") (fun xs H Q => ∃ p ys, xs = [.ref p] ∧ (SqL X.K H p ys ∨ SqT X.K H p ys) ∧ Q (.int ys.length) H) := by
  intro pins s σ H xs us Q I r h
  obtain ⟨p, ys, rfl, hq, q⟩ := h
  obtain ⟨u, rfl, rx⟩ := vals1 r
  cases rx
  have hn := line63
  rcases hq with hq | hq
  · obtain ⟨its, r', pl, hz⟩ := I.list hq
    have hlen := r'.length
    exact Calls.call_len_list pl.isList (by simp only [List.size_toArray] <;> omega) ⟨.int ys.length, H, I.tok _, ⟨s.toks + 1, by rw [List.size_toArray, hlen]⟩, q⟩
  · obtain ⟨its, r', pl, hz⟩ := I.tuple hq
    have hlen := r'.length
    exact len_tuple pl (by simp only [List.size_toArray] <;> omega) ⟨.int ys.length, H, I.tok _, ⟨s.toks + 1, by rw [List.size_toArray, hlen]⟩, q⟩

/-! ### the call of a builtin's method: o.m(..) -/
/-- the value is of that builtin type -/
def tyV (K : PySem.W.Frag) (T : String) (x : V) (H : Hp) : Prop := match x with
  | .str _ => T = "str"
  | .int _ => T = "int"
  | .ref p => (T = "list" ∧ ∃ xs, SqL K H p xs) ∨ (T = "tuple" ∧ ∃ o, K.lookup p = some o ∧ o.cls = .type "tuple" ∧ o.dict = none) ∨
      (T = "dict" ∧ ((∃ kvs, H p = some (.dK kvs)) ∨ ∃ kvs, H p = some (.dT kvs))) ∨ (T = "set" ∧ ∃ S n, H p = some (.set S n))
  | _ => False
theorem tyV_is {pins : List (Addr × Obj)} {σ : St} {H : Hp} {s : Shared} {T : String} {x : V} {v : Value} (I : Inv X pins σ H s) (r : RelV x v) (ty : tyV X.K T x H) :
    s.TypeIs v T ∧ ∀ a, v = .ref a → ∃ ob, s.heap.get? a = some ob ∧ ob.dict = none := by
  cases x with
  | str z =>
    obtain ⟨t, rfl⟩ := r
    cases (show T = "str" from ty)
    exact ⟨typeIs_str s z t, fun _ e => nomatch e⟩
  | int i =>
    obtain ⟨t, rfl⟩ := r
    cases (show T = "int" from ty)
    exact ⟨typeIs_int s i t, fun _ e => nomatch e⟩
  | ref p =>
    cases r
    rcases ty with ⟨rfl, xs, hq⟩ | ⟨rfl, o, hk, hc, hd⟩ | ⟨rfl, hk⟩ | ⟨rfl, S, n, hk⟩
    · obtain ⟨its, _, pl, _⟩ := I.list hq
      refine ⟨pl.isList.typeIs, fun a e => ?_⟩
      cases e
      obtain ⟨o, n, e, c, hd, _⟩ := pl
      exact ⟨o, e, hd⟩
    · refine ⟨⟨o, I.kIn p o hk, hc⟩, fun a e => ?_⟩
      cases e
      exact ⟨o, I.kIn _ o hk, hd⟩
    · have z : ∃ o, s.heap.get? p = some o ∧ o.ExactDict := by
        rcases hk with ⟨kvs, hk⟩ | ⟨kvs, hk⟩
        · obtain ⟨_, _, _, _, o, _, _, e, ex, _⟩ := I.hok p _ hk
          exact ⟨o, e, ex⟩
        · obtain ⟨_, _, _, _, o, _, _, e, ex, _⟩ := I.hok p _ hk
          exact ⟨o, e, ex⟩
      obtain ⟨o, e, ex⟩ := z
      refine ⟨⟨o, e, ex.1⟩, fun a e2 => ?_⟩
      cases e2
      exact ⟨o, e, ex.2.1⟩
    · obtain ⟨o, _, _, _, e, ex, _⟩ := I.hok p _ hk
      refine ⟨⟨o, e, ex.1⟩, fun a e2 => ?_⟩
      cases e2
      exact ⟨o, e, ex.2.1⟩
  | _ => exact False.elim ty
def tBM (K : PySem.W.Frag) (T : String) (r : V → List V → Hp → VK → Prop) (to : TE) (t : TA) : TE := fun σ H Q => to σ H fun x H1 => tyV K T x H1 ∧ t σ H1 fun xs H2 => r x xs H2 Q
variable {o e : Expr} {es : List Expr} {to : TE} {t : TA} {name : Str} {apos cpos : Pos} {T id : String} {r : V → List V → Hp → VK → Prop}
theorem pe_bm (pa : PlainAttrs T) (slot : Slot T name id) (hty : typeOf (.builtin id) = pure (.type "method_descriptor")) (hm : MtR X id r) (ho : PE X o to) (ha : PA X (e :: es) t)
    (hbase : attributeBase o name X.env (eval o X.env) = eval o X.env := by rfl)
    (hfew : ((backTo cpos (starEach (e :: es) X.env)).all (fun x => !x.1) && (backToKw cpos (keywordEach [] X.env)).all (fun x => x.1.isSome)
      && decide ((e :: es).length + ([] : List Keyword).length + (if ([] : List Keyword).isEmpty then 0 else 1) < 30)) = true := by rfl)
    (hline : (apos.endLine == cpos.line) = true := by rfl) (hs : starEach (e :: es) X.env = (false, eval e X.env) :: starEach es X.env := by rfl) (hplain : (backTo cpos (starEach es X.env)).any (·.1) = false := by rfl) :
    PE X (.Call (.Attribute o name apos) (e :: es) [] cpos) (tBM X.K T r to t) := by
  intro pins s σ H Q I h
  refine wpAny_Call_method_late hbase hfew hline rfl (thn (ho pins s σ H _ I h) fun v s1 ⟨x, H1, I1, r1, ty, q1⟩ => ?_)
  obtain ⟨h1, h2⟩ := tyV_is I1 r1 ty
  refine ⟨T, id, pa, slot, hty, h1, h2, ?_⟩
  have hA := ha cpos pins s1 σ H1 _ I1 q1
  rw [hs] at hA ⊢
  refine Calls.callWith_builtin (by show (false || (backTo cpos (starEach es X.env)).any (·.1)) = false; rw [hplain] <;> rfl) (Calls.evalArgs_plain ?_)
  exact thn hA fun us s2 ⟨vs, H2, I2, r2, q2⟩ => hm pins s2 σ H2 x vs v us Q I2 r1 r2 q2
/- xs.append(e), list.index on a module's tuple .. are MtR facts of 06m -/
end
end L2

namespace L2
open PySem PySem.Spec PyProof.Rows

def MtM (X : Cx) (id : String) (r : V → List V → Hp → VK → Prop) : Prop :=
  ∀ (pins : List (Addr × Obj)) (s : Shared) (σ : St) (H : Hp) (x : V) (xs : List V) (v : Value) (us : List Value) (Q : VK), Inv X pins σ H s → RelV x v → Vals xs us → r x xs H Q →
    wpAny (model X.prog X.w) X.A (call (.builtin id) (v :: us)) (EP X pins σ Q) X.xe s

/-! ### lists of values -/
theorem Vals.one : ∀ {x : V} {us : List Value}, Vals [x] us → ∃ u, us = [u] ∧ RelV x u
  | _, _, .cons r .nil => ⟨_, rfl, r⟩
theorem Vals.two : ∀ {x y : V} {us : List Value}, Vals [x, y] us → ∃ u v, us = [u, v] ∧ RelV x u ∧ RelV y v
  | _, _, _, .cons r (.cons q .nil) => ⟨_, _, rfl, r, q⟩
theorem Vals.rep {xs : List V} {us : List Value} (h : Vals xs us) : ∀ k : Nat, Vals (List.replicate k xs).flatten (List.replicate k us).flatten
  | 0 => .nil
  | k + 1 => by
    rw [List.replicate_succ, List.replicate_succ, List.flatten_cons, List.flatten_cons]
    exact Vals.append h (Vals.rep h k)
theorem foldl_rep (its : List Value) : ∀ (k : Nat) (acc : List Value),
    List.foldl (fun x1 x2 => x1 ++ x2) acc.toArray (List.replicate k its.toArray) = (acc ++ (List.replicate k its).flatten).toArray
  | 0, acc => by simp
  | k + 1, acc => by
    have e : acc.toArray ++ its.toArray = (acc ++ its).toArray := by simp
    have e2 : (acc ++ its) ++ (List.replicate k its).flatten = acc ++ (List.replicate (k + 1) its).flatten := by
      rw [List.replicate_succ, List.flatten_cons, List.append_assoc]
    rw [← e2, ← foldl_rep its k (acc ++ its), ← e, List.replicate_succ, List.foldl_cons]

section
variable {X : Cx} {pins : List (Addr × Obj)} {σ : St} {H : Hp} {s : Shared} {l b : Addr} {xs ys zs : List V}

/-! ### the two steps: a tracked list is rewritten, a new list is laid -/
theorem Inv.lset {its its' : List Value} {n : Nat} {f : Array Value → Array Value} {t' : Nat} (I : Inv X pins σ H s) (hH : H l = some (.lst xs))
    (e : s.heap.get? l = some { cls := .type "list", data := .seq its.toArray n }) (hf : f its.toArray = its'.toArray) (hv : Vals ys its') (hz : ys.length ≤ sizeLine) :
    Inv X pins σ (upd H l (.lst ys)) { s with heap := s.heap.update l (Obj.mapSeq f), toks := t' } := by
  have q := PySem.IsL.update e f
  rw [hf] at q
  refine I.write (x := l) (e := l) (by rw [hH]; exact trivial) (.inl rfl) (fun b' u hb hu => (Heap.get?_update_other s.heap (Obj.mapSeq f) (Ne.symm hb)).trans hu) ⟨_, q⟩ ?_
  exact ⟨hz, its', _, hv, q⟩
theorem Inv.lnew {its : List Value} {t' : Nat} (I : Inv X pins σ H s) (hv : Vals ys its) (hz : ys.length ≤ sizeLine) :
    Inv X pins σ (upd H s.heap.objs.size (.lst ys)) { s with heap := s.heap.push { cls := .type "list", data := .seq its.toArray }, toks := t' } :=
  I.laid (fun _ _ q => Heap.get?_push_of_some _ q) (Nat.le_refl _) ⟨hz, its, 0, hv, Heap.get?_push_size _ rfl⟩
theorem Inv.fresh (I : Inv X pins σ H s) : H s.heap.objs.size = none := I.hok.fresh (Nat.le_refl _)
theorem Inv.lstM (I : Inv X pins σ H s) (hH : H l = some (.lst xs)) : xs.length ≤ sizeLine ∧ ∃ (its : List Value) (n : Nat), Vals xs its ∧ xs.length = its.length ∧ s.heap.get? l = some { cls := .type "list", data := .seq its.toArray n } := by
  obtain ⟨z, its, n, r, e⟩ := I.hok l _ hH
  exact ⟨z, its, n, r, r.length, e⟩

theorem notLongL {n : Nat} (h : n ≤ sizeLine) : Builtin.List.listTooLong n = false := by
  unfold Builtin.List.listTooLong
  exact decide_eq_false (by omega)
end

section
variable {X : Cx}

/-! ### methods -/
def rAppend : V → List V → Hp → VK → Prop := fun x vs H Q => ∃ l xs y, x = .ref l ∧ vs = [y] ∧ H l = some (.lst xs) ∧ xs.length < sizeLine ∧ Q .non (upd H l (.lst (xs ++ [y])))
theorem mt_append : MtM X "list.append" rAppend := by
  intro pins s σ H x vs v us Q I rx rv h
  obtain ⟨l, xs, y, rfl, rfl, hH, hz, q⟩ := h
  cases rx
  obtain ⟨u, rfl, ru⟩ := rv.one
  obtain ⟨z, its, n, r, hl, e⟩ := I.lstM hH
  refine call_meets F.slot_list_append ⟨_, e, rfl⟩ F.entry_list_append (F.args_list_append_2 _ _) (PySem.list_append l its.toArray n u (by rw [List.size_toArray]; omega)) ⟨e, ?_⟩
  refine ⟨.non, _, I.lset (its' := its ++ [u]) hH e (by simp) (r.append (.cons ru .nil)) ?_, rfl, q⟩
  rw [List.length_append, List.length_singleton]
  omega






/-! ### list + list, list += list, list * int -/
def rCat : R2 := fun x y H Q => ∃ l b xs zs, x = .ref l ∧ y = .ref b ∧ H l = some (.lst xs) ∧ H b = some (.lst zs) ∧ xs.length + zs.length ≤ sizeLine ∧ ∀ p, H p = none → Q (.ref p) (upd H p (.lst (xs ++ zs)))
theorem op_cat : OpR X (binaryOp .Add) rCat := by
  intro pins s σ H x y v u Q I rx ry h
  obtain ⟨l, b, xs, zs, rfl, rfl, hH, hB, hz, q⟩ := h
  cases rx
  cases ry
  obtain ⟨z, its, n, r, hl, e⟩ := I.lstM hH
  obtain ⟨z2, its2, n2, r2, hl2, e2⟩ := I.lstM hB
  refine PySem.P.add_list e e2 ?_ (by rw [List.size_toArray, List.size_toArray]; omega)
  have ea : its.toArray ++ its2.toArray = (its ++ its2).toArray := by simp
  rw [ea]
  exact ⟨.ref _, _, I.lnew (t' := s.toks) (r.append r2) (by rw [List.length_append]; omega), rfl, q _ I.fresh⟩
/-- a list times an int (a negative one is nothing) -/
def rRep : R2 := fun x y H Q => ∃ l k xs, x = .ref l ∧ y = .int k ∧ H l = some (.lst xs) ∧ -(2 ^ 63) ≤ k ∧ k < 2 ^ 63 ∧ xs.length * k.toNat ≤ sizeLine ∧
  ∀ p, H p = none → Q (.ref p) (upd H p (.lst (List.replicate k.toNat xs).flatten))
theorem len_rep {α : Type} (xs : List α) (k : Nat) : (List.replicate k xs).flatten.length = k * xs.length := by
  induction k with
  | zero => simp
  | succ k ih => rw [List.replicate_succ, List.flatten_cons, List.length_append, ih, Nat.succ_mul, Nat.add_comm]
theorem op_rep : OpR X (binaryOp .Mult) rRep := by
  intro pins s σ H x y v u Q I rx ry h
  obtain ⟨l, k, xs, rfl, rfl, hH, h1, h2, hz, q⟩ := h
  cases rx
  obtain ⟨t, rfl⟩ := ry
  obtain ⟨z, its, n, r, hl, e⟩ := I.lstM hH
  have hlen : its.toArray.size * k.toNat ≤ sizeLine := by rw [List.size_toArray, ← hl]; exact hz
  have hcap : ¬ its.toArray.size * k.toNat > (2 ^ 63 - 1) / 8 := by
    have : (sizeLine : Nat) ≤ (2 ^ 63 - 1) / 8 := by decide
    omega
  have hfit : ¬ (!Builtin.List.listFitsIndex k) = true := by
    rw [fitsIndex_both h1 h2]
    exact Bool.false_ne_true
  have hlong : ¬ Builtin.List.listTooLong (its.toArray.size * k.toNat) = true := by
    rw [notLongL hlen]
    exact Bool.false_ne_true
  have hnew : List.foldl (fun x1 x2 => x1 ++ x2) #[] (List.replicate (if its.toArray.isEmpty = true then 0 else k.toNat) its.toArray) = (List.replicate k.toNat its).flatten.toArray := by
    have f0 : ∀ m : Nat, List.foldl (fun x1 x2 => x1 ++ x2) #[] (List.replicate m its.toArray) = (List.replicate m its).flatten.toArray := fun m => by
      have := foldl_rep its m []
      rw [List.nil_append] at this
      exact this
    rw [f0]
    cases its with
    | nil => simp
    | cons a r' => rw [if_neg (by simp)]
  refine wpAny_binaryOp_repeat_ref (T := "list") (U := "int") (by decide) ⟨_, e, rfl⟩ (fun s' => typeIs_int s' k t) noFill_list_mul F.fills_int_mul F.slot_int_rmul repeat_list F.slot_int_index.lookup
    (call_meets F.slot_int_rmul (typeIs_int s k t) F.entry_int_rmul (F.args_int_rmul_2 _ _) (int___rmul___int_list k t l its.toArray n)
      ⟨e, rfl, ⟨_, e, rfl⟩, call_meets F.slot_list_mul ⟨_, e, rfl⟩ F.entry_list_mul (F.args_list_mul_2 _ _) (AutoListH.list___mul___list_int_3 l its.toArray n k t hfit hcap hlong) ⟨e, ?_⟩⟩)
  rw [hnew]
  exact ⟨.ref _, _, I.lnew (t' := s.toks) (r.rep k.toNat) (by rw [len_rep, Nat.mul_comm]; exact hz), rfl, q _ I.fresh⟩

/-! ### del xs[i] -/
end

/-! ### xs[a:b] = ys -/
section
variable {prog : Program} {w : World} {A : Around} {E : Value → Shared → Prop} {s : Shared}
set_option maxRecDepth 100000 in
end

section
variable {X : Cx}
end
end L2

namespace Att
open PySem PySem.W PySem.Calls PyProof.Rows

/-! ### the script -/
theorem ints_of_wellAll {P : Params} {h : Heap} : ∀ (ns : List Int) (vs : List Value), WellAll P h vs (ns.map WData.int) → IntsAre vs ns := by
  intro ns
  induction ns with
  | nil =>
    intro vs w
    rw [List.map_nil] at w
    cases w
    exact .nil
  | cons n ns ih =>
    intro vs w
    rw [List.map_cons] at w
    cases w with
    | cons a b =>
      cases a
      exact .cons _ _ (ih _ b)

theorem script_of {l : OpenLaw} {n : Nat} (hn : l.most = some n) {P : Params} {h : Heap} {args : List WData} {vals : List Value}
    (hpre : l.row.toRowW.claim.pre args = true) (hwl : WellAll P h vals args) :
    ∃ a vs ns, vals = [Value.ref a] ∧ args = [WData.list (ns.map WData.int)] ∧ h.get? a = some { cls := .type "list", data := .seq vs.toArray } ∧ IntsAre vs ns ∧ ns.length ≤ n := by
  have hsh : WShape.hasAll [] args [.list .int] = true := (pre_splitW hpre).1
  have hc : l.pre.holds [] { args := args } = true := (pre_splitW hpre).2
  obtain ⟨d, r, rfl, h1, h2⟩ := hasAllW_cons hsh
  obtain rfl := hasAllW_nil h2
  obtain ⟨xs, rfl, h3⟩ := hasW_list h1
  obtain ⟨ns, rfl⟩ := items_int h3
  have hlen : ns.length ≤ n := by
    unfold OpenLaw.pre at hc
    have h4 : (WTm.not (.lt (.lit (.int (n : Int))) (.len (.arg 0)))).holds [] { args := [.list (ns.map .int)] } = true := by
      have h4 := (holds_andW hc).1
      rw [hn] at h4
      exact h4
    have h5 := condW_of h4 (w_not (w_lt w_lit (w_len_list (w_arg rfl))))
    rw [List.length_map] at h5
    refine Nat.le_of_not_lt fun q => ?_
    have q' : (n : Int) < ((ns.length : Nat) : Int) := by omega
    first
      | (rw [decide_eq_true q'] at h5; exact absurd h5 (by decide))
      | (simp at h5; omega)
  cases hwl with
  | cons w1 w2 =>
    cases w2
    cases w1 with
    | list ho hall => exact ⟨_, _, ns, rfl, rfl, ho, ints_of_wellAll ns _ hall, hlen⟩

theorem post_true (l : OpenLaw) (args : List WData) : l.row.toRowW.claim.post args (.bool true) args = true :=
  postW_of (r := l.row.toRowW) (X := (true == true))
    (show WShape.has [] (.bool true) .bool = true by first | rfl | decide | simp [WShape.has, WShape.arms, WShape.armsAll])
    (show (WTm.eq .res (.lit (.bool true))).value [] { args := args, res := some (.bool true), after := args } = some (.bool (true == true)) from w_eq_bool (w_res rfl) w_lit) rfl

/-! ### the attachment: holds_open's last premise (the goal 'hc' behind k_head) from a wpAny of the law's body -/

/-- the same from a codeAny of the CALL (for a layer whose function contracts speak of calls) -/
theorem attach_call {l : OpenLaw} {n : Nat} {q : Program} {loose : List Str} {XP : (Str → Option Value) → Heap → Prop} {YP : World → Heap → Prop} {d : DefRec}
    (hn : l.most = some n) (hdf : d.params.defaults = [])
    (call : ∀ (w : World) (s₀ s₁ : Shared) (mg mb : Str → Option Value) (fa : Addr) (o : Obj) (pm cd doc : Value) (a : Addr) (vs : List Value) (ns : List Int),
      Ground q loose [] XP w s₀ mg mb s₁.heap → YP w s₁.heap →
      s₁.heap.get? fa = some o → o.data = .func (docDef d.name d.params d.body d.scope pm cd doc) → s₁.heap.CodeRec cd d.name → mg d.name = some (.ref fa) →
      s₁.heap.get? a = some { cls := .type "list", data := .seq vs.toArray } → IntsAre vs ns → ns.length ≤ n → s₁.gens = #[] →
      codeAny (model l.prog w) callerA (.call (.ref fa) ⟨[.ref a], []⟩) (fun r s' => r = .ok (.ret (.bool true)) ∧ OldK s₁.heap s'.heap ∧ s'.os = s₁.os ∧ AllBare s'.gens) s₁) :
    WalkO q loose XP YP l.row.toRowW d [] (fun f vs => PySem.call f vs) := by
  intro w s₀ s₁ mg mb G Y fa o pm cd doc dV kV ho hd hcd hD hmg hg args vals as hpre hlay hrd hwl hlo
  obtain rfl : dV = .none := Dflts.none hD hdf
  obtain rfl : kV = .none := Dflts.noKw hD
  obtain ⟨a, vs, ns, rfl, rfl, hobj, hints, hlen⟩ := script_of hn hpre hwl
  refine enter_call (codeAny_mono (call w s₀ s₁ mg mb fa o pm cd doc a vs ns G Y ho (fd_plain hd) hcd hmg hobj hints hlen hg) fun r s' hq => ?_)
  obtain ⟨rfl, h2, h3, h4⟩ := hq
  exact ⟨.inl ⟨.bool true, .bool true, [], rfl, fun _ => rfl, .bool true, post_true l _, fun _ => ⟨List.Pairwise.nil, fun _ hm => (nomatch hm)⟩⟩, h2, h3, h4⟩


/-! ### rules over ANY heap (no ledger) from facts about the written part K: the library's own take a ledger (News) for what they write -/
section
variable {prog : Program} {w : World} {A : Around} {E : Value → Shared → Prop} {s : Shared} {K : Frag}





/-! the whole heap as the ledger: makes every rule that writes through a ledger a rule over any heap -/

end
end Att

namespace L2
open PySem PySem.Spec PyProof.Rows

theorem vals_ints : ∀ {vs : List Value} {ns : List Int}, IntsAre vs ns → Vals (ns.map V.int) vs
  | _, _, .nil => .nil
  | _, _, .cons n t h => .cons ⟨t, rfl⟩ (vals_ints h)

/-- nothing is tracked but the script, known to the object (or it is an object of the module) -/
def Only (H : Hp) : Prop := ∀ b, H b = none ∨ ∃ o xs, H b = some (.frz o (.lst xs))

/-- THE HEAD: the law's promise, at the heap behind the top. F, the promise of the law's def, may use that base is part of the heap (so K.In base, base.Ns mainGlobals mg stand in Mod) -/
theorem law_call {P : Program} {w : World} {K : PySem.W.Frag} {mg mb : Str → Option Value} {CX : CXT} {k : Nat} {fa a : Addr} {fd : FuncData} {x : Str} {sp : Sp} {s₁ : Shared} {vs : List Value} {ns : List Int}
    (KX : K.In s₁.heap) (hns : s₁.heap.Ns mainGlobals mg) (hb : s₁.heap.Ns builtinsNs mb) (hbb : ∀ x : Str, x ≠ "__name__" → mb x = bootBuiltins x) (hlim : s₁.heap.NoLimit) (hg : s₁.gens = #[])
    (ha : s₁.heap.get? a = some { cls := .type "list", data := .seq vs.toArray }) (hi : IntsAre vs ns) (hl : ns.length ≤ sizeLine) (hr : Room k callerA)
    (F : ∀ base : Heap, K.In base → base.Ns mainGlobals mg → FnOk P w K mg base CX k fa fd [x] sp) (hbind : ∀ (s : Shared) (u : Value), BindsTo s fd ⟨[u], []⟩ [(x, u)])
    (hsp : ∀ H : Hp, Only H → SqL K H a (ns.map V.int) → sp [.ref a] H (fun v _ => v = .bl true) fun _ _ _ => False)
    (hCX : ∀ H e s', CX [] H s₁ (fun _ _ _ => False) e s' → False) :
    codeAny (model P w) callerA (.call (.ref fa) ⟨[.ref a], []⟩) (fun r s' => r = .ok (.ret (.bool true)) ∧ OldK s₁.heap s'.heap ∧ s'.os = s₁.os ∧ AllBare s'.gens) s₁ := by
  have rv := vals_ints hi
  have lenV := hi.length
  -- from an abstract heap in which nothing but the script may be tracked
  have core : ∀ H : Hp, Only H → SqL K H a (ns.map V.int) → HOk P w H s₁.heap → (∀ b, H b ≠ none → b = a) → (H a ≠ none → K.lookup a = none) →
      codeAny (model P w) callerA (.call (.ref fa) ⟨[.ref a], []⟩) (fun r s' => r = .ok (.ret (.bool true)) ∧ OldK s₁.heap s'.heap ∧ s'.os = s₁.os ∧ AllBare s'.gens) s₁ := by
    intro H hO hS hok hA hK
    have base_of : ∀ {b : Addr} {o : Obj}, s₁.heap.get? b = some o → H b = none → (hidT s₁.heap H).get? b = some o := fun e n => hidT_get e n
    have noA : ∀ {b : Addr} {o : Obj} {es : Array DictEntry} {ep : Nat}, s₁.heap.get? b = some o → o.data = .dict es ep → H b = none := fun {b o es ep} e d => by
      cases q : H b with
      | none => rfl
      | some u =>
        have e' : b = a := hA b (by rw [q]; simp)
        subst e'
        rw [ha] at e; cases e
        have d' : Data.seq vs.toArray _ = Data.dict es ep := d
        cases d'
    have nsK : ∀ {b : Addr} {m : Str → Option Value}, s₁.heap.Ns b m → (hidT s₁.heap H).Ns b m := fun {b m} ⟨o, es, ep, e, d, r⟩ => ⟨o, es, ep, base_of e (noA e d), d, r⟩
    have hKb : K.In (hidT s₁.heap H) := fun b o e => base_of (KX b o e) (by
      cases q : H b with
      | none => rfl
      | some u =>
        have e' : b = a := hA b (by rw [q]; simp)
        subst e'
        rw [hK (by rw [q]; simp)] at e; cases e)
    have hM : Mod K mg (hidT s₁.heap H) := ⟨hKb, nsK hns, ⟨mb, nsK hb, hbb⟩, let ⟨mc, h1, h2⟩ := hlim; ⟨mc, nsK h1, h2⟩⟩
    have e0 : Env0 P w K mg (hidT s₁.heap H) callerA [] s₁ H := ⟨rfl, hM, fun b o e => of_hidT e, Nat.le_of_eq (hidT_size _ _), trivial, fun b hb => absurd (show b ∈ ([] : List Addr) from hb) (by simp), hok, .of_eq hg⟩
    refine codeAny_mono ((F _ hKb (nsK hns)).run callerA [] s₁ H ⟨[.ref a], []⟩ [.ref a] [.ref a] _ _ hr e0 (hbind s₁ (.ref a)) (.cons rfl .nil) (hsp H hO hS)) fun r s' h => ?_
    cases r with
    | error e => exact (hCX H e s' h).elim
    | ok fl =>
      cases fl with
      | next => exact False.elim h
      | brk => exact False.elim h
      | cont => exact False.elim h
      | ret u =>
        obtain ⟨v, H', os, bare, un, hok', r', q⟩ := h
        have q' : v = .bl true := q
        subst q'
        obtain rfl : u = Value.bool true := r'
        refine ⟨rfl, OldK.of_keep fun b o e => ?_, os, bare⟩
        cases q : H b with
        | none => exact un.keep b o e q (by intro z; exact absurd (show b ∈ ([] : List Addr) from z) (by simp)) (by simp)
        | some u =>
          rcases hO b with z | ⟨ob, xs, z⟩
          · rw [q] at z; cases z
          · have z2 := un.frzs b ob _ z
            obtain ⟨e1, _⟩ := hok b _ z
            obtain ⟨e2, _⟩ := hok' b _ z2
            rw [e] at e1; cases e1
            exact e2
  cases hk : K.lookup a with
  | some o =>
    -- the script is one of the module's own objects
    have e := KX a o hk
    rw [ha] at e
    cases e
    refine core (fun _ => none) (fun _ => .inl rfl) (.inr ⟨_, vs.toArray, _, hk, rfl, rfl, rfl, by rw [List.size_toArray, lenV]; exact hl, by simpa using rv⟩) (fun b u z => by have z' : (none : Option HO) = some u := z; cases z') (fun b z => absurd rfl z) fun z => absurd rfl z
  | none =>
    refine core (fun b => if b = a then some (.frz { cls := .type "list", data := .seq vs.toArray } (.lst (ns.map V.int))) else none) (fun b => ?_) (.inl (.inr ⟨{ cls := .type "list", data := .seq vs.toArray }, if_pos rfl⟩)) (fun b u z => ?_) (fun b z => ?_) fun _ => hk
    · by_cases hb : b = a
      · exact .inr ⟨_, _, if_pos hb⟩
      · exact .inl (if_neg hb)
    · by_cases hb : b = a
      · have z' := (if_pos hb).symm.trans z
        cases z'
        subst hb
        exact ⟨ha, by rw [List.length_map]; exact hl, vs, _, rv, ha⟩
      · have z' := (if_neg hb).symm.trans z
        cases z'
    · by_cases hb : b = a
      · exact hb
      · exact absurd (if_neg hb) z
end L2

namespace L2
open PySem PySem.Spec PyProof.Rows


/-- the goal that k_head leaves (case hc), from the law's promise. F gives the function object fd (K's own) once, then the promise over every base -/
theorem walk_of {l : PySem.W.OpenLaw} {n k : Nat} {q : Program} {loose : List Str} {XP : (Str → Option Value) → Heap → Prop} {YP : World → Heap → Prop} {d : DefRec} {K : Params → PySem.W.Frag} {CX : World → CXT} {sp : World → Sp} {x : Str}
    (hn : l.most = some n) (hn2 : n ≤ sizeLine) (hdf : d.params.defaults = []) (hr : Room k callerA)
    (hY : ∀ (w : World) (h : Heap), YP w h → (K w.params).In h)
    (F : ∀ (w : World) (mg : Str → Option Value) (fa : Addr) (h : Heap), (K w.params).In h → h.Ns mainGlobals mg → mg d.name = some (.ref fa) →
      ∃ fd : FuncData, (∀ (s : Shared) (u : Value), BindsTo s fd ⟨[u], []⟩ [(x, u)]) ∧
        ∀ base : Heap, (K w.params).In base → base.Ns mainGlobals mg → FnOk l.prog w (K w.params) mg base (CX w) k fa fd [x] (sp w))
    (hsp : ∀ (w : World) (H : Hp) (a : Addr) (ns : List Int), ns.length ≤ n → Only H → SqL (K w.params) H a (ns.map V.int) → sp w [.ref a] H (fun v _ => v = .bl true) fun _ _ _ => False)
    (hCX : ∀ (w : World) (H : Hp) (s : Shared) (e : Value) (s' : Shared), CX w [] H s (fun _ _ _ => False) e s' → False) :
    PySem.W.WalkO q loose XP YP l.row.toRowW d [] (fun f vs => PySem.call f vs) := by
  refine Att.attach_call hn hdf fun w s₀ s₁ mg mb fa o pm cd doc a vs ns G Y ho hd hcd hmg hobj hints hlen hg => ?_
  have KX := hY w _ Y
  obtain ⟨fd, hb, hF⟩ := F w mg fa _ KX G.T.g hmg
  exact law_call KX G.T.g G.T.b G.T.builtins G.T.nolimit hg hobj hints (Nat.le_trans hlen hn2) hr hF hb (fun H hO hS => hsp w H a ns hlen hO hS) fun H e s' => hCX w H s₁ e s'
end L2

/- THE LAST THEOREM (shape; LID, My.* are yours):
   My.Adr: a structure of the addresses that your layer names (classes, functions); My.Txt K t: a structure (Prop) of the equations over K;
   My.txt_mk : {K} {implicit addresses ..} (e1 : nsIn K mainGlobals "law" = some (some (.ref f))) (e2 : K.lookup f = some ⟨oc, od, .func (fnOf "law" "law" params body scope dV kV doc pm an cdv ct), sl⟩) (e3 : codeIn K cdv "law" = true) .. : ∃ t, My.Txt K t

set_option maxRecDepth 100000 in
set_option maxHeartbeats 0 in
theorem PySem.Challenge.cw_LID_holds : PySem.Challenge.rw_LID.Holds := by
  w_on; o_law; k_head; (case hw => w_witness2)
  k_fill
  refine L2.walk_of (l := PySem.Challenge.rw_LID) (n := 63) (k := 40) (x := "script") (CX := fun w => ..) (sp := fun _ => My.sp_law) rfl (by decide) rfl ⟨rfl, by decide, by decide⟩ (fun w h Y => PySem.W.kIn_of Y) ?F ?S ?C
  case F =>
    intro w mg fa h KX G hmg
    have T : ∃ t, My.Txt (L2.KOf KX) t := by
      dsimp only [L2.KOf]                          -- K must stand as «<heap const> w.params» for k_is
      refine' My.txt_mk ?e1 ?e2 ?e3 ..
      (case e1 => PySem.W.k_is)                    -- in the order: a name -> its address -> its object -> its parts
      (case e2 => PySem.W.k_is)
      ..
    obtain ⟨t, T⟩ := T
    have e0 := hmg.symm.trans (PySem.W.mg_of KX G T.law)
    cases e0                                       -- fa is the law's own address
    exact ⟨_, fun s u => .of_eq rfl, fun base kb nb => My.law_fn T kb nb⟩     -- if «.of_eq rfl» comes too early: refine' ⟨_, ?b, fun base kb nb => My.law_fn T kb nb⟩; exact fun s u => .of_eq rfl
  case S => exact fun w H a ns hl hO hS => ..
  case C => exact ..
(the tactic k_is has no namespace: write k_is) -/

/-! SHORT WORDS over the layer: a def of the text, its body, what a loop and a test want. -/
namespace L2
open PySem PySem.Spec PyProof.Rows

/-! ### the text by places -/
/-- the j-th statement of a class's body -/
def inClass (s : Stmt) (j : Nat) : Stmt := match s with
  | .ClassDef _ _ _ body _ _ _ _ _ _ _ => body.getD j (.Pass ⟨0, 0, 0, 0⟩)
  | _ => .Pass ⟨0, 0, 0, 0⟩
def defArgs (s : Stmt) : Arguments := match s with
  | .FunctionDef _ a _ _ _ _ _ _ _ _ => a
  | _ => { posonlyargs := [], args := [], vararg := none, kwonlyargs := [], kw_defaults := [], kwarg := none, defaults := [] }
def defBody (s : Stmt) : List Stmt := match s with
  | .FunctionDef _ _ b _ _ _ _ _ _ _ => b
  | _ => []
def defScope (s : Stmt) : Scope := match s with
  | .FunctionDef _ _ _ _ _ _ sc _ _ _ => sc
  | _ => { kind := .function, names := [], isGenerator := false, isCoroutine := false }

/-! ### no exception leaves a def -/
abbrev CX0 : CXT := fun _ _ _ _ _ _ => False
abbrev E0 : XK := fun _ _ _ => False
theorem pass0 {X : Cx} : Passes CX0 X E0 := fun _ _ _ _ _ _ _ h => h.elim

/-! ### a def (or method) of the text as it stands behind the top -/
structure Fun (K : PySem.W.Frag) (x qual : Str) (st : Stmt) (f : Addr) (fd : FuncData) : Prop where
  ex : ∃ (oc : Value) (od : Option Addr) (kV doc pm : Value) (an : Option Addr) (cdv ct : Value) (osl : Array (Option Value)),
    fd = PySem.W.fnOf x qual (defArgs st) (defBody st) (defScope st) .none kV doc pm an cdv ct ∧ K.lookup f = some ⟨oc, od, .func fd, osl⟩ ∧ PySem.W.codeIn K cdv qual = true
  kp : PySem.W.keepIn K (.ref f) = true
section
variable {P : Program} {w : World} {K : PySem.W.Frag} {mg : Str → Option Value} {base : Heap}
/-- THE RULE for a def: its body as a term of rules, and the reading of that term -/
theorem Fun.ok {x qual : Str} {st : Stmt} {f : Addr} {fd : FuncData} {N ps : List Str} {k : Nat} {sp : Sp} (F : Fun K x qual st f fd) (S : FnScope N ps (defScope st)) (len : ∀ vs H Q E, sp vs H Q E → vs.length = ps.length)
    (hbody : ∀ (cdv : Value) (A : Around) (outer : List Env) (s : Shared) (H : Hp) (vs : List V) (Q : VK) (E : XK), Room k (A.deeper (envOfC qual (defScope st) s.heap.objs.size f cdv)) → sp vs H Q E →
      ∃ t, PSs (cxOf CX0 P w K mg base N qual (defScope st) f cdv A outer s H E).nox (defBody st) t ∧ t { nx := fun _ H' => Q .non H', rt := Q } (start N vs) H) : FnOk P w K mg base CX0 (k + 1) f fd ps sp := by
  obtain ⟨oc, od, kV, doc, pm, an, cdv, ct, osl, rfl, lk, hcd⟩ := F.ex
  refine fn_of lk hcd S len fun A outer s H vs Q E hr hsp => ?_
  obtain ⟨t, h, q⟩ := hbody cdv A outer s H vs Q E hr hsp
  exact ⟨t, h.nox, q⟩
/-- how its arguments bind (no defaults): h is «fun _ _ _ _ _ _ us hl => match us, hl with | [_, _], _ => rfl», one _ a parameter -/
theorem Fun.binds {x qual : Str} {st : Stmt} {f : Addr} {fd : FuncData} {ps : List Str} (F : Fun K x qual st f fd)
    (h : ∀ (kV doc pm : Value) (an : Option Addr) (cdv ct : Value) (us : List Value), us.length = ps.length → bindArgs (PySem.W.fnOf x qual (defArgs st) (defBody st) (defScope st) .none kV doc pm an cdv ct) ⟨us, []⟩ = pure (ps.zip us)) : Binds K fd ps [] := by
  obtain ⟨oc, od, kV, doc, pm, an, cdv, ct, osl, rfl, lk, hcd⟩ := F.ex
  exact .all (h kV doc pm an cdv ct)
theorem fun_mk {x qual : Str} {st : Stmt} {f : Addr} {oc : Value} {od an : Option Addr} {osl : Array (Option Value)} {kV doc pm cdv ct : Value} (l : K.lookup f = some ⟨oc, od, .func (PySem.W.fnOf x qual (defArgs st) (defBody st) (defScope st) .none kV doc pm an cdv ct), osl⟩)
    (c : PySem.W.codeIn K cdv qual = true) (k : PySem.W.keepIn K (.ref f) = true) : Fun K x qual st f (PySem.W.fnOf x qual (defArgs st) (defBody st) (defScope st) .none kV doc pm an cdv ct) := ⟨⟨oc, od, kV, doc, pm, an, cdv, ct, osl, rfl, l, c⟩, k⟩
end

/-! ### expressions in short: the name that stands in the i-th slot -/
section
variable {X : Cx}
theorem pv (i : Nat) {x : Str} {pos : Pos} (hN : X.N[i]? = some x := by rfl) (hv : Vis X.env.scope x := by first | exact Or.inl rfl | exact Or.inr (Or.inl rfl) | exact Or.inr (Or.inr rfl)) (hd : (x == ("__debug__" : Str)) = false := by decide)
    (hcd : (x == ("__classdict__" : Str)) = false := by decide) : PE X (.Name x pos) (tVar i) := pe_var hN hv hd hcd
end

/-! ### tests -/
theorem iteF {A B : Prop} (h : B) : if false = true then A else B := by
  rw [if_neg Bool.false_ne_true]
  exact h
theorem ite2 {c A B : Prop} [Decidable c] (h1 : c → A) (h2 : ¬ c → B) : if c then A else B := by
  by_cases h : c
  · rw [if_pos h]
    exact h1 h
  · rw [if_neg h]
    exact h2 h

/-! ### heaps -/
/-- all that was tracked is as it was -/
def Same (H H' : Hp) : Prop := ∀ b o, H b = some o → H' b = some o
theorem Same.refl (H : Hp) : Same H H := fun _ _ h => h
theorem Same.trans {H H1 H2 : Hp} (a : Same H H1) (b : Same H1 H2) : Same H H2 := fun c o h => b c o (a c o h)
theorem Same.free {H H' : Hp} (e : Same H H') {l : Addr} (h : H' l = Option.none) : H l = Option.none := by
  cases q : H l with
  | none => rfl
  | some o =>
    rw [e l o q] at h
    cases h
theorem Same.seq {K : PySem.W.Frag} {H H' : Hp} {a : Addr} {xs : List V} (e : Same H H') (h : SqL K H a xs) : SqL K H' a xs := by
  rcases h with (h | ⟨o, h⟩) | h
  · exact .inl (.inl (e _ _ h))
  · exact .inl (.inr ⟨o, e _ _ h⟩)
  · exact .inr h

end L2

section
set_option Elab.async false
set_option linter.all false
set_option maxRecDepth 100000
set_option maxHeartbeats 5000000
namespace Ex
open PySem PySem.Spec PyProof.Rows PySem.W

/-- a built-in exception class B above own ones, as far as an own __init__ needs it; the __new__ may be that of a class above B -/
structure XB (B ini : String) (up : List Value) : Prop where
  mroIs : mroOf (.type B) = pure up
  hasB : up.contains (.type B) = true
  noAttr : up.contains (.type "AttributeError") = false
  noName : up.contains (.type "NameError") = false
  slot : Slot B "__init__" ini
  entry : entryFor table ini = some Builtin.«BaseException.__init__»
  split : splitId ini = some (B, "__init__")
  kind : builtinKind ini = some .slot
  row : Manifest.signature? ini = some ⟨.positional, "*", B, .self, [⟨"args", .varPos, false⟩]⟩
  star : (B != "*") = true
theorem XB.of {B nw ini : String} {up : List Value} (f : ExcBaseFacts B nw ini up) : XB B ini up := ⟨f.mroIs, f.hasB, f.noAttr, f.noName, f.init, f.initEntry, f.initSplit, f.initKind, f.initRow, f.noStar⟩
theorem key_slot : Slot "KeyError" "__init__" "KeyError.__init__" := by
  apply Slot.of (owner := "KeyError") (n := "__init__")
  case hl => rw [typeLookup_type, builtinLookup_eq_fast]; kernel_rfl
  all_goals first | decide +kernel | exact .inl (by decide +kernel) | exact .inr (by decide +kernel) | (rw [isSubtype_type]; kernel_rfl)
theorem xb_key : XB "KeyError" "KeyError.__init__" [.type "KeyError", .type "LookupError", .type "Exception", .type "BaseException", .type "object"] := by
  refine ⟨?_, ?_, ?_, ?_, key_slot, ?_, ?_, ?_, ?_, ?_⟩
  case refine_1 => rw [mroOf_type]; kernel_rfl
  case refine_5 =>
    apply entryFor_alias (id' := "BaseException.__init__")
    all_goals first | decide +kernel | (rw [fastTable_eq_tree]; kernel_rfl) | rfl
  all_goals first | decide +kernel | kernel_rfl

/-- what type.__call__ makes of a class of the text: the exception without anything, and the tuple of its arguments -/
def rawExc (h : Heap) (C : Addr) (as : List Value) : Heap :=
  (h.push { cls := .type "tuple", data := .seq as.toArray }).push { cls := .ref C, data := .fields #[.ref h.objs.size, .none, .none, .none, .bool false, .none] }
theorem rawExc_keeps {h : Heap} {C : Addr} {as : List Value} : ∀ b o, h.get? b = some o → (rawExc h C as).get? b = some o := fun b o e => Heap.get?_push_of_some _ (Heap.get?_push_of_some _ e)
theorem rawExc_at {h : Heap} {C : Addr} {as : List Value} : (rawExc h C as).get? (h.objs.size + 1) = some { cls := .ref C, data := .fields #[.ref h.objs.size, .none, .none, .none, .bool false, .none] } :=
  Heap.get?_push_at (by rw [Heap.size_push]) rfl
section
variable {prog : Program} {w : World} {A : Around} {E : Value → Shared → Prop} {h : Heap} {g : Array GenState} {d : Drawn} {t : Nat} {os : OsState} {nm qn : Str} {C N : Addr} {bs tl up un : List Value} {hd : Bool} {sn : List Str} {sub : List Value} {ab : Bool} {col : Option Bool}
  {dd : Option Addr} {j0 j1 j2 j3 j5 : Option Value} {B D nw ini iniD : String} {K : Frag} {fI : Addr} {as : List Value}

/-- BaseException.__new__ for a class of the text -/
theorem new_run {R : Result → Shared → Prop} (fn : ExcBaseFacts D nw iniD un) (hD : up.contains (.type D) = true) (F : XB B ini up) (T : OwnTail h up tl) (hC : h.get? C = some (excClassObj nm qn C N bs tl hd sn sub ab col dd j0 j1 j2 j3 j5 nw))
    (hl : as.length ≤ sizeLine) (q : R (.ok (.ret (.ref (h.objs.size + 1)))) ⟨rawExc h C as, g, d, t, os⟩) : codeAny (model prog w) A (.builtin nw ⟨.ref C :: as, []⟩) R ⟨h, g, d, t, os⟩ := by
  have isIn : ∀ {n : String} {b : Bool}, up.contains (.type n) = b → (Value.ref C :: tl).contains (.type n) = b := fun {n b} e => by rw [List.contains_cons, T.hasType e]; exact Bool.false_or _
  have c1 := isIn hD; have c2 := isIn F.noAttr; have c3 := isIn F.noName; have ends := fn.ends
  apply codeAny_builtinAt fn.entry
  delta Builtin.«BaseException.__new__»
  apply PySem.wpAt_bind
  change PySem.wpAt _ _ _ (stack >>= _) _ _ _
  apply PySem.wpAt_bind; apply PySem.wpAt_stack; intro p below; apply PySem.wpAt_of_wpAny
  wp_walk
  apply PySem.wpAt_of_wpAny
  rw [fn.owner]
  repeat (first
    | (with_reducible apply wpAny_madeHere_exc fn.canon hC)
    | (with_reducible apply wpAny_loadPart_at hC)
    | (with_reducible apply wpAny_isSubtype_exc hC; first | rw [c1] | rw [c2] | rw [c3])
    | wp_step)
  change R _ _
  rw [Heap.size_push]
  exact q

/-- C(..) of such a class; iv: its __init__, of the text or a built-in one -/
theorem call_own {Q : Value → Shared → Prop} {iv : Value} (fn : ExcBaseFacts D nw iniD un) (hD : up.contains (.type D) = true) (F : XB B ini up) (T : OwnTail h up tl) (X : K.In h) (hC : h.get? C = some (excClassObj nm qn C N bs tl hd sn sub ab col dd j0 j1 j2 j3 j5 nw))
    (at_ : findIn K (.ref C) "__init__" = some (some iv)) (bd : Looks (model prog w) (rawExc h C as) (bindSpecial iv (.ref (h.objs.size + 1))) (iv, [.ref (h.objs.size + 1)])) (hl : as.length ≤ sizeLine)
    (q : wpAny (model prog w) (A.under (.builtin "type.__call__" ⟨.ref C :: as, []⟩)) (call iv (.ref (h.objs.size + 1) :: as)) (fun r s' => r = .none ∧ Q (.ref (h.objs.size + 1)) s') E ⟨rawExc h C as, g, d, t, os⟩) :
    wpAny (model prog w) A (call (.ref C) as) Q E ⟨h, g, d, t, os⟩ := by
  have look := tc_lookup; have bnd := tc_bind (.ref C)
  have tyC : (⟨h, g, d, t, os⟩ : Shared).TypeIs (.ref C) "type" := ⟨_, hC, rfl⟩
  have X' : K.In (rawExc h C as) := X.keeps rawExc_keeps
  have hC' := rawExc_keeps (as := as) (C := C) _ _ hC
  have self : (Value.ref C :: tl).contains (.ref C) = true := by rw [List.contains_cons, beq_self_eq_true]; exact Bool.true_or _
  apply wpAny_call; apply codeAny_of_tree
  change wpAny _ _ (callAny (.ref C) _) _ _ _
  repeat (any_goals (first | assumption | (with_reducible apply wpAny_loadPart_at hC) | wp_step))
  constructor
  · rfl
  apply codeAny_call_builtin_at (Code.quiet_builtin _ (by decide +kernel)) entry_typeCall
  apply wpAny_check_type_call_sub hC
  repeat (first | (with_reducible apply wpAny_loadPart_at hC) | (with_reducible apply wpAny_madeBy_exc hC) | wp_step)
  apply codeAny_call_builtin_code (Code.quiet_builtin _ fn.quiet)
  apply wpAny_check_new_subU fn hD T hC
  apply new_run fn hD F T hC hl
  change wpAny _ _ _ _ _ _
  delta isInstance
  repeat (first | (with_reducible apply wpAny_loadPart_at rawExc_at) | (with_reducible apply wpAny_isSubtype_exc hC'; rw [self]) | wp_step)
  change wpAny _ _ (typeLookup (.ref C) _) _ _ _
  apply (looks_findIn X' at_).here (s := ⟨_, g, d, t, os⟩)
  apply wpAny_holding; apply wpAny_bind
  apply bd.here (s := ⟨_, g, d, t, os⟩)
  apply wpAny_bind
  apply wpAny_mono q
  · rintro r s' ⟨rfl, k⟩
    wp_walk
    exact k
  · exact fun _ _ z => z
end
end Ex
end

section
set_option Elab.async false
set_option linter.all false
set_option maxRecDepth 100000
set_option maxHeartbeats 5000000
namespace Ex
open PySem PySem.Spec PyProof.Rows PySem.W PySem.Calls Builtin Builtin.ObjectAttr

/-- what is read of an own exception class -/
structure XC (K : Frag) (C : Addr) : Prop where
  ga : findIn K (.ref C) "__getattribute__" = some (some (.builtin "BaseException.__getattribute__"))
  gt : findIn K (.ref C) "__getattr__" = some none
  sa : findIn K (.ref C) "__setattr__" = some (some (.builtin "object.__setattr__"))
  be : mroIn K C (.type "BaseException") = some true
  ob : mroIn K C (.type "object") = some true
  pass : ∃ cd, clsIn K C = some cd ∧ cd.hasDict = true ∧ ∀ self, refuseLoop self "__setattr__" cd.mro = pure ()
  ca : findIn K (.ref C) "__class__" = some (some (.builtin "object.__class__"))
  cg : specialIn K (.builtin "object.__class__") "__get__" = some (some (.builtin "getset_descriptor.__get__"))
  ct : takesIn K (.builtin "object.__class__") = some true
  kc : kitCls K (.ref C) (.ref C) = some true

section
variable {prog : Program} {w : World} {A : Around} {E : Value → Shared → Prop} {s : Shared} {K : Frag} {x C : Addr} {ox : Obj} {od : Option Obj} {n : Str} {ex fl : Bool} {tk : Tok}
/-- BaseException.__getattribute__ is object's -/
theorem xby {Q : Value → Shared → Prop} (X : K.In s.heap) (I : InstAt s.heap x ox C od) (c : XC K C)
    (k : wpAny (model prog w) A.in1 (Builtin.«object.__getattribute__» ⟨[.ref x, .str n tk], []⟩) (fun r s' => ∃ v, r = .done (.ret v) ∧ wpAny (model prog w) A (handedOut v) Q E s') (fun _ _ => False) s) :
    wpAny (model prog w) A (getAttrBy (.ref x) (.str n tk) fl ex) Q E s := by
  have noObj : (Value.builtin "BaseException.__getattribute__" == Value.builtin "object.__getattribute__") = false := by decide +kernel
  have SL := PySem.F.attr_ValueError.ga
  have hook : Looks (model prog w) s.heap (hookBefore (.ref C)) none := looks_hook X (mc := .ref C) (show findIn K (.ref C) "__getattr__" = some none from c.gt)
  apply wpAny_holding; apply wpAny_bind; apply I.type.here; apply wpAny_bind; apply (looks_findIn X c.ga).here
  dsimp only
  rw [noObj, Bool.and_false, if_neg Bool.false_ne_true]
  apply wpAny_bind; apply hook.here; apply wpAny_bind; apply wpAny_attempt; apply wpAny_holding
  unfold callGetattribute
  rw [show (ex && onTheHeap (Value.builtin "BaseException.__getattribute__")) = false from Bool.and_false ex, if_neg Bool.false_ne_true]
  unfold boundAndCalled
  rw [SL.bind]
  apply wpAny_bind; apply wpAny_pure
  change wpAny _ _ (call (.builtin "BaseException.__getattribute__") [.ref x, .str n tk]) _ _ _
  apply wpAny_call; apply codeAny_call_builtin SL.plain PySem.F.entry_bexc_ga
  apply @check_slot (model prog w) A.in1 _ s "BaseException.__getattribute__" "BaseException" "__getattribute__" (.ref x) [.str n tk] []
  · decide +kernel
  · decide +kernel
  · exact I.type.andThen (looks_mroIn X c.be)
  · exact PySem.F.args_bexc_ga _ _
  · exact wpAny_mono k (fun r s' ⟨v, e, z⟩ => by subst e; exact z) fun _ _ z => z.elim

theorem xget {v : Value} {Q : Value → Shared → Prop} (X : K.In s.heap) (I : InstAt s.heap x ox C od) (c : XC K C) (hf : findObj K C od n = some (.value v)) (hh : handedIn v = true) (q : Q v { s with toks := s.toks + 1 }) :
    wpAny (model prog w) A (getAttr (.ref x) n ex) Q E s := by
  apply wpAny_bind; apply wpAny_mkText
  apply xby (s := { s with toks := s.toks + 1 }) X I c
  delta Builtin.«object.__getattribute__»
  apply wpAny_bind; apply wpAny_pure; apply wpAny_bind; apply wpAny_pure
  apply wpAny_bind; apply I.type.here (s := { s with toks := s.toks + 1 })
  apply wpAny_bind; apply (looks_find X I hf).here (s := { s with toks := s.toks + 1 })
  exact wpAny_pure ⟨v, rfl, by rw [handedOut_of hh]; exact wpAny_pure q⟩
theorem xclass {Q : Option Value → Shared → Prop} (X : K.In s.heap) (I : InstAt s.heap x ox C od) (c : XC K C) (q : Q (some (.ref C)) { s with toks := s.toks + 1 }) : wpAny (model prog w) A (getAttr? (.ref x) "__class__") Q E s := by
  obtain ⟨cd, hc, _, _⟩ := c.pass
  have fnd : findObj K C od "__class__" = some (.bind (.builtin "getset_descriptor.__get__") (.builtin "object.__class__")) := by
    unfold findObj
    rw [hc, Option.bind_some, c.ca, Option.bind_some]; dsimp only
    rw [c.cg, Option.bind_some]; dsimp only
    rw [c.ct, Option.bind_some]
  apply wpAny_bind; apply wpAny_mkText; apply wpAny_bind; apply wpAny_attempt
  apply xby (s := { s with toks := s.toks + 1 }) X I c
  delta Builtin.«object.__getattribute__»
  apply wpAny_bind; apply wpAny_pure; apply wpAny_bind; apply wpAny_pure
  apply wpAny_bind; apply I.type.here (s := { s with toks := s.toks + 1 })
  apply wpAny_bind; apply (looks_find X I fnd).here (s := { s with toks := s.toks + 1 })
  change wpAny _ _ (holding [_] (call (.builtin "getset_descriptor.__get__") [.builtin "object.__class__", .ref x, .ref C]) >>= ret) _ _ _
  apply wpAny_bind; apply wpAny_holding; apply wpAny_call
  exact class_get (s := { s with toks := s.toks + 1 }) (ox := ox) (od := od) X I c.ob (wpAny_pure ⟨_, rfl, handed_on rfl (wpAny_pure q)⟩)
end
/-- isinstance -/
theorem kitx_exc {K : Frag} {x C : Addr} (c : XC K C) : KitX K (.ref x) (.ref C) (fun h => ∃ ox od, InstAt h x ox C od) where
  ty := fun _ _ _ ⟨_, _, I⟩ => I.type
  it := fun _ _ X _ => (kit_cls X c.kc).2.1
  ne := fun h tp _ _ _ _ X e => by
    obtain ⟨cd, hc, _⟩ := c.pass
    cases z : (Value.ref C == Value.ref tp) with
    | false => rfl
    | true =>
      cases beq_iff_eq.mp z
      unfold clsIn at hc
      split at hc
      · rename_i a
        cases (X _ _ a).symm.trans e
      · cases hc
  ca := fun X ⟨_, _, I⟩ k => xclass X I c k
end Ex
end

section
set_option Elab.async false
set_option linter.all false
set_option maxRecDepth 100000
set_option maxHeartbeats 5000000
namespace Ex
open PySem PySem.Spec PyProof.Rows PySem.W PySem.Calls Builtin Builtin.ObjectAttr
section
variable {prog : Program} {w : World} {A : Around} {E : Value → Shared → Prop} {s : Shared} {K : Frag} {x C : Addr} {ox : Obj} {od : Option Obj} {n : Str} {v : Value}
/-- e.n = v comes to the store in the exception's own dict -/
theorem xstore {Q : Unit → Shared → Prop} (X : K.In s.heap) (I : InstAt s.heap x ox C od) (c : XC K C) (none_ : findIn K (.ref C) n = some none)
    (k : wpAny (model prog w) A.in1 (storeInOwnDict (.ref x) (.ref C) (.str n s.toks) n v false) (fun r s' => ∃ u, r = .done (.ret u) ∧ Q () s') E { s with toks := s.toks + 1 }) : wpAny (model prog w) A (setAttr (.ref x) n v) Q E s := by
  have SO := PySem.F.store_object
  obtain ⟨cd, hc, _, pass⟩ := c.pass
  apply set_plain X I c.sa
  apply codeAny_call_builtin SO.slot.plain SO.entry
  apply @check_slot (model prog w) A.in1 _ { s with toks := s.toks + 1 } "object.__setattr__" "object" "__setattr__" (.ref x) [.str n s.toks, v] [] _ SO.kind SO.split
  · exact I.type.andThen (looks_mroIn X c.ob)
  · exact SO.args _ _ _
  rw [osa_eq, refuse_eq]
  apply wpAny_bind; apply wpAny_bind; apply I.type.here (s := { s with toks := s.toks + 1 })
  apply wpAny_bind; apply ((looks_clsIn X hc).andThen .now : Looks (model prog w) s.heap (mroOf (.ref C)) cd.mro).here (s := { s with toks := s.toks + 1 })
  rw [pass]
  apply wpAny_pure; apply wpAny_bind; apply I.type.here (s := { s with toks := s.toks + 1 })
  apply wpAny_bind; apply (looks_findIn X none_).here (s := { s with toks := s.toks + 1 })
  apply wpAny_bind; apply wpAny_pure
  exact wpAny_mono k (fun r s' ⟨u, e, z⟩ => by subst e; exact z) fun _ _ z => z
/-- a name into a namespace of few names -/
theorem put_name {R : Fin → Shared → Prop} {dx : Addr} {mA : Str → Option Value} {ks : List Str} {tk : Tok} (N : s.heap.Ns1 dx mA) (W : Within mA ks) (few : ks.length < sizeLine)
    (k : ∀ h' tk', Heap.SameBut dx s.heap h' → h'.Ns1 dx (fun y => if y = n then some v else mA y) → R (.done (.ret .none)) { s with heap := h', toks := tk' }) : wpAny (model prog w) A (storeInDict dx (.str n tk) n v) R E s := by
  unfold storeInDict newKeyGuard; apply wpAny_bind; apply wpAny_pure; apply wpAny_bind; apply wpAny_nsSet1 N
  intro h' N' sb
  obtain ⟨o, es, ep, ho, hd, le⟩ := N'.count (Within.cons n v W)
  apply wpAny_bind
  apply wpAny_lookBehind ho
  · rw [hd]; apply pastItsLine_dict; rw [List.length_cons] at le; omega
  · exact wpAny_pure (k h' _ sb N')
theorem is_inst (hx : s.heap.get? x = some ox) (cl : ox.cls = .ref C) {vs : Array Value} (hd : ox.data = .fields vs) (dict : match ox.dict, od with | some dx, some o => s.heap.get? dx = some o | none, none => True | _, _ => False) : InstAt s.heap x ox C od :=
  ⟨hx, cl, by unfold notCls; rw [hd], dict⟩
/-- the first attribute: a dict is laid -/
theorem xset0 {Q : Unit → Shared → Prop} {vs : Array Value} (X : K.In s.heap) (hx : s.heap.get? x = some ox) (cl : ox.cls = .ref C) (hd : ox.data = .fields vs) (nod : ox.dict = none) (c : XC K C) (none_ : findIn K (.ref C) n = some none)
    (k : ∀ h' tk', (∀ b o, b ≠ x → s.heap.get? b = some o → h'.get? b = some o) → h'.get? x = some { ox with dict := some s.heap.objs.size } → h'.Ns1 s.heap.objs.size (fun y => if y = n then some v else none) → Q () { s with heap := h', toks := tk' }) :
    wpAny (model prog w) A (setAttr (.ref x) n v) Q E s := by
  obtain ⟨cd, hc, own, _⟩ := c.pass
  apply xstore (od := none) X (is_inst hx cl hd (by rw [nod]; trivial)) c none_
  obtain ⟨p1, p2, p3, osl⟩ := ox
  dsimp only at cl hd nod
  subst cl hd nod
  obtain ⟨h, g, d, t, os⟩ := s
  dsimp only at hx X k
  have new : x ≠ h.objs.size := Nat.ne_of_lt (Heap.lt_size hx)
  have hx2 := Heap.get?_push_of_some emptyDict hx
  unfold storeInOwnDict
  apply wpAny_bind; apply wpAny_pure
  rw [if_neg (show ¬ ((Value.ref C == Value.type "module") = true) by intro z; cases beq_iff_eq.mp z)]
  change wpAny _ _ (instanceDict x true >>= _) _ _ _
  unfold instanceDict
  apply wpAny_bind; apply wpAny_bind; apply wpAny_loadPart_at hx; dsimp only
  apply wpAny_bind; apply (looks_clsIn X hc).here (s := ⟨h, g, d, t + 1, os⟩)
  rw [own, if_neg (by decide)]
  rw [if_neg (show ¬ ((!true || !typeHasDict (.ref C)) = true) from Bool.false_ne_true)]
  apply wpAny_bind; apply wpAny_alloc; apply wpAny_bind; apply wpAny_update hx2; apply wpAny_pure
  have gx : ((h.push emptyDict).update x fun o => { o with dict := some h.objs.size }).get? x = some ⟨.ref C, some h.objs.size, .fields vs, osl⟩ := Heap.get?_update_self _ hx2 rfl
  have gd : ((h.push emptyDict).update x fun o => { o with dict := some h.objs.size }).get? h.objs.size = some emptyDict := by
    rw [Heap.get?_update_other _ _ new]; exact Heap.get?_push_size h rfl
  apply put_name (ks := []) (Heap.Ns1.of_empty ⟨_, #[], _, gd, rfl, (by intro e he; exact absurd he (by simp)), fun _ => rfl⟩) Within.nil (by rw [sizeLine_eq]; decide)
  intro h' tk' sb N
  refine ⟨_, rfl, k h' tk' (fun b o ne e => ?_) ((sb.2 x new).trans gx) N⟩
  rw [sb.2 b (Nat.ne_of_lt (Heap.lt_size e)), Heap.get?_update_other _ _ (Ne.symm ne)]
  exact Heap.get?_push_of_some emptyDict e
/-- a further one -/
theorem xset1 {Q : Unit → Shared → Prop} {vs : Array Value} {dx : Addr} {mA : Str → Option Value} {ks : List Str} (X : K.In s.heap) (hx : s.heap.get? x = some ox) (cl : ox.cls = .ref C) (hd : ox.data = .fields vs) (hdx : ox.dict = some dx) (N : s.heap.Ns1 dx mA) (W : Within mA ks) (few : ks.length < sizeLine)
    (c : XC K C) (none_ : findIn K (.ref C) n = some none) (k : ∀ h' tk', Heap.SameBut dx s.heap h' → h'.Ns1 dx (fun y => if y = n then some v else mA y) → Q () { s with heap := h', toks := tk' }) : wpAny (model prog w) A (setAttr (.ref x) n v) Q E s := by
  obtain ⟨cd, hc, own, _⟩ := c.pass
  obtain ⟨oD, hD, _⟩ := L2.lookIn_ns N
  apply xstore (od := some oD) X (is_inst hx cl hd (by rw [hdx]; exact hD)) c none_
  obtain ⟨p1, p2, p3, osl⟩ := ox
  dsimp only at cl hd hdx
  subst cl hd hdx
  obtain ⟨h, g, d, t, os⟩ := s
  dsimp only at hx X k N
  unfold storeInOwnDict
  apply wpAny_bind; apply wpAny_pure
  rw [if_neg (show ¬ ((Value.ref C == Value.type "module") = true) by intro z; cases beq_iff_eq.mp z)]
  change wpAny _ _ (instanceDict x true >>= _) _ _ _
  unfold instanceDict
  apply wpAny_bind; apply wpAny_bind; apply wpAny_loadPart_at hx; dsimp only
  apply wpAny_bind; apply (looks_clsIn X hc).here (s := ⟨h, g, d, t + 1, os⟩)
  rw [own, if_neg (by decide)]
  apply wpAny_pure
  apply put_name (s := ⟨h, g, d, t + 1, os⟩) N W few
  exact fun h' tk' sb N' => ⟨_, rfl, k h' tk' sb N'⟩
/-- Base.__init__(e, ..) lays the tuple of arguments anew -/
theorem xinit {B ini : String} {up : List Value} {Q : Value → Shared → Prop} {vs : Array Value} {as : List Value} {t0 : Addr} (F : XB B ini up) (X : K.In s.heap) (I : InstAt s.heap x ox C od) (c : XC K C) (sub : mroIn K C (.type B) = some true) (hd : ox.data = .fields vs) (v0 : vs[0]? = some (.ref t0)) (few : as.length ≤ sizeLine)
    (k : ∀ h', (∀ b o, b ≠ x → s.heap.get? b = some o → h'.get? b = some o) → h'.get? x = some { ox with data := .fields (vs.setIfInBounds 0 (.ref s.heap.objs.size)) } → Q .none { s with heap := h' }) : wpAny (model prog w) A (call (.builtin ini) (.ref x :: as)) Q E s := by
  have isB : Looks (model prog w) s.heap (isInstance (.ref x) (.type B)) true := I.type.andThen (looks_mroIn X sub)
  obtain ⟨cd, hc, _, _⟩ := c.pass
  have lc := looks_clsIn (M := model prog w) X hc
  have hx := I.at_; have cl := I.cls
  obtain ⟨h, g, d, t, os⟩ := s
  obtain ⟨p1, p2, p3, p4⟩ := ox
  dsimp only at cl hd hx isB k
  subst cl hd
  have pos : 0 < vs.size := (Array.getElem?_eq_some_iff.mp v0).1
  have hx2 := Heap.get?_push_of_some { cls := .type "tuple", data := .seq as.toArray } hx
  have anyArgs : ∀ (a b : String) (m : Nat), Bind.check ⟨.positional, "*", B, .self, [⟨"args", .varPos, false⟩]⟩ a b m (List.map (·.fst) ({ pos := Value.ref x :: as } : Args).kw) = pure () := fun _ _ _ => check_star_args _ _ _ _ _ _
  have last : Q .none ⟨(h.push { cls := .type "tuple", data := .seq as.toArray }).update x (Obj.mapFields (·.setIfInBounds 0 (.ref h.objs.size))), g, d, t, os⟩ := k _ (fun b o ne e => by rw [Heap.get?_update_other _ _ (Ne.symm ne)]; exact Heap.get?_push_of_some _ e) (Heap.get?_update_self _ hx2 rfl)
  have notStar := F.star
  apply wpAny_call; apply codeAny_call_builtin F.slot.plain F.entry
  simp only [F.kind, F.split, F.row, checkBuiltinCall]
  apply wpAny_bind; apply isB.here (s := ⟨h, g, d, t, os⟩)
  rw [show (!true) = false from rfl, if_neg Bool.false_ne_true]
  repeat (first | apply wpAny_onRaise | (rw [anyArgs]; apply wpAny_pure) | (apply wpAny_bind; apply lc.here (s := ⟨h, g, d, t, os⟩)) | wp_step)
  rw [v0]
  apply wpAny_pure; apply wpAny_bind
  apply wpAny_setField hx2 rfl pos
  dsimp only
  repeat (first | exact last | wp_step)
end
end Ex
end

section
set_option Elab.async false
set_option linter.all false
set_option maxRecDepth 100000
set_option maxHeartbeats 5000000
namespace Ex
open PySem PySem.Spec PyProof.Rows PySem.W PySem.Calls

/-! ## tracebacks: what an exception leaves behind in each frame that it passes -/
/-- e has no entry yet, or the entry at T, whose mark of flight is m -/
def Fly (h : Heap) (e : Addr) (m : Value) : Option Addr → Prop
  | none => ∃ oe vs, h.get? e = some oe ∧ oe.data = .fields vs ∧ vs[1]? = some .none
  | some T => ∃ oe vs oT ts, h.get? e = some oe ∧ oe.data = .fields vs ∧ vs[1]? = some (.ref T) ∧ T ≠ e ∧ h.get? T = some oT ∧ oT.data = .fields ts ∧ ts[3]? = some m
/-- what such a step leaves of the heap; fr: the frames, tb: the entry that was there -/
structure Step (fr : List Addr) (e : Addr) (tb : Option Addr) (h h' : Heap) : Prop where
  keep : ∀ b o, h.get? b = some o → b ≠ e → tb ≠ some b → b ∉ fr → h'.get? b = some o
  slot : ∀ b o, h.get? b = some o → b ≠ e → tb ≠ some b → ∃ sl, h'.get? b = some { o with slots := sl }
  exc : ∀ oe vs, h.get? e = some oe → oe.data = .fields vs → ∃ vs' : Array Value, h'.get? e = some { oe with data := .fields vs' } ∧ vs'[0]? = vs[0]? ∧ vs'.size = vs.size
  there : ∀ b o, h.get? b = some o → ∃ o', h'.get? b = some o'
theorem mapF {o : Obj} {vs : Array Value} (hd : o.data = .fields vs) (f : Array Value → Array Value) : o.mapFields f = { o with data := .fields (f vs) } := by
  cases o with
  | mk c d dt sl => cases hd; rfl
/-- a record after one of its fields was set -/
theorem set_rec {h : Heap} {a : Addr} {o : Obj} {vs : Array Value} (e : h.get? a = some o) (hd : o.data = .fields vs) (i : Nat) (v : Value) :
    (h.update a (Obj.mapFields (·.setIfInBounds i v))).get? a = some { o with data := .fields (vs.setIfInBounds i v) } := by
  rw [← mapF hd (·.setIfInBounds i v)]
  exact Heap.get?_update_self _ e (Obj.isFreed_of_fields (Obj.data_mapFields hd _))

section
variable {M : Model} {A : Around} {E : Value → Shared → Prop} {s : Shared} {env : Env} {outer : List Env} {base : Heap} {L e : Addr}
/-- a new entry is laid and hung at e -/
theorem lay_entry {oe : Obj} {vs : Array Value} {hd0 : Value} {more : Bool} {Q : Unit → Shared → Prop} (fr : A.frames = some (env :: outer)) (ff : s.heap.FunFrames base (env :: outer)) (at_ : env.frame = some L) (he : s.heap.get? e = some oe) (hd : oe.data = .fields vs) (two : 1 < vs.size)
    (k : ∀ h' T, Step (L2.frs (env :: outer)) e none s.heap h' → s.heap.objs.size ≤ T → Fly h' e (rawInt L) (some T) → Q () { s with heap := h' }) :
    wpAny M A (do let fo ← frameOf env; let pl ← entryPlaceOf L more; let en ← EntryCells.newEntry hd0 fo .none (rawInt L) .none pl; setField (.ref e) 1 en) Q E s := by
  have eNo : e ∉ L2.frs (env :: outer) := fun m => let ⟨_, o, ho, no⟩ := ff.mem m; no vs (by rw [he] at ho; cases ho; exact hd)
  apply wpAny_bind; apply wpAny_frameOf_fun fr ff at_
  rintro h1 ⟨sz, same, sl1⟩
  apply wpAny_bind; apply wpAny_entryPlaceOf; intro pl isPl
  delta EntryCells.newEntry newFields
  apply wpAny_bind; apply wpAny_newObj_type _ (isPl.sizeOk5 _ _ _ _ _)
  generalize eN : ({ cls := .type "traceback", dict := none, data := .fields ([hd0, .ref L, .none, rawInt L, .none] ++ (if pl.isEmpty then List.replicate 6 Value.none else pl)).toArray } : Obj) = en
  have e1 : h1.get? e = some oe := (same e eNo).trans he
  have ne : h1.objs.size ≠ e := fun z => absurd (Heap.lt_size e1) (by rw [z]; exact Nat.lt_irrefl _)
  have e2 := set_rec (Heap.get?_push_of_some en e1) hd 1 (.ref h1.objs.size)
  have oth : ∀ b o, b ≠ e → h1.get? b = some o → ((h1.push en).update e (Obj.mapFields (·.setIfInBounds 1 (.ref h1.objs.size)))).get? b = some o := fun b o nb z => by
    rw [Heap.get?_update_other _ _ (Ne.symm nb)]; exact Heap.get?_push_of_some en z
  have tbAt : ((h1.push en).update e (Obj.mapFields (·.setIfInBounds 1 (.ref h1.objs.size)))).get? h1.objs.size = some en := by
    rw [Heap.get?_update_other _ _ (Ne.symm ne)]; exact Heap.get?_push_size h1 (by rw [← eN]; rfl)
  apply wpAny_setField (Heap.get?_push_of_some en e1) hd two
  apply k _ h1.objs.size
  · constructor
    · exact fun b o z nb _ nf => oth b o nb ((same b nf).trans z)
    · intro b o z nb _
      obtain ⟨sl, z'⟩ := sl1 b o z
      exact ⟨sl, oth b _ nb z'⟩
    · intro oe' vs' z zd
      cases he.symm.trans z
      cases hd.symm.trans zd
      exact ⟨_, e2, Array.getElem?_setIfInBounds_ne (by decide), Array.size_setIfInBounds⟩
    · intro b o z
      by_cases nb : b = e
      · rw [nb]; exact ⟨_, e2⟩
      · obtain ⟨sl, z'⟩ := sl1 b o z
        exact ⟨_, oth b _ nb z'⟩
  · rw [sz]; exact Nat.le_refl _
  · refine ⟨_, _, _, _, e2, rfl, by simp [two], ne, tbAt, by rw [← eN], ?_⟩
    rcases isPl with z | ⟨_, _, _, _, _, _, _, z⟩ <;> subst z <;> rfl

/-- noteFrame: the exception passes the frame of env -/
theorem note_fly {tb : Option Addr} {Q : Unit → Shared → Prop} (fr : A.frames = some (env :: outer)) (ff : s.heap.FunFrames base (env :: outer)) (at_ : env.frame = some L) (F : Fly s.heap e .none tb) (two : ∀ oe vs, s.heap.get? e = some oe → oe.data = .fields vs → 1 < vs.size)
    (k : ∀ h' T, Step (L2.frs (env :: outer)) e tb s.heap h' → s.heap.objs.size ≤ T → Fly h' e (rawInt L) (some T) → Q () { s with heap := h' }) : wpAny M A (noteFrame (.ref e) env) Q E s := by
  unfold noteFrame
  rw [at_]
  dsimp only
  cases tb with
  | none =>
    obtain ⟨oe, vs, he, hd, v1⟩ := F
    apply wpAny_bind; apply wpAny_field he hd v1
    rw [if_neg (show ¬ ((Value.none != Value.none) = true) by decide)]
    exact lay_entry fr ff at_ he hd (two _ _ he hd) k
  | some T =>
    obtain ⟨oe, vs, oT, ts, he, hd, v1, nT, hT, hdT, t3⟩ := F
    have oth : ∀ b, b ≠ T → (s.heap.update T (Obj.mapFields (·.setIfInBounds 3 .none))).get? b = s.heap.get? b := fun b z => Heap.get?_update_other _ _ (Ne.symm z)
    have noT : ∀ b o, s.heap.get? b = some o → (∀ vs, o.data ≠ .fields vs) → b ≠ T := fun b o z no q => by subst q; cases hT.symm.trans z; exact no ts hdT
    apply wpAny_bind; apply wpAny_field he hd v1
    rw [if_pos (show (Value.ref T != Value.none) = true by rfl)]
    apply wpAny_bind; apply wpAny_field hT hdT t3
    rw [if_neg (show ¬ ((Value.none == rawInt L) = true) by intro z; cases beq_iff_eq.mp z)]
    apply wpAny_bind; apply wpAny_setField hT hdT (Array.getElem?_eq_some_iff.mp t3).1
    apply lay_entry (s := { s with heap := s.heap.update T (Obj.mapFields (·.setIfInBounds 3 .none)) }) fr (ff.of_keeps fun b o z no => ⟨o, (oth b (noT b o z no)).trans z, rfl⟩) at_ ((oth e (Ne.symm nT)).trans he) hd (two _ _ he hd)
    intro h' T' S le F'
    apply k h' T' _ (by rw [Heap.size_after_update] at le; exact le) F'
    have via : ∀ b, some T ≠ some b → b ≠ T := fun b z q => z (by rw [q])
    constructor
    · exact fun b o z nb nt nf => S.keep b o ((oth b (via b nt)).trans z) nb (by intro q; cases q) nf
    · exact fun b o z nb nt => S.slot b o ((oth b (via b nt)).trans z) nb (by intro q; cases q)
    · exact fun oe' vs' z zd => S.exc oe' vs' ((oth e (Ne.symm nT)).trans z) zd
    · intro b o z
      by_cases q : b = T
      · rw [q]; exact S.there T _ (set_rec hT hdT 3 .none)
      · exact S.there b o ((oth b q).trans z)
/-- setFlight: it lands -/
theorem land_fly {T : Addr} {m : Value} {Q : Unit → Shared → Prop} (F : Fly s.heap e m (some T))
    (k : ∀ h', (∀ b, b ≠ T → h'.get? b = s.heap.get? b) → Fly h' e .none (some T) → Q () { s with heap := h' }) : wpAny M A (setFlight (.ref e) none) Q E s := by
  obtain ⟨oe, vs, oT, ts, he, hd, v1, nT, hT, hdT, t3⟩ := F
  have l3 : 3 < ts.size := (Array.getElem?_eq_some_iff.mp t3).1
  have oth : ∀ b, b ≠ T → (s.heap.update T (Obj.mapFields (·.setIfInBounds 3 .none))).get? b = s.heap.get? b := fun b z => Heap.get?_update_other _ _ (Ne.symm z)
  unfold setFlight
  apply wpAny_bind; apply wpAny_field he hd v1
  rw [if_pos (show (Value.ref T != Value.none) = true by rfl)]
  apply wpAny_setField hT hdT l3
  exact k _ oth ⟨oe, vs, _, _, (oth e (Ne.symm nT)).trans he, hd, v1, nT, set_rec hT hdT 3 .none, rfl, by simp [l3]⟩
end
end Ex
end

section
set_option Elab.async false
set_option linter.all false
set_option maxRecDepth 100000
set_option maxHeartbeats 5000000
namespace L2
open PySem PySem.Spec PyProof.Rows Ex

/-! ## exceptions on the abstract heap -/
def ExO (C e : Addr) (dd : Option Addr) (fr : Bool) : HO := .ext fun h => ∃ oe vs t0, h.get? e = some oe ∧ oe.cls = .ref C ∧ oe.dict = dd ∧ oe.data = .fields vs ∧ vs[0]? = some (.ref t0) ∧ 1 < vs.size ∧ (fr = true → vs[1]? = some .none)
def ExD (d : Addr) (fs : List (Str × V)) : HO := .ext fun h => ∃ mA, h.Ns1 d mA ∧ (∀ f, RelO (fs.lookup f) (mA f)) ∧ PySem.Within mA (fs.map (·.1))

section
variable {P : Program} {w : World} {H : Hp} {h : Heap} {e C d : Addr} {dd : Option Addr} {fr : Bool} {fs : List (Str × V)}
theorem exo_mk {oe : Obj} {vs : Array Value} {t0 : Addr} (he : h.get? e = some oe) (hc : oe.cls = .ref C) (hdd : oe.dict = dd) (hd : oe.data = .fields vs) (h0 : vs[0]? = some (.ref t0)) (hs : 1 < vs.size) (hf : fr = true → vs[1]? = some .none) :
    ObjOk P w H h e (ExO C e dd fr) :=
  ⟨⟨oe, vs, t0, he, hc, hdd, hd, h0, hs, hf⟩, ⟨oe, he⟩, fun _ _ ⟨oe, vs, t0, he, r⟩ k => ⟨oe, vs, t0, k _ he, r⟩⟩
theorem exd_mk {mA : Str → Option Value} (hn : h.Ns1 d mA) (hr : ∀ f, RelO (fs.lookup f) (mA f)) (hw : PySem.Within mA (fs.map (·.1))) : ObjOk P w H h d (ExD d fs) :=
  ⟨⟨mA, hn, hr, hw⟩, let ⟨o, _, _, q, _⟩ := hn; ⟨o, q⟩, fun _ _ ⟨mA, ⟨o, es, ep, q, r⟩, r2⟩ k => ⟨mA, ⟨o, es, ep, k _ q, r⟩, r2⟩⟩
theorem exo_get (ok : HOk P w H h) (q : H e = some (ExO C e dd fr)) : ∃ oe vs t0, h.get? e = some oe ∧ oe.cls = .ref C ∧ oe.dict = dd ∧ oe.data = .fields vs ∧ vs[0]? = some (.ref t0) ∧ 1 < vs.size ∧ (fr = true → vs[1]? = some .none) := (ok _ _ q).1
theorem exd_get (ok : HOk P w H h) (q : H d = some (ExD d fs)) : ∃ mA, h.Ns1 d mA ∧ (∀ f, RelO (fs.lookup f) (mA f)) ∧ PySem.Within mA (fs.map (·.1)) := (ok _ _ q).1
end

/-- an exception that flies through the code of X -/
structure Thr (X : Cx) (pins : List (Addr × Obj)) (H : Hp) (s : Shared) (e C : Addr) : Prop where
  ex : ∃ dd, H e = some (ExO C e dd false)
  lo : X.s₀.heap.objs.size ≤ e
  tr : ∃ tb, Fly s.heap e .none tb ∧ ∀ T, tb = some T → H T = none ∧ X.s₀.heap.objs.size ≤ T ∧ ∀ p ∈ X.pn ++ pins, p.1 ≠ T
abbrev XKS := St → XK
/-- what is wanted of exceptions there -/
def XOk (X : Cx) (EE : XKS) : Prop := ∀ (pins : List (Addr × Obj)) (σ : St) (H : Hp) (s : Shared) (e C : Addr), Inv X pins σ H s → Thr X pins H s e C → EE σ (.ref C) (some e) H → X.xe (.ref e) s


section
variable {P : Program} {w : World} {K : PySem.W.Frag} {mg : Str → Option Value} {base : Heap} {N : List Str} {qual : Str} {scope : Scope} {f : Addr} {cd : Value} {A : Around} {outer : List Env} {s : Shared} {H : Hp} {E : XK}
end
end L2
end

section
set_option Elab.async false
set_option linter.all false
set_option maxRecDepth 100000
set_option maxHeartbeats 5000000
namespace Ex
open PySem PySem.Spec PyProof.Rows PySem.W PySem.Calls Builtin Builtin.ObjectAttr
/-- an exception that can be raised: its object, without a traceback, its class -/
def CanRaise (K : Frag) (h : Heap) (e : Addr) : Prop := ∃ oe vs C oC, h.get? e = some oe ∧ oe.cls = .ref C ∧ mroIn K C (.type "BaseException") = some true ∧ K.lookup C = some oC ∧ oC.cls = .type "type" ∧ oe.data = .fields vs ∧ vs[1]? = some .none
theorem raise_x {M : Model} {A : Around} {E : Value → Shared → Prop} {s : Shared} {env : Env} {K : Frag} {x : Sem Value} {Q : Flow → Shared → Prop} (calm : A.handled = none)
    (k : wpAny M A x (fun v s' => ∃ e, v = .ref e ∧ K.In s'.heap ∧ CanRaise K s'.heap e ∧ E v s') E s) : wpAny M A (raiseStmt env (some x) none) Q E s := by
  delta raiseStmt
  apply wpAny_bind; apply wpAny_mono k _ fun _ _ z => z
  rintro v ⟨h, g, d, t, os⟩ ⟨e, rfl, X, ⟨⟨c1, c2, c3, c4⟩, vs, C, ⟨d1, d2, d3, d4⟩, he, hc, sub, hC, ht, hd, v1⟩, last⟩
  dsimp only at X he hc hd ht
  subst hc hd ht
  have LS := looks_mroIn (M := M) X sub
  have hC' := X _ _ hC
  repeat (first | (with_reducible apply wpAny_loadPart_at hC') | (with_reducible apply wpAny_loadPart_at he) | (with_reducible apply LS.here (s := ⟨h, g, d, t, os⟩)) | rw [v1] | wp_step)
  exact wpAny_raiseNew_none calm last
end Ex
end

section
set_option Elab.async false
set_option linter.all false
set_option maxRecDepth 100000
set_option maxHeartbeats 5000000
namespace L2
open PySem PySem.Spec PyProof.Rows Ex

/-! ## attributes of exceptions -/
/-- e.f of an exception -/
def tXFld (K : PySem.W.Frag) (ta : TE) (f : Str) : TE := fun σ H Q => ta σ H fun x H1 => ∃ a C d fr fs v, x = .ref a ∧ H1 a = some (ExO C a (some d) fr) ∧ H1 d = some (ExD d fs) ∧ XC K C ∧ NoAttr K C f ∧ fs.lookup f = some v ∧ Q v H1
/-- e.f = value, of an exception -/
def sXFld (K : PySem.W.Frag) (ta tv : TE) (f : Str) : TS := fun D σ H => tv σ H fun y H1 => ta σ H1 fun x H2 => ∃ a C fr, x = .ref a ∧ XC K C ∧ NoAttr K C f ∧
  ((H2 a = some (ExO C a none fr) ∧ ∀ d, H2 d = none → d ≠ a → D.nx σ (upd (upd H2 d (ExD d [(f, y)])) a (ExO C a (some d) fr))) ∨
   (∃ d fs, H2 a = some (ExO C a (some d) fr) ∧ H2 d = some (ExD d fs) ∧ fs.length < 1000 ∧ D.nx σ (upd H2 d (ExD d (putF f y fs)))))

section
variable {X : Cx} {o e value : Expr} {f : Str} {pos pos' tpos : Pos} {ta tv : TE}
theorem exc_inst {K : PySem.W.Frag} {P : Program} {w : World} {H : Hp} {h : Heap} {a C : Addr} {dd : Option Addr} {fr : Bool} (ok : HOk P w H h) (q : H a = some (ExO C a dd fr)) (hdd : ∀ d, dd = some d → ∃ o, h.get? d = some o) :
    ∃ ox od, PySem.W.InstAt h a ox C od ∧ ox.dict = dd ∧ (∀ d, dd = some d → ∃ o, od = some o ∧ h.get? d = some o) := by
  obtain ⟨oe, vs, t0, he, hc, hd, hda, _⟩ := exo_get ok q
  have hn : PySem.W.notCls oe = true := by unfold PySem.W.notCls; rw [hda]
  cases dd with
  | none => exact ⟨oe, none, ⟨he, hc, hn, by rw [hd]; trivial⟩, hd, fun d z => nomatch z⟩
  | some d =>
    obtain ⟨o, ho⟩ := hdd d rfl
    exact ⟨oe, some o, ⟨he, hc, hn, by rw [hd]; exact ho⟩, hd, fun d' z => by cases z; exact ⟨o, rfl, ho⟩⟩
theorem pe_xfld (he : PE X e ta) (hb : attributeBase e f X.env (eval e X.env) = eval e X.env) : PE X (.Attribute e f pos) (tXFld X.K ta f) := by
  intro pins s σ H Q I h
  refine attr_of hb (thn (he pins s σ H _ I h) fun u s1 ⟨x, H1, I1, rx, a, C, d, fr, fs, v, ex, ea, ed, c, n, l, q⟩ => ?_)
  subst ex
  obtain rfl : u = Value.ref a := rx
  obtain ⟨mA, hn, hr, _⟩ := exd_get I1.hok ed
  obtain ⟨od, ho, hlk⟩ := lookIn_ns hn
  obtain ⟨ox, od', Ins, _, hod⟩ := exc_inst (K := X.K) I1.hok ea fun d' z => by cases z; exact ⟨od, ho⟩
  obtain ⟨o2, e2, ho2⟩ := hod d rfl
  rw [ho] at ho2
  cases ho2
  subst e2
  obtain ⟨u, hu, ru⟩ := RelO.some_of (v := v) (o := mA f) (by rw [← l]; exact hr f)
  obtain ⟨cd, hcd, hhd, _⟩ := c.pass
  have hf : PySem.W.findObj X.K C (some od) f = some (.value u) := PySem.W.findObj_own (by unfold PySem.W.hasDictIn; rw [hcd]; exact hhd) n rfl (by rw [hlk, hu])
  exact xget I1.kIn Ins c hf (handed_of ru) ⟨v, H1, I1.tok _, ru, q⟩
theorem ps_xfld (ha : PE X o ta) (hv : PE X value tv) (hs : swapsWith value (some (.Attribute o f pos')) pos.line X.env = pure false) : PS X (.Assign [.Attribute o f pos'] value pos) (sXFld X.K ta tv f) := by
  intro pins s σ H D I h
  refine plainObj_wpAny_Assign_Attribute (thn (hv pins s σ H _ I h) fun u s1 ⟨y, H1, I1, ry, q⟩ => thn (ha pins s1 σ H1 _ I1 q) fun ov s2 ⟨x, H2, I2, rx, a, C, fr, ex, c, n, q2⟩ => ?_) hs
  subst ex
  obtain rfl : ov = Value.ref a := rx
  rcases q2 with ⟨ea, k⟩ | ⟨d, fs, ea, ed, hl, k⟩
  · obtain ⟨oe, vs, t0, he, hc, hd, hda, h0, hsz, hfr⟩ := exo_get I2.hok ea
    have na : s2.heap.objs.size ≠ a := Nat.ne_of_gt (Heap.lt_size he)
    refine xset0 I2.kIn he hc hda hd c n fun h' tk' kp hx hn => ?_
    refine ⟨σ, _, ?_, k s2.heap.objs.size (I2.hok.fresh (Nat.le_refl _)) na⟩
    -- the dict is laid, then the exception written
    have fresh : H2 s2.heap.objs.size = none := I2.hok.fresh (Nat.le_refl _)
    have hdn : ∃ o, h'.get? s2.heap.objs.size = some o := let ⟨o, _, _, z, _⟩ := hn; ⟨o, z⟩
    have od : ∀ (G : Hp), ObjOk X.prog X.w G h' s2.heap.objs.size (ExD s2.heap.objs.size [(f, y)]) := fun G => exd_mk hn (fun g => by
      show RelO (List.lookup g [(f, y)]) (if g = f then some u else none)
      rw [List.lookup_cons]
      by_cases z : g = f
      · subst z; rw [if_pos rfl]; simp only [beq_self_eq_true]; exact ry
      · have z' : (g == f) = false := by simpa using z
        rw [if_neg z, z']; exact True.intro) (fun g hg => by
      have z : g = f := by
        by_cases z : g = f
        · exact z
        · exact absurd (if_neg z) hg
      rw [z]; simp)
    have oe' : ∀ (G : Hp), ObjOk X.prog X.w G h' a (ExO C a (some s2.heap.objs.size) fr) := fun G => exo_mk hx hc rfl hda h0 hsz hfr
    have un : Un X.fs [] H2 (upd (upd H2 s2.heap.objs.size (ExD s2.heap.objs.size [(f, y)])) a (ExO C a (some s2.heap.objs.size) fr)) s2.heap h' := by
      have ne : ∀ b, H2 b = none → b ≠ a := fun b z e => by rw [e, ea] at z; cases z
      refine ⟨fun b ob z z2 _ _ => kp b ob (ne b z2) z, fun b ob z z2 _ _ => ⟨ob.slots, kp b ob (ne b z2) z⟩, fun b ob z z2 _ => ?_, fun b ob z _ => ?_, fun b xs z => ?_, fun b ob xs z => ?_, fun b ps z => ⟨#[], ?_⟩⟩
      · rw [upd_ne (ne b z2), upd_ne (Nat.ne_of_lt (Heap.lt_size z))]; exact z2
      · by_cases hb : b = a
        · subst hb; exact ⟨_, hx⟩
        · exact ⟨ob, kp b ob hb z⟩
      · rw [upd_ne (ne_of z ea (by intro y; cases y)), upd_ne (ne_of_none z fresh)]; exact z
      · rw [upd_ne (ne_of z ea (by intro y; cases y)), upd_ne (ne_of_none z fresh)]; exact z
      · rw [upd_ne (ne_of z ea (by intro y; cases y)), upd_ne (ne_of_none z fresh), z]; simp
    refine I2.un un fun b ob z => ?_
    by_cases hb : b = a
    · subst hb; rw [upd_same] at z; cases z; exact oe' _
    · rw [upd_ne hb] at z
      by_cases hb2 : b = s2.heap.objs.size
      · subst hb2; rw [upd_same] at z; cases z; exact od _
      · rw [upd_ne hb2] at z
        refine (I2.hok b ob z).stay (fun c v hcv r => kp c v ?_ r) (fun c r => ?_) fun c xs r => ?_
        · rcases hcv with rfl | hcv
          · exact hb
          · exact ne_of hcv ea (by intro y; cases y)
        · rw [upd_ne (ne_of r ea (by intro y; cases y)), upd_ne (ne_of_none r fresh)]; exact r
        · rw [upd_ne (ne_of r ea (by intro y; cases y)), upd_ne (ne_of_none r fresh)]; exact r
  · obtain ⟨oe, vs, t0, he, hc, hd, hda, h0, hsz, hfr⟩ := exo_get I2.hok ea
    obtain ⟨mA, hn, hr, hw⟩ := exd_get I2.hok ed
    refine xset1 I2.kIn he hc hda hd hn hw (by rw [List.length_map, sizeLine_eq]; omega) c n fun h' tk' sb hn' => ?_
    refine ⟨σ, _, I2.write (x := d) (e := d) (by rw [ed]; exact True.intro) (.inl rfl) (fun b q hb z => (sb.2 b hb).trans z) (let ⟨o, _, _, z, _⟩ := hn'; ⟨o, z⟩) ?_, k⟩
    refine exd_mk hn' (fun g => ?_) fun g hg => ?_
    · show RelO ((putF f y fs).lookup g) (if g = f then some u else mA g)
      rw [lookup_putF]
      by_cases q : g = f
      · rw [if_pos q, if_pos q]; exact ry
      · rw [if_neg q, if_neg q]; exact hr g
    · by_cases q : g = f
      · rw [q]; exact (keys_putF f y fs).1
      · refine (keys_putF f y fs).2 g (hw g fun z => hg ?_)
        show (if g = f then some u else mA g) = none
        rw [if_neg q]; exact z
end
end L2
end

section
set_option Elab.async false
set_option linter.all false
set_option maxRecDepth 100000
set_option maxHeartbeats 5000000
namespace L2
open PySem PySem.Spec PyProof.Rows Ex

/-! ## an exception is made -/
/-- a new exception of the class at C lies at e -/
structure RawAt (h h' : Heap) (e C : Addr) : Prop where
  keeps : ∀ c u, h.get? c = some u → h'.get? c = some u
  le : h.objs.size ≤ e
  obj : ∃ t0, h'.get? e = some { cls := .ref C, data := .fields #[.ref t0, .none, .none, .none, .bool false, .none] }
/-- C(rest) of an own exception class with its own __init__ at fI -/
def XMk (K : PySem.W.Frag) (C fI : Addr) : Prop := ∀ (prog : Program) (w : World) (A : Around) (E : Value → Shared → Prop) (s : Shared) (rest : List Value) (Q : Value → Shared → Prop), K.In s.heap → rest.length ≤ sizeLine →
  (∀ h' e, RawAt s.heap h' e C → wpAny (model prog w) (A.under (.builtin "type.__call__" ⟨.ref C :: rest, []⟩)) (call (.ref fI) (.ref e :: rest)) (fun r s' => r = .none ∧ Q (.ref e) s') E { s with heap := h' }) →
  wpAny (model prog w) A (call (.ref C) rest) Q E s
/-- C(rest) of one without -/
def XMk0 (K : PySem.W.Frag) (C : Addr) : Prop := ∀ (prog : Program) (w : World) (A : Around) (E : Value → Shared → Prop) (s : Shared) (rest : List Value) (Q : Value → Shared → Prop), K.In s.heap → rest.length ≤ sizeLine →
  (∀ h' e, RawAt s.heap h' e C → Q (.ref e) { s with heap := h' }) → wpAny (model prog w) A (call (.ref C) rest) Q E s
structure XK0 (K : PySem.W.Frag) (C : Addr) : Prop where
  xc : XC K C
  mt : ∃ oC, K.lookup C = some oC ∧ oC.cls = .type "type"
  kp : PySem.W.keepIn K (.ref C) = true

section
variable {X : Cx} {k : Nat} {fI C : Addr} {fd : FuncData} {ps : List Str} {sp : Sp} {dvs : List V} {ds : List Value} {x : Str} {p pos cpos apos : Pos} {e : Expr} {es : List Expr} {t : TA} {EE : XKS}

theorem Inv.exc {pins : List (Addr × Obj)} {σ : St} {H : Hp} {s : Shared} {h' : Heap} {a : Addr} (I : Inv X pins σ H s) (m : RawAt s.heap h' a C) (fr : Bool) :
    Inv X pins σ (upd H a (ExO C a none fr)) { s with heap := h' } := by
  obtain ⟨t0, he⟩ := m.obj
  exact I.laid (a := a) (o := ExO C a none fr) (t' := s.toks) m.keeps m.le (exo_mk he rfl rfl rfl rfl (by simp) fun _ => rfl)

theorem run_exc {pins : List (Addr × Obj)} {σ : St} {H : Hp} {s : Shared} {Q : VK} {us : List Value} {vs : List V} (M : XMk X.K C fI) (F : FnOk X.prog X.w X.K X.mg X.base CX0 k fI fd ps sp) (hr : Room (k + 1) X.A) (hb : Binds X.K fd ps ds) (hd : Vals dvs ds)
    (I : Inv X pins σ H s) (r : Vals vs us) (hlen : vs.length ≤ 1000)
    (h : ∀ a, H a = none → sp (.ref a :: (vs ++ dvs)) (upd H a (ExO C a none true)) (fun v H2 => v = .non ∧ Q (.ref a) H2) E0) :
    wpAny (model X.prog X.w) X.A (call (.ref C) us) (fun u s' => ∃ a H', u = .ref a ∧ Inv X pins σ H' s' ∧ s.heap.objs.size ≤ a ∧ Q (.ref a) H') X.xe s := by
  refine M X.prog X.w X.A X.xe s us _ I.kIn (by rw [← r.length, sizeLine_eq]; omega) fun h' a m => ?_
  have hq := h a (I.hok.fresh m.le)
  have I2 := I.exc m true
  have r2 : Vals (V.ref a :: (vs ++ dvs)) (Value.ref a :: (us ++ ds)) := .cons rfl (r.append hd)
  have hl : (Value.ref a :: us ++ ds).length = ps.length := by
    have e := r2.length
    rw [F.len _ _ _ _ hq] at e
    exact e.symm
  refine wpAny_call (codeAny_mono (F.run _ X.stack _ _ ⟨Value.ref a :: us, []⟩ (Value.ref a :: (us ++ ds)) _ _ E0 (hr.make C us [])
    (I2.env0.make C us []) (hb _ (Value.ref a :: us) I2.kIn hl) r2 hq) fun r s' hq' => ?_)
  cases r with
  | error e => exact False.elim hq'
  | ok fl =>
    cases fl with
    | ret u =>
      obtain ⟨v, H', I3, rv, ev, q3⟩ := I2.after hq'
      subst ev
      exact ⟨rv, a, H', rfl, I3, m.le, q3⟩
    | next => exact False.elim hq'
    | brk => exact False.elim hq'
    | cont => exact False.elim hq'

/-- an exception that was just made is thrown -/
theorem throw_new {pins : List (Addr × Obj)} {σ : St} {H : Hp} {s : Shared} {a : Addr} {dd : Option Addr} (hX : XOk X EE) (I : Inv X pins σ H s) (hle : X.s₀.heap.objs.size ≤ a) (ea : H a = some (ExO C a dd true)) (q : EE σ (.ref C) (some a) (upd H a (ExO C a dd false))) : X.xe (.ref a) s := by
  obtain ⟨oe, vs, t0, he, hc, hd, hda, h0, hsz, hfr⟩ := exo_get I.hok ea
  have I' : Inv X pins σ (upd H a (ExO C a dd false)) s := I.write (x := a) (e := a) (t' := s.toks) (h' := s.heap) (by rw [ea]; exact True.intro) (.inl rfl) (fun b u _ z => z) ⟨_, he⟩ (exo_mk he hc hd hda h0 hsz fun z => nomatch z)
  exact hX pins σ _ s a C I' ⟨⟨dd, upd_same⟩, hle, none, ⟨oe, vs, he, hda, hfr rfl⟩, fun T z => nomatch z⟩ q

/-- raise C(..), C with an __init__ of its own -/
def tRaise (C : Addr) (sp : Sp) (dvs : List V) (EE : XKS) (t : TA) : TS := fun _ σ H => t σ H fun vs H1 => vs.length ≤ 1000 ∧ ∀ a, H1 a = none →
  sp (.ref a :: (vs ++ dvs)) (upd H1 a (ExO C a none true)) (fun v H2 => v = .non ∧ ∃ dd, H2 a = some (ExO C a dd true) ∧ EE σ (.ref C) (some a) (upd H2 a (ExO C a dd false))) E0
def tRaise0 (C : Addr) (EE : XKS) (t : TA) : TS := fun _ σ H => t σ H fun vs H1 => vs.length ≤ 1000 ∧ ∀ a, H1 a = none → EE σ (.ref C) (some a) (upd H1 a (ExO C a none false))

theorem raise_at {Q : Flow → Shared → Prop} {s : Shared} {xe : Expr} {pos : Pos} (hh : X.A.handled = none)
    (h : wpAny (model X.prog X.w) X.A (eval xe X.env) (fun v s₁ => ∃ e, v = .ref e ∧ X.K.In s₁.heap ∧ CanRaise X.K s₁.heap e ∧ X.xe v s₁) X.xe s) :
    wpAny (model X.prog X.w) X.A (exec (.Raise (some xe) none pos) X.env) Q X.xe s := by
  rw [arm_exec_Raise]
  first
    | exact wpAny_bind (wpAny_standAt (raise_x hh (wpAny_bind (wpAny_mono h (fun v s₁ h₁ => wpAny_bind (wpAny_standAt (wpAny_pure h₁))) fun _ _ x => x))))
    | (simp only [evalOpt, Option.map]; exact wpAny_bind (wpAny_standAt (raise_x hh (wpAny_bind (wpAny_mono h (fun v s₁ h₁ => wpAny_bind (wpAny_standAt (wpAny_pure h₁))) fun _ _ x => x)))))
    | (show wpAny _ _ (do standAt pos; raiseStmt X.env (some (do let v ← eval xe X.env; standAt pos; pure v)) none) Q X.xe s; exact wpAny_bind (wpAny_standAt (raise_x hh (wpAny_bind (wpAny_mono h (fun v s₁ h₁ => wpAny_bind (wpAny_standAt (wpAny_pure h₁))) fun _ _ x => x)))))

theorem ps_raise (hX : XOk X EE) (hc : X.calm = true) (M : XMk X.K C fI) (Z : XK0 X.K C) (F : FnOk X.prog X.w X.K X.mg X.base CX0 k fI fd ps sp) (hr : Room (k + 1) X.A) (hg : Gl X x) (hm : X.mg x = some (.ref C)) (hb : Binds X.K fd ps ds) (hd : Vals dvs ds)
    (ha : PA X (e :: es) t) (hdb : (x == ("__debug__" : Str)) = false := by decide) (he : starEach (e :: es) X.env = (false, eval e X.env) :: starEach es X.env := by rfl) (hpl : (backTo cpos (starEach es X.env)).any (·.1) = false := by rfl) :
    PS X (.Raise (some (.Call (.Name x p) (e :: es) [] cpos)) none pos) (tRaise C sp dvs EE t) := by
  intro pins s σ H D I h
  refine raise_at (I.ok.hd hc) (wpAny_Call_Name_kw (ld_glob I hg hm ?_ hdb))
  refine PySem.W.callWith_K (h₀ := X.base) I.ok.mod.kin Z.kp (thn (ha cpos pins s σ H _ I h) fun us s1 ⟨vs, H1, I1, r, hlen, q⟩ => ⟨I1.kIn, ?_⟩) he hpl
  refine thn (run_exc (Q := fun v H2 => ∃ a dd, v = .ref a ∧ H2 a = some (ExO C a dd true) ∧ EE σ (.ref C) (some a) (upd H2 a (ExO C a dd false))) M F hr hb hd I1 r hlen fun a na => ?_) fun u s2 ⟨a, H2, eu, I2, hle, a', dd, ea', ex, q2⟩ => ?_
  · have q' := q a na
    have : (fun v H2 => v = V.non ∧ ∃ dd, H2 a = some (ExO C a dd true) ∧ EE σ (.ref C) (some a) (upd H2 a (ExO C a dd false))) = (fun v H2 => v = V.non ∧ ∃ a' dd, V.ref a = V.ref a' ∧ H2 a' = some (ExO C a' dd true) ∧ EE σ (.ref C) (some a') (upd H2 a' (ExO C a' dd false))) := by
      funext v H2
      apply propext
      constructor
      · rintro ⟨z, dd, z1, z2⟩; exact ⟨z, a, dd, rfl, z1, z2⟩
      · rintro ⟨z, a', dd, z0, z1, z2⟩; cases z0; exact ⟨z, dd, z1, z2⟩
    rw [← this]
    exact q'
  · cases ea'
    obtain ⟨oe, ws, t0, h1, h2, h3, h4, h5, h6, h7⟩ := exo_get I2.hok ex
    obtain ⟨oC, m1, m2⟩ := Z.mt
    exact ⟨a, eu, I2.kIn, ⟨oe, ws, C, oC, h1, h2, Z.xc.be, m1, m2, h4, h7 rfl⟩, by rw [eu]; exact throw_new hX I2 (Nat.le_trans I1.sz hle) ex q2⟩
theorem ps_raise0 (hX : XOk X EE) (hc : X.calm = true) (M : XMk0 X.K C) (Z : XK0 X.K C) (hg : Gl X x) (hm : X.mg x = some (.ref C))
    (ha : PA X (e :: es) t) (hdb : (x == ("__debug__" : Str)) = false := by decide) (he : starEach (e :: es) X.env = (false, eval e X.env) :: starEach es X.env := by rfl) (hpl : (backTo cpos (starEach es X.env)).any (·.1) = false := by rfl) :
    PS X (.Raise (some (.Call (.Name x p) (e :: es) [] cpos)) none pos) (tRaise0 C EE t) := by
  intro pins s σ H D I h
  refine raise_at (I.ok.hd hc) (wpAny_Call_Name_kw (ld_glob I hg hm ?_ hdb))
  refine PySem.W.callWith_K (h₀ := X.base) I.ok.mod.kin Z.kp (thn (ha cpos pins s σ H _ I h) fun us s1 ⟨vs, H1, I1, r, hlen, q⟩ => ⟨I1.kIn, ?_⟩) he hpl
  refine M X.prog X.w X.A X.xe s1 us _ I1.kIn (by rw [← r.length, sizeLine_eq]; omega) fun h' a m => ?_
  have I2 := I1.exc m true
  obtain ⟨t0, h1⟩ := m.obj
  obtain ⟨oC, m1, m2⟩ := Z.mt
  refine ⟨a, rfl, I2.kIn, ⟨_, _, C, oC, h1, rfl, Z.xc.be, m1, m2, rfl, rfl⟩, throw_new (dd := none) hX I2 (Nat.le_trans I1.sz m.le) upd_same ?_⟩
  rw [upd_upd]
  exact q a (I1.hok.fresh m.le)
end
end L2
end

section
set_option Elab.async false
set_option linter.all false
set_option maxRecDepth 100000
set_option maxHeartbeats 5000000
namespace L2
open PySem PySem.Spec PyProof.Rows Ex

/-! ## own exception classes, read off the text's own objects -/
/-- an own exception class at C: up the built-in classes above its own ones, nw the __new__ that it has -/
def exCls (K : PySem.W.Frag) (C : Addr) (up : List Value) (nw : String) : Bool := (K.lookup C).any fun o => o.cls == .type "type" && o.slots.size == 6 && o.slots.toList[4]? == some (some (.builtin nw)) &&
  match o.data with
  | .cls cd => cd.mro.head? == some (.ref C) && !cd.hasDel && cd.hasDict && PySem.W.tailIn K up cd.mro.tail && PySem.W.nsOkIn K cd.ns
  | _ => false
theorem six_slots {l : List (Option Value)} {v : Option Value} (h : l.length = 6) (q : l[4]? = some v) : ∃ a b c d e, l = [a, b, c, d, v, e] := by
  match l, h with
  | [a, b, c, d, x, e], _ =>
    cases q
    exact ⟨a, b, c, d, e, rfl⟩
/-- its object and class, in the form that the rules for built-in bases take -/
theorem exCls_at {K : PySem.W.Frag} {C : Addr} {up : List Value} {nw : String} (q : exCls K C up nw = true) :
    ∃ tl N nm qn bs sn sub ab col dd j0 j1 j2 j3 j5, K.lookup C = some (excClassObj nm qn C N bs tl true sn sub ab col dd j0 j1 j2 j3 j5 nw) ∧ PySem.W.tailIn K up tl = true ∧ PySem.W.nsOkIn K N = true := by
  unfold exCls at q
  cases z : K.lookup C with
  | none => rw [z] at q; cases q
  | some o =>
    rw [z] at q
    cases o with
    | mk oc od oda osl =>
      simp only [Option.any_some, Bool.and_eq_true, beq_iff_eq] at q
      obtain ⟨⟨⟨rfl, sz⟩, s4⟩, q⟩ := q
      cases oda with
      | cls cd =>
        cases cd with
        | mk nm bs mro N qn hasD sn sub ab col del =>
          simp only [Bool.not_eq_true', Bool.and_eq_true, beq_iff_eq] at q
          obtain ⟨⟨⟨⟨hm, rfl⟩, rfl⟩, ht⟩, hn⟩ := q
          cases mro with
          | nil => cases hm
          | cons a tl =>
            cases hm
            obtain ⟨l⟩ := osl
            obtain ⟨a, b, c, d, e, rfl⟩ := six_slots (by simpa using sz) (by simpa using s4)
            exact ⟨tl, N, nm, qn, bs, sn, sub, ab, col, od, a, b, c, d, e, rfl, ht, hn⟩
      | _ => cases q
section
variable {K : PySem.W.Frag} {C fI : Addr} {B D nw iniD ini : String} {un up : List Value}
theorem xmk_of (fn : ExcBaseFacts D nw iniD un) (hD : up.contains (.type D) = true) (F : XB B ini up) (q : exCls K C up nw = true) (at_ : PySem.W.findIn K (.ref C) "__init__" = some (some (.ref fI))) (isF : PySem.W.isFn K (.ref fI) = true) : XMk K C fI := by
  rintro prog w A E ⟨h, g, d, t, os⟩ as Q X few k
  obtain ⟨tl, N, nm, qn, bs, sn, sub, ab, col, dd, j0, j1, j2, j3, j5, hC, ht, hn⟩ := exCls_at q
  exact call_own fn hD F (PySem.W.tail_of_in X ht) X (X _ _ hC) at_ (PySem.W.bind_fn (X.keeps rawExc_keeps) _ (beq_iff_eq.mp isF)) few (k _ _ ⟨rawExc_keeps, Nat.le_succ _, _, rawExc_at⟩)
theorem xmk0_of (fn : ExcBaseFacts D nw iniD un) (hD : up.contains (.type D) = true) (F : XB B ini up) (q : exCls K C up nw = true) (c : XC K C) (sub : PySem.W.mroIn K C (.type B) = some true) (at_ : PySem.W.findIn K (.ref C) "__init__" = some (some (.builtin ini))) : XMk0 K C := by
  rintro prog w A E ⟨h, g, d, t, os⟩ as Q X few k
  obtain ⟨tl, N, nm, qn, bs, sn, sub', ab, col, dd, j0, j1, j2, j3, j5, hC, ht, hn⟩ := exCls_at q
  apply call_own fn hD F (PySem.W.tail_of_in X ht) X (X _ _ hC) at_ (PySem.W.Looks.of_pure (F.slot.bind _)) few
  have X' : K.In (rawExc h C as) := X.keeps rawExc_keeps
  apply xinit (s := ⟨rawExc h C as, g, d, t, os⟩) F X' (od := none) ⟨rawExc_at, rfl, rfl, trivial⟩ c sub rfl rfl few
  intro h' kp hx
  refine ⟨rfl, k h' _ ⟨fun b o e => kp b o ?_ (rawExc_keeps b o e), Nat.le_succ _, _, hx⟩⟩
  exact Nat.ne_of_lt (Nat.lt_succ_of_lt (Heap.lt_size e))
/-- a store in an exception is refused by none of the classes above -/
theorem stores {self : Value} (ok : refuseLoop self "__setattr__" up = pure ()) : ∀ {l : List Value}, PySem.W.tailIn K up l = true → refuseLoop self "__setattr__" l = pure ()
  | [], e => by
    have z : up = [] := beq_iff_eq.mp e
    rw [← z]; exact ok
  | v :: r, e => by
    unfold PySem.W.tailIn at e
    cases z : ((v :: r) == up) with
    | true => rw [beq_iff_eq.mp z]; exact ok
    | false =>
      rw [z, Bool.false_or] at e
      cases v with
      | ref a =>
        dsimp only at e
        split at e
        · rw [Bool.and_eq_true] at e
          rw [refuseLoop_ref]
          exact stores ok e.2
        · cases e
      | _ => cases e
theorem xk0_of (ok : ∀ self, refuseLoop self "__setattr__" up = pure ()) (q : exCls K C up nw = true)
    (ga : PySem.W.findIn K (.ref C) "__getattribute__" = some (some (.builtin "BaseException.__getattribute__"))) (gt : PySem.W.findIn K (.ref C) "__getattr__" = some none) (sa : PySem.W.findIn K (.ref C) "__setattr__" = some (some (.builtin "object.__setattr__")))
    (be : PySem.W.mroIn K C (.type "BaseException") = some true) (ob : PySem.W.mroIn K C (.type "object") = some true) (ca : PySem.W.findIn K (.ref C) "__class__" = some (some (.builtin "object.__class__")))
    (cg : PySem.W.specialIn K (.builtin "object.__class__") "__get__" = some (some (.builtin "getset_descriptor.__get__"))) (ct : PySem.W.takesIn K (.builtin "object.__class__") = some true) (kc : PySem.W.kitCls K (.ref C) (.ref C) = some true) (kp : PySem.W.keepIn K (.ref C) = true) : XK0 K C := by
  obtain ⟨tl, N, nm, qn, bs, sn, sub, ab, col, dd, j0, j1, j2, j3, j5, hC, ht, hn⟩ := exCls_at q
  exact ⟨⟨ga, gt, sa, be, ob, ⟨_, by unfold PySem.W.clsIn; rw [hC], rfl, fun self => by rw [refuseLoop_ref]; exact stores (ok self) ht⟩, ca, cg, ct, kc⟩, ⟨_, hC, rfl⟩, kp⟩
end
end L2
end

section
set_option Elab.async false
set_option linter.all false
set_option maxRecDepth 100000
set_option maxHeartbeats 5000000
namespace L2
open PySem PySem.Spec PyProof.Rows Ex

/-! ## isinstance -/
def ExAt (H : Hp) (a C : Addr) : Prop := ∃ fr, H a = some (ExO C a none fr) ∨ ∃ d fs, H a = some (ExO C a (some d) fr) ∧ H d = some (ExD d fs)
def clsV : V → Option Value
  | .ref a => some (.ref a)
  | .ty n => some (.type n)
  | _ => none
theorem clsV_rel {c : V} {cv u : Value} (h : clsV c = some cv) (r : RelV c u) : u = cv := by
  cases c <;> first | (cases h; exact r) | cases h
/-- the type of a value, exceptions too -/
def TyX (K : PySem.W.Frag) (H : Hp) (x : V) (t : Value) : Prop := TyOf K H x t ∨ ∃ a C, x = .ref a ∧ t = .ref C ∧ ExAt H a C ∧ XC K C
section
variable {X : Cx}
theorem ExAt.inst {P : Program} {w : World} {H : Hp} {h : Heap} {a C : Addr} (ok : HOk P w H h) (q : ExAt H a C) : ∃ ox od, PySem.W.InstAt h a ox C od := by
  obtain ⟨fr, q | ⟨d, fs, q, q2⟩⟩ := q
  · obtain ⟨ox, od, I, _⟩ := exc_inst (K := []) ok q fun d z => nomatch z
    exact ⟨ox, od, I⟩
  · obtain ⟨mA, hn, _⟩ := exd_get ok q2
    obtain ⟨ox, od, I, _⟩ := exc_inst (K := []) ok q fun d' z => by cases z; exact let ⟨o, _, _, z, _⟩ := hn; ⟨o, z⟩
    exact ⟨ox, od, I⟩
theorem call_isinst : CallR X (.builtin "isinstance") (fun xs H Q => ∃ x c t cv b, xs = [x, c] ∧ clsV c = some cv ∧ TyX X.K H x t ∧ PySem.W.kitOne X.K t cv = some b ∧ Q (.bl b) H) := by
  intro pins s σ H xs us Q I r h
  obtain ⟨x, c, t, cv, b, rfl, hc, ty, e, q⟩ := h
  obtain ⟨u, u2, rfl, rx, rc⟩ := Vals.two r
  cases clsV_rel hc rc
  rcases ty with ty | ⟨a, C, rfl, rfl, ea, c⟩
  · exact isinst_ok I rx ty e fun tk => ⟨.bl b, H, I.tok _, rfl, q⟩
  · obtain rfl : u = Value.ref a := rx
    exact PySem.W.kia_one (kitx_exc c) I.kIn (ea.inst I.hok) e (fun z => nomatch z) fun tk => ⟨.bl b, H, I.tok _, rfl, q⟩

/-! ## Base.__init__(self, ..) of an exception -/
structure XIn (K : PySem.W.Frag) (b : V) (B initId : String) : Prop where
  get : (∃ D, b = .ref D ∧ PySem.W.specialIn K (.ref D) "__getattribute__" = some (some (.builtin "type.__getattribute__")) ∧ PySem.W.readsIn K D (.type "type") = true ∧ PySem.W.findCls K (.ref D) (.type "type") "__init__" = some (.val (.builtin initId))) ∨
    (∃ T, b = .ty T ∧ typeOf (.type T) = pure (.type "type") ∧ Manifest.isStub T = false ∧ PySem.W.findCls K (.type T) (.type "type") "__init__" = some (.val (.builtin initId)))
  hh : PySem.W.handedIn (.builtin initId) = true
  base : ∃ bmB, XB B initId bmB
def tXInit (K : PySem.W.Frag) (B : String) (t : TA) : TE := fun σ H Q => t σ H fun vs H1 => ∃ a C fr rest, vs = .ref a :: rest ∧ H1 a = some (ExO C a none fr) ∧ XC K C ∧ PySem.W.mroIn K C (.type B) = some true ∧ rest.length ≤ 1000 ∧ Q .non H1
theorem pe_xinit {b : V} {B initId : String} {x : Str} {p apos pos : Pos} {e : Expr} {es : List Expr} {t : TA} {pl : Sem Bool} (hb : PE X (.Name x p) (tC b)) (Z : XIn X.K b B initId) (ha : PA X (e :: es) t)
    (hst : starEach (e :: es) X.env = (false, eval e X.env) :: starEach es X.env := by rfl) (hpl : (backTo pos (starEach es X.env)).any (·.1) = false := by rfl)
    (ht : eval (.Call (.Attribute (.Name x p) "__init__" apos) (e :: es) [] pos) X.env = (do
      let ov ← eval (.Name x p) X.env
      standAt apos.atName
      let (f, first) ← holding [ov] (getMethod ov "__init__" pl)
      callWith pos f first (backTo pos (starEach (e :: es) X.env)) (backToKw pos (keywordEach [] X.env))) := by rfl) :
    PE X (.Call (.Attribute (.Name x p) "__init__" apos) (e :: es) [] pos) (tXInit X.K B t) := by
  intro pins s σ H Q I h
  refine PySem.W.methodCall_KW (pl := pl) (thn (hb pins s σ H (fun v H1 => v = b ∧ H1 = H) I ⟨rfl, rfl⟩) fun u s1 ⟨x', H1, I1, rx, ex, eH⟩ => ?_) ht
  subst ex eH
  obtain ⟨bmB, F⟩ := Z.base
  have rest : ∀ tk, wpAny (model X.prog X.w) X.A (callWith pos (.builtin initId) [] (backTo pos (starEach (e :: es) X.env)) (backToKw pos (keywordEach [] X.env))) (EP X pins σ Q) X.xe { s1 with toks := tk } := fun tk => by
    refine PyProof.Rows.callWith_builtin1 (thn (ha pos pins _ σ H1 _ (I1.tok tk) h) fun us s2 ⟨vs, H2, I2, r, a, C, fr, rest, ev, ea, c, hm, hl, q⟩ => ?_) hst hpl
    subst ev
    cases r with
    | @cons _ u' _ us' ra rr =>
      obtain rfl : u' = Value.ref a := ra
      obtain ⟨oe, ws, t0, h1, h2, h3, h4, h5, h6, h7⟩ := exo_get I2.hok ea
      obtain ⟨ox, od, Ins, hdd, _⟩ := exc_inst (K := X.K) I2.hok ea fun d z => nomatch z
      have e1 := Ins.at_
      rw [h1] at e1
      cases e1
      refine xinit F I2.kIn Ins c hm h4 h5 (by rw [← rr.length, sizeLine_eq]; omega) fun h' kp hx => ?_
      refine ⟨.non, H2, ?_, rfl, q⟩
      have I3 := I2.write (x := a) (e := a) (o := ExO C a none fr) (t' := s2.toks) (h' := h') (by rw [ea]; exact True.intro) (.inl rfl) (fun b u hb z => kp b u hb z) ⟨_, hx⟩ (by
        exact exo_mk hx h2 h3 rfl (show (ws.setIfInBounds 0 (Value.ref s2.heap.objs.size))[0]? = some (.ref s2.heap.objs.size) by have : 0 < ws.size := (by omega); simp [Array.getElem?_setIfInBounds, this]) (by simp; exact h6) (fun z => by rw [Array.getElem?_setIfInBounds_ne (by decide)]; exact h7 z))
      have e2 : upd H2 a (ExO C a none fr) = H2 := by
        funext b
        by_cases z : b = a
        · subst z; rw [upd_same, ea]
        · rw [upd_ne z]
      rw [e2] at I3
      exact I3
  rcases Z.get with ⟨D, rfl, hg, hr, hc⟩ | ⟨T, rfl, h1, h2, hc⟩
  · obtain rfl : u = Value.ref D := rx
    exact PySem.W.method_cls I1.kIn hg (PySem.W.cls_value I1.kIn hr hc Z.hh (rest _))
  · obtain rfl : u = Value.type T := rx
    obtain ⟨m, Fr⟩ := I1.fr
    exact PySem.W.method_type Fr I1.ok.mod.kin h1 h2 hc Z.hh (rest _)

/-! ## a name goes -/
theorem goes_ok {M : Model} {A : Around} {E : Value → Shared → Prop} {pins : List (Addr × Obj)} {σ : St} {H : Hp} {s : Shared} {i : Nat} {n : Str} {pos : Pos} {Q : Unit → Shared → Prop} (I : Inv X pins σ H s) (hN : X.N.Nodup) (hi : X.N[i]? = some n) (hl : X.env.scope.names.lookup n = some .local)
    (h : ∀ s', Inv X pins (σ.set i none) H s' → Q () s') : wpAny M A (do bindName X.env n .none; unbindBehindTheSuite X.env n pos) Q E s := by
  obtain ⟨m, hn, hlk⟩ := id I.loc
  have hcls : (X.env.scope.kind == .class || (X.env.scope.kind == .module && X.env.locals != X.env.globals)) = false := by rw [I.ok.kind]; rfl
  have cne := I.cne
  refine wpAny_nameGoes_keeps hl hn hcls fun h' v hn' hs => ?_
  obtain ⟨oL, _, _, hoL, _⟩ := id hn
  have tracked : HOk X.prog X.w H h' := fun b ob e => by
    refine (I.hok b ob e).stay (fun c w' hc q => (hs.2 c ?_).trans q) (fun _ q => q) fun _ _ q => q
    rintro rfl
    have hfree := I.free
    rcases hc with rfl | hc
    · rw [hfree] at e; cases e
    · rw [hfree] at hc; cases hc
  refine h _ ⟨I.ok, I.os, I.bare, ⟨fun b o e n hb hx => ?_, fun b o e n hb hx => ?_, I.base.free, fun b o e hx => ?_, I.base.tups, I.base.frzs, I.base.tbls⟩, ⟨_, hn', fun j y v' e1 e2 e3 => ?_⟩, fun y c e => ?_, I.free, I.freeC, fun p hp => ?_, tracked, by simpa using I.len⟩
  · exact (hs.2 b (Nat.ne_of_lt (Nat.lt_of_lt_of_le (Heap.lt_size e) I.ok.above))).trans (I.base.keep b o e n hb hx)
  · obtain ⟨sl, e1⟩ := I.base.slot b o e n hb hx
    exact ⟨sl, (hs.2 b (Nat.ne_of_lt (Nat.lt_of_lt_of_le (Heap.lt_size e) I.ok.above))).trans e1⟩
  · obtain ⟨o', e1⟩ := I.base.there b o e hx
    exact ⟨o', (hs.2 b (Nat.ne_of_lt (Nat.lt_of_lt_of_le (Heap.lt_size e) I.ok.above))).trans e1⟩
  · have hiσ : i < σ.length := by rw [I.len]; exact (List.getElem?_eq_some_iff.mp hi).1
    by_cases hj : j = i
    · subst hj
      rw [List.getElem?_set_self hiσ] at e2
      cases e2
    · rw [List.getElem?_set_ne (Ne.symm hj)] at e2
      obtain ⟨u', r', q⟩ := hlk j y v' e1 e2 e3
      refine ⟨u', r', ?_⟩
      rcases q with ⟨k, e⟩ | ⟨k, c, e, z⟩
      · refine .inl ⟨k, ?_⟩
        have : y ≠ n := fun e => hj (nodup_ix hN e1 (e ▸ hi))
        simp [this, e]
      · exact .inr ⟨k, c, e, z.sameBut hs (cne y c e)⟩
  · obtain ⟨w', z⟩ := I.cell y c e
    exact ⟨w', z.sameBut hs (cne y c e)⟩
  · obtain ⟨e, n, ne, nf, d⟩ := I.pin p hp
    exact ⟨(hs.2 p.1 ne).trans e, n, ne, nf, d⟩
end
end L2
end

section
set_option Elab.async false
set_option linter.all false
set_option maxRecDepth 100000
set_option maxHeartbeats 5000000
namespace Ex
open PySem PySem.Spec PyProof.Rows PySem.W PySem.Calls Builtin Builtin.ObjectAttr

def matchIn (K : Frag) (C : Addr) : List Value → Option Bool
  | [] => some false
  | c :: r => if kitExc K c = true then (match subIn K (.ref C) c, matchIn K C r with
      | some a, some b => some (a || b)
      | _, _ => none) else none
where kitExc (K : Frag) (c : Value) : Bool := kitCls K c c == some true && subIn K c (.type "BaseException") == some true
section
variable {M : Model} {A : Around} {E : Value → Shared → Prop} {s : Shared} {K : Frag}
theorem kitExc_of {c : Value} {h : Heap} (X : K.In h) (q : matchIn.kitExc K c = true) : Looks M h (isExcClass c) true := by
  unfold matchIn.kitExc at q
  rw [Bool.and_eq_true] at q
  exact (kit_cls X (beq_iff_eq.mp q.1)).2.1.andThen (looks_subIn X (beq_iff_eq.mp q.2))
theorem loop_pass {β : Type} {l : List Value} {b : β} {f : Value → β → Sem (ForInStep β)} {Q : β → Shared → Prop} (hf : ∀ c ∈ l, ∀ R : ForInStep β → Shared → Prop, R (.yield b) s → wpAny M A (f c b) R E s) (h : Q b s) : wpAny M A (forIn l b f) Q E s := by
  induction l with
  | nil => exact wpAny_pure h
  | cons c r ih =>
    rw [List.forIn_cons]
    refine wpAny_bind (hf c (List.mem_cons_self ..) _ ?_)
    exact ih fun c' hc' => hf c' (List.mem_cons_of_mem _ hc')
theorem sub_loop {C : Addr} {cs : List Value} {b : Bool} {Q : Option Bool × Unit → Shared → Prop} (X : K.In s.heap) (q : matchIn K C cs = some b) (h : Q (if b then (some true, ()) else (none, ())) s) :
    wpAny M A (forIn cs ((none, ()) : Option Bool × Unit) fun c __s => do
      let __do_lift ← isSubtype (.ref C) c
      if __do_lift = true then pure (ForInStep.done (some true, ())) else pure (ForInStep.yield (none, ()))) Q E s := by
  induction cs generalizing b with
  | nil => cases q; exact wpAny_pure h
  | cons c r ih =>
    unfold matchIn at q
    split at q
    · split at q
      · rename_i a b' e1 e2
        cases q
        rw [List.forIn_cons]
        refine wpAny_bind (wpAny_bind ((looks_subIn X e1).here ?_))
        cases a with
        | true => exact wpAny_pure (wpAny_pure h)
        | false =>
          refine wpAny_pure ?_
          exact ih e2 (by simpa using h)
      · cases q
    · cases q
theorem exc_all {C : Addr} : ∀ {cs : List Value} {b : Bool}, matchIn K C cs = some b → ∀ c ∈ cs, matchIn.kitExc K c = true
  | [], _, _, c, hc => nomatch hc
  | c :: r, b, q, c', hc => by
    unfold matchIn at q
    split at q
    · rename_i hk
      split at q
      · rename_i a b' e1 e2
        cases hc with
        | head => exact hk
        | tail _ m => exact exc_all e2 c' m
      · cases q
    · cases q
theorem matches_tup {e C p : Addr} {cs : List Value} {b : Bool} {Q : Bool → Shared → Prop} (X : K.In s.heap) (hty : Looks M s.heap (typeOf (.ref e)) (.ref C)) (hp : IsTup s.heap p cs.toArray) (q : matchIn K C cs = some b) (h : Q b s) :
    wpAny M A (excMatches (.ref e) (.ref p)) Q E s := by
  obtain ⟨o, ho, hc, n, hd⟩ := hp
  unfold excMatches
  refine wpAny_bind (wpAny_isInstance (T := "tuple") ⟨o, ho, hc⟩ (b := true) (by rw [isSubtype_type]; kernel_rfl) ?_)
  have hs : seqItems? (.ref p) = seqItems? (.ref p) := rfl
  obtain ⟨oc, odi, oda, osl⟩ := o
  dsimp only at hc hd
  subst hc hd
  have e0 : ((some cs.toArray).getD #[]).toList = cs := by simp
  rw [if_pos rfl]
  refine wpAny_bind (m := seqItems? (.ref p)) (wpAny_mono (Q := fun r s' => r = some cs.toArray ∧ s' = s) (E := E) ?_ (fun r s' hr => ?_) fun _ _ x => x)
  · unfold seqItems?
    obtain ⟨h0, g, d, t, os⟩ := s
    repeat (first | with_reducible refine wpAny_loadPart_at ho ?_ | exact ⟨rfl, rfl⟩ | wp_step)
  obtain ⟨rfl, rfl⟩ := hr
  refine wpAny_bind (wpAny_pure ?_)
  rw [e0]
  dsimp only
  refine wpAny_bind (loop_pass (fun c hc R hR => ?_) ?_)
  · refine wpAny_bind ((kitExc_of X (exc_all q c hc)).here ?_)
    exact wpAny_pure hR
  refine wpAny_bind (hty.here (wpAny_bind (sub_loop X q ?_)))
  cases b <;> exact wpAny_pure h
end
end Ex
end

section
set_option Elab.async false
set_option linter.all false
set_option maxRecDepth 100000
set_option maxHeartbeats 5000000
namespace L2
open PySem PySem.Spec PyProof.Rows Ex

/-! ## try, except (A, B, ..) as n -/
/-- the context of a try's body -/
abbrev Cx.body (X : Cx) (E' : Value → Shared → Prop) (pn' : List (Addr × Obj)) : Cx := { X with xe := E', pn := pn' }
/-- the context of an except suite in which e is handled; no exception leaves it -/
abbrev Cx.hand (X : Cx) (e : Value) (E' : Value → Shared → Prop) : Cx := { X with A := X.A.mark (some e), calm := false, xe := E' }
section
variable {X : Cx} {pins : List (Addr × Obj)} {σ : St} {H : Hp} {s : Shared}
theorem Inv.tob (I : Inv X pins σ H s) (E' : Value → Shared → Prop) : Inv (X.body E' (X.pn ++ pins)) [] σ H s :=
  ⟨⟨I.ok.mod, I.ok.kind, I.ok.glob, I.ok.blt, I.ok.above, I.ok.inj, I.ok.has, I.ok.cab, I.ok.hd, I.ok.frames, I.ok.stk, I.ok.exf, I.ok.bs, I.ok.bsz, I.ok.noex, I.ok.exfs, I.ok.funs, I.ok.frf⟩, I.os, I.bare, I.base, I.loc, I.cell, I.free, I.freeC,
    fun p hp => I.pin p (by simpa using hp), I.hok, I.len⟩
theorem Inv.ofb {pins' : List (Addr × Obj)} {E' : Value → Shared → Prop} (I : Inv (X.body E' (X.pn ++ pins)) pins' σ H s) : Inv X pins σ H s :=
  ⟨⟨I.ok.mod, I.ok.kind, I.ok.glob, I.ok.blt, I.ok.above, I.ok.inj, I.ok.has, I.ok.cab, I.ok.hd, I.ok.frames, I.ok.stk, I.ok.exf, I.ok.bs, I.ok.bsz, I.ok.noex, I.ok.exfs, I.ok.funs, I.ok.frf⟩, I.os, I.bare, I.base, I.loc, I.cell, I.free, I.freeC,
    fun p hp => I.pin p (List.mem_append_left _ hp), I.hok, I.len⟩
theorem Inv.toh (I : Inv X pins σ H s) (e : Value) (E' : Value → Shared → Prop) : Inv (X.hand e E') pins σ H s :=
  ⟨⟨I.ok.mod, I.ok.kind, I.ok.glob, I.ok.blt, I.ok.above, I.ok.inj, I.ok.has, I.ok.cab, (fun z => nomatch z), I.ok.frames, I.ok.stk, I.ok.exf, I.ok.bs, I.ok.bsz, I.ok.noex, I.ok.exfs, I.ok.funs, I.ok.frf⟩, I.os, I.bare, I.base, I.loc, I.cell, I.free, I.freeC, I.pin, I.hok, I.len⟩
theorem Inv.ofh {e : Value} {E' : Value → Shared → Prop} (I : Inv (X.hand e E') pins σ H s) (hd : X.calm = true → X.A.handled = none) : Inv X pins σ H s :=
  ⟨⟨I.ok.mod, I.ok.kind, I.ok.glob, I.ok.blt, I.ok.above, I.ok.inj, I.ok.has, I.ok.cab, hd, I.ok.frames, I.ok.stk, I.ok.exf, I.ok.bs, I.ok.bsz, I.ok.noex, I.ok.exfs, I.ok.funs, I.ok.frf⟩, I.os, I.bare, I.base, I.loc, I.cell, I.free, I.freeC, I.pin, I.hok, I.len⟩

/-- an exception is noted and lands: the state behind it -/
theorem Inv.landed {e C T' : Addr} {tb : Option Addr} {h' h'' : Heap} (I : Inv X pins σ H s) (ex : ∃ dd, H e = some (ExO C e dd false)) (hT : ∀ T, tb = some T → H T = none ∧ X.s₀.heap.objs.size ≤ T ∧ ∀ p ∈ X.pn ++ pins, p.1 ≠ T)
    (tbd : ∀ T, tb = some T → ∃ oT ts, s.heap.get? T = some oT ∧ oT.data = .fields ts) (S : Step (frs X.stack) e tb s.heap h') (hle : s.heap.objs.size ≤ T') (oth : ∀ b, b ≠ T' → h''.get? b = h'.get? b) : Inv X pins σ H { s with heap := h'' } := by
  obtain ⟨dd, ex⟩ := ex
  obtain ⟨oe, vs, t0, he, hc, hdd, hd, h0, hsz, _⟩ := exo_get I.hok ex
  have hT' : ∀ b o, s.heap.get? b = some o → b ≠ T' := fun b o z => Nat.ne_of_lt (Nat.lt_of_lt_of_le (Heap.lt_size z) hle)
  have keep : ∀ b o, s.heap.get? b = some o → b ≠ e → tb ≠ some b → b ∉ frs X.stack → h''.get? b = some o := fun b o z a1 a2 a3 => (oth b (hT' b o z)).trans (S.keep b o z a1 a2 a3)
  have tracked : ∀ b u, H b = some u → b ∉ frs X.stack := fun b u z hb => by
    have n := I.stkFree b hb
    rw [z] at n
    cases n
  have ne : ∀ b, H b = none → b ≠ e := fun b z y => by rw [y, ex] at z; cases z
  refine I.call' (s' := { s with heap := h'' }) (ch := tb.toList) rfl ⟨fun b o z n hb hx => ?_, fun b o z n hb hx => ?_, fun b o z n _ => n, fun b o z _ => ?_, fun _ _ z => z, fun _ _ _ z => z, fun b ps z => ⟨#[], by rw [z]; simp⟩⟩ (fun b u z => ?_) I.bare fun b hb => ?_
  · exact keep b o z (ne b n) (fun y => hx (by rw [y]; simp)) hb
  · obtain ⟨sl, e1⟩ := S.slot b o z (ne b n) (fun y => hx (by rw [y]; simp))
    exact ⟨sl, (oth b (hT' b o z)).trans e1⟩
  · obtain ⟨o2, e2⟩ := S.there b o z
    exact ⟨o2, (oth b (hT' b o z)).trans e2⟩
  · by_cases hb : b = e
    · subst hb
      rw [ex] at z
      cases z
      obtain ⟨vs', e1, e2, e3⟩ := S.exc oe vs he hd
      exact exo_mk ((oth b (hT' b _ he)).trans e1) hc hdd rfl (by rw [e2]; exact h0) (by rw [e3]; exact hsz) fun z => nomatch z
    · refine (I.hok b u z).stay (fun c v hcv r => ?_) (fun _ r => r) fun _ _ r => r
      have ne2 : c ≠ e := by
        rcases hcv with rfl | hcv
        · exact hb
        · exact ne_of hcv ex (by intro y; cases y)
      have tr : ∃ u', H c = some u' := by
        rcases hcv with rfl | hcv
        · exact ⟨_, z⟩
        · exact ⟨_, hcv⟩
      obtain ⟨u', hu'⟩ := tr
      exact keep c v r ne2 (fun y => by have := (hT c y).1; rw [hu'] at this; cases this) (tracked c u' hu')
  · cases tb with
    | none => simp at hb
    | some T =>
      have : b = T := by simpa using hb
      subst this
      obtain ⟨a1, a2, a3⟩ := hT b rfl
      obtain ⟨oT, ts, g1, g2⟩ := tbd b rfl
      refine ⟨.inr a2, fun y => ?_, fun x c hx y => ?_, a3⟩
      · obtain ⟨m, ⟨o, es, ep, ho, hd', _⟩, _⟩ := I.loc
        rw [y, ho] at g1
        cases g1
        rw [hd'] at g2
        cases g2
      · obtain ⟨v, o, ho, hd'⟩ := I.cell x c hx
        rw [y, g1] at ho
        cases ho
        rw [hd'] at g2
        cases g2
/-- names of classes, at a state that is not changed -/
def PN (X : Cx) (es : List Expr) (us : List Value) : Prop :=
  ∀ (A : Around) (E : Value → Shared → Prop) (pos : Pos) (pins : List (Addr × Obj)) (σ : St) (H : Hp) (s : Shared) (Q : List Value → Shared → Prop), Inv X pins σ H s → Q us s → wpAny (model X.prog X.w) A (spliced (backTo pos (starEach es X.env))) Q E s
theorem pn_nil : PN X [] [] := fun _ _ _ _ _ _ _ _ _ h => Calls.spliced_nil h
theorem pn_cons {x : Str} {p : Pos} {es : List Expr} {u : Value} {us : List Value} (hg : Gl X x) (hm : X.mg x = some u) (hr : PN X es us) (hd : (x == ("__debug__" : Str)) = false := by decide)
    (hs : starEach (.Name x p :: es) X.env = (false, eval (.Name x p) X.env) :: starEach es X.env := by rfl) : PN X (.Name x p :: es) (u :: us) := by
  intro A E pos pins σ H s Q I h
  rw [hs]
  show wpAny _ _ (spliced ((false, eval (.Name x p) X.env) :: backTo pos (starEach es X.env))) _ _ s
  refine Calls.spliced_cons (Calls.Name_function_global I.ok.kind hg (Calls.loadGlobal_global (by rw [I.ok.glob]; exact I.mod.glob.keeps I.bk) hm ?_) hd)
  exact hr A E pos pins σ H s _ I h

section
variable {X : Cx}
def tTry (K : PySem.W.Frag) (cs : List Value) (i : Nat) (tb : XKS → TS) (ts : TS) : TS := fun D σ H =>
  tb (fun σ' cls ea H' => ∃ a C, cls = .ref C ∧ ea = some a ∧ matchIn K C cs = some true ∧
    ts { nx := fun σ'' H'' => D.nx (σ''.set i none) H'', rt := D.rt, bk := fun σ'' H'' => D.bk (σ''.set i none) H'', ct := fun σ'' H'' => D.ct (σ''.set i none) H'' } (σ'.set i (some (.ref a))) H') D σ H
theorem ps_try {body suite : List Stmt} {b₀ : Stmt} {n : Str} {i : Nat} {es : List Expr} {cs : List Value} {k1 p1 hpos pos} {tb : XKS → TS} {ts : TS} (hst : X.stack = X.env :: X.outer ∧ X.env.frame = some X.env.locals)
    (hN : X.N.Nodup) (hi : X.N[i]? = some n) (hl : X.env.scope.names.lookup n = some .local) (hes : PN X es cs) (hcs : cs.length ≤ 1000)
    (hb : ∀ E' pn' EE, XOk (X.body E' pn') EE → PSs (X.body E' pn') body (tb EE)) (hs : ∀ a, PSs (X.hand (.ref a) fun _ _ => False) (b₀ :: suite) ts) :
    PS X (.Try body [.ExceptHandler (some (.Tuple es k1 p1)) (some n) (b₀ :: suite) hpos] [] [] pos) (tTry X.K cs i tb ts) := by
  intro pins s σ H D I h
  refine wpAny_Try_except ?_
  have fin : ∀ {f : Flow} {s1 : Shared}, SP X pins D f s1 → (match f with | .next => wpAny (model X.prog X.w) X.A (execs [] X.env) (SP X pins D) X.xe s1 | f => SP X pins D f s1) := fun {f s1} hsp => by
    cases f <;> first | exact hsp | exact wpAny_execs_nil hsp
  refine wpAny_mono (hb _ (X.pn ++ pins) _ ?_ [] s σ H D (I.tob _) h) (fun f s1 hsp => fin ?_) fun e s1 z => z
  · -- what is wanted of exceptions
    intro pins' σ' H' s' e C I' T q
    obtain ⟨ex, lo, tb', F, hT⟩ := T
    have I1 : Inv X pins σ' H' s' := I'.ofb
    have hT1 : ∀ T, tb' = some T → H' T = none ∧ X.s₀.heap.objs.size ≤ T ∧ ∀ p ∈ X.pn ++ pins, p.1 ≠ T := fun T z => ⟨(hT T z).1, (hT T z).2.1, fun p hp => (hT T z).2.2 p (List.mem_append_left _ hp)⟩
    have tbd : ∀ T, tb' = some T → ∃ oT ts, s'.heap.get? T = some oT ∧ oT.data = .fields ts := fun T z => by
      subst z
      obtain ⟨_, _, oT, ts, _, _, _, _, g1, g2, _⟩ := F
      exact ⟨oT, ts, g1, g2⟩
    obtain ⟨dd, ex'⟩ := id ex
    obtain ⟨oe, vs, t0, he, hc, hdd, hd, h0, hsz, _⟩ := exo_get I1.hok ex'
    have hfr : X.A.frames = some (X.env :: X.outer) := by rw [I1.ok.frames, hst.1]
    have hfl : s'.heap.FunFrames X.base (X.env :: X.outer) := by rw [← hst.1]; exact I1.stack
    show wpAny (model X.prog X.w) X.A (noteFrame (.ref e) X.env) _ X.xe s'
    refine note_fly (L := X.env.locals) hfr hfl hst.2 F (fun oe' vs' a b => by rw [he] at a; cases a; rw [hd] at b; cases b; exact hsz) fun h' T' S hle FF => ?_
    refine land_fly (s := { s' with heap := h' }) FF fun h'' oth F2 => ?_
    have I2 : Inv X pins σ' H' { s' with heap := h'' } := I1.landed ex hT1 tbd (by rw [hst.1]; exact S) hle oth
    obtain ⟨a, C', ec, ea, hm, hk⟩ := q
    cases ec
    cases ea
    obtain ⟨oe2, vs2, t2, he2, hc2, _⟩ := exo_get I2.hok ex'
    refine wpAny_handleBy_cons (codeAny_handlers_test ?_) (by intro q; cases q)
    refine wpAny_Tuple_spliced (hes _ _ _ pins σ' H' _ _ I2 ⟨by rw [sizeLine_eq]; omega, ?_⟩)
    -- the tuple of classes is laid
    have I3 : Inv X pins σ' H' { s' with heap := h''.push { cls := .type "tuple", data := .seq cs.toArray } } := I2.kept (t' := s'.toks) fun b u z => Heap.get?_push_of_some _ z
    have he3 := Heap.get?_push_of_some { cls := .type "tuple", data := .seq cs.toArray } he2
    have F3 : Fly (h''.push { cls := .type "tuple", data := .seq cs.toArray }) e .none (some T') := by
      obtain ⟨o1, v1, o2, v2, g1, g2, g3, g4, g5, g6, g7⟩ := F2
      exact ⟨o1, v1, o2, v2, Heap.get?_push_of_some _ g1, g2, g3, g4, Heap.get?_push_of_some _ g5, g6, g7⟩
    have LT : PySem.W.Looks (model X.prog X.w) (h''.push { cls := .type "tuple", data := .seq cs.toArray }) (typeOf (.ref e)) (.ref C) := hc2 ▸ (PySem.W.Looks.ld he3).andThen .now
    refine matches_tup (s := { s' with heap := h''.push { cls := .type "tuple", data := .seq cs.toArray } }) I3.kIn LT ⟨_, Heap.get?_push_size _ rfl, rfl, _, rfl⟩ hm ?_
    apply codeAny_handlers_suite_as
    refine land_fly (s := { s' with heap := h''.push { cls := .type "tuple", data := .seq cs.toArray } }) F3 fun h4 oth4 F4 => ?_
    have I4 : Inv X pins σ' H' { s' with heap := h4 } := by
      refine I3.turned (t' := s'.toks) (fun b o hb z => (oth4 b hb).trans z) (I1.hok.fresh hle) (Nat.ne_of_gt (Nat.lt_of_lt_of_le I1.lt hle)) (.inr (Nat.le_trans I1.sz hle)) (fun x c hx => ?_) fun p hp => ?_
      · obtain ⟨v, o, ho, _⟩ := I1.cell x c hx
        exact Nat.ne_of_lt (Nat.lt_of_lt_of_le (Heap.lt_size ho) hle)
      · exact Nat.ne_of_lt (Nat.lt_of_lt_of_le (Heap.lt_size (I1.pin p hp).1) hle)
    refine store_ok (s := { s' with heap := h4 }) I4 hN hi (.inl hl) (v := .ref e) rfl (fun s5 I5 => ?_) (.inr hl)
    refine wpAny_mono (PSs.nox (X := X.hand (.ref e) _) (hs e) pins s5 _ _ _ (I5.toh _ _) hk) (fun f s6 hsp => ?_) fun x s6 z => z
    show wpAny _ _ _ _ _ _
    cases f with
    | next =>
      obtain ⟨σ6, H6, J, z⟩ := hsp
      exact goes_ok (J.ofh I.ok.hd) hN hi hl fun s7 I7 => ⟨_, _, I7, z⟩
    | brk =>
      obtain ⟨σ6, H6, J, z⟩ := hsp
      exact goes_ok (J.ofh I.ok.hd) hN hi hl fun s7 I7 => ⟨_, _, I7, z⟩
    | cont =>
      obtain ⟨σ6, H6, J, z⟩ := hsp
      exact goes_ok (J.ofh I.ok.hd) hN hi hl fun s7 I7 => ⟨_, _, I7, z⟩
    | ret u =>
      obtain ⟨v, σ6, H6, J, rv, z⟩ := hsp
      exact goes_ok (J.ofh I.ok.hd) hN hi hl fun s7 I7 => ⟨v, _, _, I7, rv, z⟩
  · cases f with
    | next => obtain ⟨σ6, H6, J, z⟩ := hsp; exact ⟨σ6, H6, J.ofb, z⟩
    | brk => obtain ⟨σ6, H6, J, z⟩ := hsp; exact ⟨σ6, H6, J.ofb, z⟩
    | cont => obtain ⟨σ6, H6, J, z⟩ := hsp; exact ⟨σ6, H6, J.ofb, z⟩
    | ret u => obtain ⟨v, σ6, H6, J, rv, z⟩ := hsp; exact ⟨v, σ6, H6, J.ofb, rv, z⟩
end
end
end L2
end

section
set_option Elab.async false
set_option linter.all false
set_option maxRecDepth 100000
set_option maxHeartbeats 5000000
namespace L2
open PySem PySem.Spec PyProof.Rows Ex

/-! ## list comprehensions -/
/-- the cells that a comprehension takes along -/
structure Clo (env : Env) (scope : Scope) (cl : List (Str × Addr)) : Prop where
  clos : closureFor scope env = pure cl
  sub : ∀ x c, cl.lookup x = some c → env.cells.lookup x = some c
  has : ∀ x, (x, NameKind.free) ∈ scope.names → ∃ c, cl.lookup x = some c
theorem lookup_mem {α : Type} {x : Str} {c : α} : ∀ {l : List (Str × α)}, l.lookup x = some c → (x, c) ∈ l
  | [], h => by simp at h
  | (y, d) :: r, h => by
    rw [List.lookup_cons] at h
    split at h
    · rename_i q
      cases h
      rw [beq_iff_eq.mp q]
      exact List.mem_cons_self ..
    · exact List.mem_cons_of_mem _ (lookup_mem h)
theorem mem_lookup {α : Type} {x : Str} {c : α} : ∀ {l : List (Str × α)}, (x, c) ∈ l → ∃ d, l.lookup x = some d
  | [], h => nomatch h
  | (y, d) :: r, h => by
    rw [List.lookup_cons]
    split
    · exact ⟨d, rfl⟩
    · rename_i q
      rcases List.mem_cons.mp h with z | z
      · cases z; simp at q
      · exact mem_lookup z
theorem clo_of {env : Env} {scope : Scope} (h : ∀ x, (x, NameKind.free) ∈ scope.names → ∃ c, env.cells.lookup x = some c) : ∃ cl, Clo env scope cl := by
  have go : ∀ (names : List (Str × NameKind)) (cs : List (Str × Addr)), (∀ x, (x, NameKind.free) ∈ names → ∃ c, env.cells.lookup x = some c) →
      ∃ cl, (forIn (m := Sem) names cs fun x r => (match x with | (name, kind) => if (kind == NameKind.free) = true then do let a ← cellOf env name; pure (ForInStep.yield ((name, a) :: r)) else pure (ForInStep.yield r))) = pure cl ∧
        (∀ y c, (y, c) ∈ cl → (y, c) ∈ cs ∨ env.cells.lookup y = some c) ∧ (∀ y c, (y, c) ∈ cs → (y, c) ∈ cl) ∧ (∀ y, (y, NameKind.free) ∈ names → ∃ c, (y, c) ∈ cl) := by
    intro names
    induction names with
    | nil => intro cs _; exact ⟨cs, rfl, fun _ _ z => .inl z, fun _ _ z => z, fun _ z => nomatch z⟩
    | cons p r ih =>
      intro cs hh
      obtain ⟨y, k⟩ := p
      by_cases hk : k = .free
      · subst hk
        obtain ⟨c, hc⟩ := hh y (List.mem_cons_self ..)
        obtain ⟨cl, e, h1, h2, h3⟩ := ih ((y, c) :: cs) fun x hx => hh x (List.mem_cons_of_mem _ hx)
        refine ⟨cl, ?_, fun z d hz => ?_, fun z d hz => h2 z d (List.mem_cons_of_mem _ hz), fun z hz => ?_⟩
        · have ec : cellOf env y = pure c := by simp only [cellOf, hc]
          rw [List.forIn_cons]
          simp only [beq_self_eq_true, if_true, ec, pure_bind]
          exact e
        · rcases h1 z d hz with q | q
          · rcases List.mem_cons.mp q with q | q
            · cases q; exact .inr hc
            · exact .inl q
          · exact .inr q
        · rcases List.mem_cons.mp hz with q | q
          · cases q; exact ⟨c, h2 _ _ (List.mem_cons_self ..)⟩
          · exact h3 z q
      · obtain ⟨cl, e, h1, h2, h3⟩ := ih cs fun x hx => hh x (List.mem_cons_of_mem _ hx)
        refine ⟨cl, ?_, h1, h2, fun z hz => ?_⟩
        · rw [List.forIn_cons]
          have : (k == NameKind.free) = false := by simpa using hk
          simp only [this, Bool.false_eq_true, if_false, pure_bind]
          exact e
        · rcases List.mem_cons.mp hz with q | q
          · cases q; exact absurd rfl hk
          · exact h3 z q
  obtain ⟨cl, e, h1, h2, h3⟩ := go scope.names [] h
  refine ⟨cl, ?_, fun x c hx => ?_, fun x hx => ?_⟩
  · unfold closureFor
    first
      | exact e
      | (show (forIn (m := Sem) scope.names ([] : List (Str × Addr)) _ >>= fun r => pure r) = pure cl; rw [bind_pure]; exact e)
      | (rw [bind_pure]; exact e)
      | (trace_state; fail "x")
  · exact (h1 x c (lookup_mem hx)).elim (fun z => nomatch z) id
  · obtain ⟨c, hc⟩ := h3 x hx
    exact mem_lookup hc
end L2
end

section
set_option Elab.async false
set_option linter.all false
set_option maxRecDepth 100000
set_option maxHeartbeats 5000000
namespace Ex
open PySem PySem.Spec PyProof.Rows
/-- what a turn of a comprehension does with an item -/
abbrev Turned (M : Model) (A : Around) (env : Env) (tg : Expr) (it : Value) (ifs : List Expr) (el : Expr) (acc : Value) (N : Value → Shared → Prop) (next : Shared → Prop) (v : Value) (s : Shared) : Prop :=
  wpAny M A (letOwnedTupleGo tg it v) (fun _ a => wpAny M A (assign tg env v) (fun _ b =>
    wpAny M A (forIn ifs true fun c r => if r = true then do let ok ← isTrue c env (eval c env); pure (ForInStep.yield ok) else pure (ForInStep.yield r)) (fun yes c =>
      if yes = true then wpAny M A (eval el env) (fun y d => wpAny M A (call (.builtin "list.append") [acc, y]) (fun _ => next) N d) N c else next c) N b) N a) N s
theorem comp_loop {prog : Program} {w : World} {A : Around} {R : Result → Shared → Prop} {s : Shared} {el tg src : Expr} {ifs : List Expr} {sc : Scope} {pos : Pos} {it acc : Value} {env : Env} (J : Nat → Shared → Prop) (n : Nat) (start : J n s)
    (turn : ∀ n s, J n s → wpAny (model prog w) A (pyNext it) (fun r a => match r with
      | none => R (.ok .next) a
      | some v => Turned (model prog w) A env tg it ifs el acc (notedBy (model prog w) A env fun x => R (.error x)) (fun b => ∃ m, m < n ∧ J m b) v a) (notedBy (model prog w) A env fun x => R (.error x)) s) :
    codeAny (model prog w) A (.compLoop (.ListComp el [⟨tg, src, ifs, 0⟩] sc pos) 0 it acc env) R s := by
  apply codeAny_loop rfl J _ n start
  intro n s j
  change wpAny _ A (Sem.onRaise (compTurn (.ListComp el [⟨tg, src, ifs, 0⟩] sc pos) 0 it acc env) fun x => do noteFrame x env; theTreesLotGoes x) _ _ s
  apply wpAny_noted; rw [compTurn_list]
  apply wpAny_bind; apply wpAny_standAt; apply wpAny_bind; apply wpAny_mono (turn n s j) _ fun _ _ z => z
  intro r a k
  cases r with
  | none => exact wpAny_pure k
  | some v =>
    apply wpAny_bind; apply wpAny_mono k _ fun _ _ z => z; intro _ b k
    apply wpAny_bind; apply wpAny_mono k _ fun _ _ z => z; intro _ c k
    apply wpAny_bind; apply wpAny_mono k _ fun _ _ z => z; intro yes d k
    cases yes
    · exact wpAny_pure (And.intro rfl k)
    · apply wpAny_bind; apply wpAny_bind; apply wpAny_mono k _ fun _ _ z => z; intro y e k
      apply wpAny_bind; apply wpAny_mono k _ fun _ _ z => z; intro _ f k
      exact wpAny_pure (wpAny_pure (And.intro rfl k))
end Ex
namespace L2
open PySem PySem.Spec PyProof.Rows Ex

/-- the context of a comprehension's block -/
abbrev Cx.blk (X : Cx) (Nc : List Str) (scope : Scope) (cl : List (Str × Addr)) (C : Addr) (s3 : Shared) (H3 : Hp) (fp : List Addr) (pn' : List (Addr × Obj)) (E' : Value → Shared → Prop) : Cx :=
  { X with N := Nc, s₀ := s3, H₀ := H3, env := compEnvC scope cl C X.env, outer := X.stack, ex := fp, fn := fun _ => false, pn := pn', xe := E' }
def compσ (fr : List Nat) (own : Nat) (σ : St) : St := List.replicate own none ++ fr.map fun j => (σ[j]?).join
/-- the names of a block: its own ones first, then those it takes along, with their slots outside -/
structure BlkN (X : Cx) (scope : Scope) (Nc : List Str) (own : Nat) (fr : List Nat) : Prop where
  len : Nc.length = own + fr.length
  free : ∀ (k j : Nat) (x : Str), fr[k]? = some j → Nc[own + k]? = some x → X.N[j]? = some x ∧ (X.env.scope.names.lookup x = some .cell ∨ X.env.scope.names.lookup x = some .free) ∧ scope.names.lookup x = some .free
  kind : scope.kind = .function
  nocell : ∀ y ∈ scope.names, y.2 ≠ .cell
  names : ∀ x ∈ scope.names, x.2 = .local → scope.names.lookup x.1 = some .local
  frees : ∀ x, (x, NameKind.free) ∈ scope.names → X.env.scope.names.lookup x = some .cell ∨ X.env.scope.names.lookup x = some .free
def PTs (X : Cx) (ifs : List Expr) (t : TT) : Prop :=
  ∀ (pins : List (Addr × Obj)) (s : Shared) (σ : St) (H : Hp) (Q : Bool → Hp → Prop), Inv X pins σ H s → t σ H Q →
    wpAny (model X.prog X.w) X.A (forIn ifs true fun c r => if r = true then do let ok ← isTrue c X.env (eval c X.env); pure (ForInStep.yield ok) else pure (ForInStep.yield r)) (TP X pins σ Q) X.xe s
theorem pts_nil {X : Cx} : PTs X [] (fun _ H Q => Q true H) := fun _ _ _ H _ I h => wpAny_tests_nil ⟨H, I, h⟩
def tLC (fr : List Nat) (own : Nat) (wi : TI) (g : TG) (tc : TT) (te : TE) : TE := fun σ H Q => wi σ H fun J H1 => ∀ D, H1 D = none → ∃ W : Nat → Nat → List V → Hp → Prop, (∃ m, W 0 m [] (upd H1 D (.lst []))) ∧
  ∀ i m ys H2, H2 D = some (.lst ys) → W i m ys H2 → (J.stop i H2 ∧ Q (.ref D) H2) ∨ (J.go i H2 ∧ ys.length < sizeLine ∧ ∀ x H3, J.yld i H2 x H3 → g x (compσ fr own σ) H3 fun σ4 H4 => tc σ4 H4 fun b H5 =>
    if b = true then te σ4 H5 fun y H6 => H6 D = some (.lst ys) ∧ ∃ m', m' < m ∧ W (i + 1) m' (ys ++ [y]) (upd H6 D (.lst (ys ++ [y]))) else H5 D = some (.lst ys) ∧ ∃ m', m' < m ∧ W (i + 1) m' ys H5)

theorem relabel_kind {scope : Scope} {env : Env} {x : Str} (hn : ∀ y ∈ scope.names, y.2 ≠ .cell) {k : NameKind} (h : (relabel scope env).names.lookup x = some k) (hk : k = .cell ∨ k = .free) : (x, NameKind.free) ∈ scope.names := by
  have m := lookup_mem h
  obtain ⟨⟨y, k'⟩, hy, e⟩ := List.mem_map.mp m
  dsimp only at e
  split at e
  · rename_i q
    rw [Bool.and_eq_true, Bool.and_eq_true] at q
    have q11 := beq_iff_eq.mp q.1.1
    cases e
    rw [q11] at hy
    exact hy
  · cases e
    rcases hk with rfl | rfl
    · exact absurd rfl (hn _ hy)
    · exact hy
theorem relabel_free {scope : Scope} {env : Env} {x : Str} (h : scope.names.lookup x = some .free) : (relabel scope env).names.lookup x = some .cell ∨ (relabel scope env).names.lookup x = some .free := by
  unfold relabel
  dsimp only
  generalize scope.names = l at h
  induction l with
  | nil => simp at h
  | cons p r ih =>
    obtain ⟨y, k⟩ := p
    rw [List.lookup_cons] at h
    rw [List.map_cons, ]
    split at h
    · rename_i q
      cases h
      dsimp only
      split
      · rw [List.lookup_cons, q]; exact .inl rfl
      · rw [List.lookup_cons, q]; exact .inr rfl
    · rename_i q
      dsimp only
      split
      · rw [List.lookup_cons, q]; exact ih h
      · rw [List.lookup_cons, q]; exact ih h
end L2
end

section
set_option Elab.async false
set_option linter.all false
set_option maxRecDepth 100000
set_option maxHeartbeats 5000000
namespace L2
open PySem PySem.Spec PyProof.Rows Ex
section
variable {X : Cx} {pins : List (Addr × Obj)} {σ : St} {H : Hp} {s : Shared}

/-- the block's start -/
theorem Inv.block {scope : Scope} {Nc : List Str} {own : Nat} {fr : List Nat} {cl : List (Str × Addr)} {fp : List Addr} {h₁ : Heap} {t' : Nat} {E' : Value → Shared → Prop} (I : Inv X pins σ H s) (B : BlkN X scope Nc own fr) (cl0 : Clo X.env scope cl)
    (hfp : ∀ b ∈ fp, FpOk X pins H b ∧ ∃ o, s.heap.get? b = some o) (hns : h₁.Ns s.heap.objs.size (fun _ => none)) (keep : ∀ b o, s.heap.get? b = some o → h₁.get? b = some o) :
    Inv (X.blk Nc scope cl s.heap.objs.size s H fp (X.pn ++ pins) E') [] (compσ fr own σ) H { s with heap := h₁, toks := t' } := by
  have lt : ∀ b ∈ fp, b < s.heap.objs.size := fun b hb => let ⟨_, _, e⟩ := hfp b hb; Heap.lt_size e
  have celllt : ∀ x c, X.env.cells.lookup x = some c → c < s.heap.objs.size := fun x c e => let ⟨_, _, e, _⟩ := I.cell x c e; Heap.lt_size e
  refine ⟨⟨I.ok.mod, B.kind, I.ok.glob, I.ok.blt, Nat.le_refl _, fun x y c h1 h2 => I.ok.inj x y c (cl0.sub x c h1) (cl0.sub y c h2), fun x hx => ?_, (fun x c z => nomatch z), I.ok.hd, I.ok.frames, .inl rfl, fun b hb => ?_, I.bs, Nat.le_trans I.ok.bsz I.sz, fun b o e hb => ?_, fun b hb => ?_, I.stack, I.stkFree⟩,
    rfl, I.bare, Un.kept keep, ⟨_, hns, fun i x v e1 e2 e3 => ?_⟩, fun x c e => ?_, I.hok.fresh (Nat.le_refl _), fun x c e => I.freeC x c (cl0.sub x c e), fun p hp => ?_, I.hok.kept keep, ?_⟩
  · rcases hx with hx | hx
    · exact cl0.has x (relabel_kind B.nocell hx (.inl rfl))
    · exact cl0.has x (relabel_kind B.nocell hx (.inr rfl))
  · exact ⟨Nat.ne_of_lt (lt b hb), fun x c e z => (hfp b hb).1.2.2.2.2.1 x c (cl0.sub x c e) z⟩
  · -- a base object is no iterator of ours
    have e0 := I.ok.bs b o e
    rcases (hfp b hb).1.2.2.2.1 with z | z
    · exact I.ok.noex b o e z
    · exact absurd (Nat.lt_of_lt_of_le (Nat.lt_of_lt_of_le (Heap.lt_size e) I.ok.bsz) z) (Nat.lt_irrefl _)
  · intro z
    rcases List.mem_cons.mp (I.stkSub b z) with z | z
    · exact (hfp b hb).1.2.1 z
    · exact (hfp b hb).1.2.2.1 z
  · -- a slot
    unfold compσ at e2
    by_cases hi : i < own
    · rw [List.getElem?_append_left (by simpa using hi), List.getElem?_replicate, if_pos hi] at e2
      cases e2
    · have hge : own ≤ i := Nat.le_of_not_lt hi
      rw [List.getElem?_append_right (by simpa using hge), List.length_replicate, List.getElem?_map] at e2
      cases hj : fr[i - own]? with
      | none => rw [hj] at e2; cases e2
      | some j =>
        rw [hj] at e2
        have e2' : (σ[j]?).join = some v := by simpa using e2
        have e4 : σ[j]? = some (some v) := by
          cases q : σ[j]? with
          | none => rw [q] at e2'; cases e2'
          | some o => rw [q] at e2'; have : o = some v := e2'; rw [this]
        have e5 : Nc[own + (i - own)]? = some x := by rw [Nat.add_sub_cancel' hge]; exact e1
        obtain ⟨n1, n2, n3⟩ := B.free (i - own) j x hj e5
        obtain ⟨m, hn, hl⟩ := I.loc
        have vis : Vis X.env.scope x := n2.elim (fun z => .inr (.inl z)) fun z => .inr (.inr z)
        obtain ⟨u, r, l⟩ := hl j x v n1 e4 vis
        refine ⟨u, r, .inr ⟨relabel_free n3, ?_⟩⟩
        rcases l with ⟨k, _⟩ | ⟨_, c, hc, hcell⟩
        · rcases n2 with n2 | n2
          · have k' : X.env.scope.names.lookup x = some .local := k
            rw [n2] at k'; cases k'
          · have k' : X.env.scope.names.lookup x = some .local := k
            rw [n2] at k'; cases k'
        · obtain ⟨c', hc'⟩ := cl0.has x (lookup_mem n3)
          have e6 := cl0.sub x c' hc'
          rw [hc] at e6
          cases e6
          obtain ⟨o, ho, hd⟩ := hcell
          exact ⟨c, hc', o, keep _ _ ho, hd⟩
  · obtain ⟨v, o, ho, hd⟩ := I.cell x c (cl0.sub x c e)
    exact ⟨v, o, keep _ _ ho, hd⟩
  · have hp' : p ∈ X.pn ++ pins := by simpa using hp
    obtain ⟨e, n, ne, nf, d⟩ := I.pin p hp'
    refine ⟨keep _ _ e, n, Nat.ne_of_lt (Heap.lt_size e), fun z => ?_, d⟩
    rcases List.mem_cons.mp (I.stkSub p.1 z) with z | z
    · exact ne z
    · exact nf z
  · show (compσ fr own σ).length = Nc.length
    unfold compσ
    rw [List.length_append, List.length_replicate, List.length_map, B.len]

/-- the block's end -/
theorem Inv.unblock {scope : Scope} {Nc : List Str} {cl : List (Str × Addr)} {fp : List Addr} {E' : Value → Shared → Prop} {pins' : List (Addr × Obj)} {σ' : St} {H' : Hp} {s' : Shared} {h' : Heap} (I : Inv X pins σ H s) (hfp : ∀ b ∈ fp, FpOk X pins H b)
    (J : Inv (X.blk Nc scope cl s.heap.objs.size s H fp (X.pn ++ pins) E') pins' σ' H' s') (sb : Heap.SameBut s.heap.objs.size s'.heap h') : Inv X pins σ H' { s' with heap := h' } := by
  have ne : ∀ b o, s.heap.get? b = some o → b ≠ s.heap.objs.size := fun b o e => Nat.ne_of_lt (Heap.lt_size e)
  have hC : H' s.heap.objs.size = none := J.free
  refine I.call' (s' := { s' with heap := h' }) (ch := fp) J.os ⟨fun b o e n hb hx => ?_, fun b o e n hb hx => ?_, J.base.free, fun b o e hx => ?_, J.base.tups, J.base.frzs, J.base.tbls⟩ (fun b u e => ?_) J.bare fun b hb => ?_
  · exact (sb.2 b (ne b o e)).trans (J.base.keep b o e n hb hx)
  · obtain ⟨sl, z⟩ := J.base.slot b o e n hb hx
    exact ⟨sl, (sb.2 b (ne b o e)).trans z⟩
  · obtain ⟨o', z⟩ := J.base.there b o e hx
    exact ⟨o', (sb.2 b (ne b o e)).trans z⟩
  · refine (J.hok b u e).stay (fun c v hc q => (sb.2 c ?_).trans q) (fun _ q => q) fun _ _ q => q
    rintro rfl
    rcases hc with rfl | hc
    · rw [hC] at e; cases e
    · rw [hC] at hc; cases hc
  · obtain ⟨f0, f1, f2, f3, f4, f5⟩ := hfp b hb
    exact ⟨f3, f1, f4, f5⟩

/-- the targets are the block's own names -/
def OwnG (own : Nat) (g : TG) : Prop := ∀ (x : V) (σ : St) (H : Hp) (Q : St → Hp → Prop), g x σ H Q → g x σ H fun σ' H' => Q σ' H' ∧ ∀ k, own ≤ k → σ'[k]? = σ[k]?
def OwnGs (own : Nat) (g : TGs) : Prop := ∀ (x : List V) (σ : St) (H : Hp) (Q : St → Hp → Prop), g x σ H Q → g x σ H fun σ' H' => Q σ' H' ∧ ∀ k, own ≤ k → σ'[k]? = σ[k]?
theorem own_name {own i : Nat} (h : i < own) : OwnG own (gName i) := fun x σ H Q q => ⟨q, fun k hk => List.getElem?_set_ne (by omega)⟩
theorem own_nil {own : Nat} : OwnGs own gNil := fun x σ H Q q => ⟨q.1, q.2, fun _ _ => rfl⟩
theorem own_cons {own i : Nat} {u : TGs} (h : i < own) (hu : OwnGs own u) : OwnGs own (gCons (gName i) u) := fun x σ H Q q => by
  obtain ⟨v, r, e, q⟩ := q
  refine ⟨v, r, e, ?_⟩
  have q' := hu r _ H _ q
  have e2 : (fun σ' H' => Q σ' H' ∧ ∀ k, own ≤ k → σ'[k]? = (σ.set i (some v))[k]?) = (fun σ' H' => Q σ' H' ∧ ∀ k, own ≤ k → σ'[k]? = σ[k]?) := by
    funext σ' H'
    apply propext
    constructor
    · rintro ⟨a, b⟩
      exact ⟨a, fun k hk => by rw [b k hk, List.getElem?_set_ne (by omega)]⟩
    · rintro ⟨a, b⟩
      exact ⟨a, fun k hk => by rw [b k hk, List.getElem?_set_ne (by omega)]⟩
  rw [e2] at q'
  exact q'
theorem own_tup {own n : Nat} {K : PySem.W.Frag} {u : TGs} (hu : OwnGs own u) : OwnG own (gTup K n u) := fun x σ H Q q => by
  obtain ⟨a, xs, e1, e2, e3, q⟩ := q
  exact ⟨a, xs, e1, e2, e3, hu xs σ H Q q⟩
end
end L2
end

section
set_option Elab.async false
set_option linter.all false
set_option maxRecDepth 100000
set_option maxHeartbeats 5000000
namespace L2
open PySem PySem.Spec PyProof.Rows Ex

section
variable {X : Cx}
/-! ## list.count, list.index of flat values -/
theorem count_eqU {y : V} : ∀ {xs : List V} {us : List Value}, Vals xs us → xs.all flatV = true → us.countP (eqU y) = xs.countP fun z => eqV z y
  | _, _, .nil, _ => rfl
  | _, _, .cons r t, h => by
    have h := Bool.and_eq_true_iff.mp ((List.all_cons ..).symm.trans h)
    rw [List.countP_cons, List.countP_cons, count_eqU t h.2, eqU_of r h.1]
def rCount : V → List V → Hp → VK → Prop := fun x vs H Q => ∃ l xs y, x = .ref l ∧ vs = [y] ∧ H l = some (.lst xs) ∧ flatV y = true ∧ xs.all flatV = true ∧ Q (.int (xs.countP fun z => eqV z y)) H
theorem mt_count : MtR X "list.count" rCount := by
  intro pins s σ H x vs v us Q I rx rv h
  obtain ⟨l, xs, y, rfl, rfl, hH, fy, fx, q⟩ := h
  cases rx
  obtain ⟨u, rfl, ru⟩ := rv.one
  obtain ⟨z, its, n, r, hl, e⟩ := I.lstM hH
  refine call_meets (s := s) F.slot_list_count (show s.TypeIs (.ref l) "list" from ⟨_, e, rfl⟩) F.entry_list_count (F.args_list_count_2 _ _) (SeqAt.list_countAt l its.toArray n none #[] u (eqU y)) ?_
  refine ⟨e, fun w hw => mem_eqAt ru fy r fx w (by simpa using hw), ?_⟩
  refine ⟨.int (xs.countP fun z => eqV z y), H, I.tok _, ⟨s.toks, ?_⟩, q⟩
  rw [← count_eqU r fx]
def rIndex : V → List V → Hp → VK → Prop := fun x vs H Q => ∃ l xs y j, x = .ref l ∧ vs = [y] ∧ H l = some (.lst xs) ∧ flatV y = true ∧ xs.all flatV = true ∧ (∃ w, xs[j]? = some w ∧ eqV w y = true) ∧ (∀ (m : Nat) w, m < j → xs[m]? = some w → eqV w y = false) ∧ j < 1000 ∧ Q (.int j) H
theorem eqU_at {y : V} {xs : List V} {us : List Value} (r : Vals xs us) (f : xs.all flatV = true) {m : Nat} {w : V} (h : xs[m]? = some w) : ∃ hm : m < us.length, eqU y us[m] = eqV w y := by
  obtain ⟨u, hu, ru⟩ := r.get h
  obtain ⟨hm, e⟩ := List.getElem?_eq_some_iff.mp hu
  exact ⟨hm, by rw [e]; exact eqU_of ru (List.all_eq_true.mp f w (List.mem_of_getElem? h))⟩
theorem mt_index : MtR X "list.index" rIndex := by
  intro pins s σ H x vs v us Q I rx rv h
  obtain ⟨l, xs, y, j, rfl, rfl, hH, fy, fx, ⟨w, hw, hit⟩, no, small, q⟩ := h
  cases rx
  obtain ⟨u, rfl, ru⟩ := rv.one
  obtain ⟨z, its, n, r, hl, e⟩ := I.lstM hH
  obtain ⟨hj, ej⟩ := eqU_at (y := y) r fx hw
  refine call_meets (s := s) F.slot_list_index (show s.TypeIs (.ref l) "list" from ⟨_, e, rfl⟩) F.entry_list_index (F.args_list_index_2 _ _) (SeqAt.list_indexAt l its.toArray n none #[] u (eqU y) j (by simpa using hj) (by omega) (by simpa [hit] using ej) ?_) ?_
  case refine_2 => exact ⟨e, fun w hw => mem_eqAt ru fy r fx w (by simpa using hw), .int j, H, I.tok _, ⟨s.toks, rfl⟩, q⟩
  case refine_1 =>
    intro m hm lt
    have hm' : m < xs.length := by rw [r.length]; simpa using hm
    obtain ⟨_, em⟩ := eqU_at (y := y) r fx (List.getElem?_eq_getElem hm')
    have := no m _ lt (List.getElem?_eq_getElem hm')
    simpa [this] using em

/-! ## all of a list of truths -/
theorem range_all (bs : List Bool) : ((List.range bs.length).all fun i => bs.getD i false) = bs.all id := by
  induction bs with
  | nil => rfl
  | cons b r ih =>
    rw [List.length_cons, List.range_succ_eq_map, List.all_cons, List.all_map, List.all_cons]
    exact congrArg (b && ·) ih
theorem call_all_bl (calm : X.calm = true) : CallR X (.builtin "all") (fun xs H Q => ∃ (p : Addr) (bs : List Bool), xs = [.ref p] ∧ H p = some (.lst (bs.map V.bl)) ∧ Q (.bl (bs.all id)) H) := by
  intro pins s σ H xs us Q I r h
  obtain ⟨p, bs, rfl, hH, q⟩ := h
  obtain ⟨u, rfl, ru⟩ := r.one
  cases ru
  obtain ⟨z, its, n, rv, hl, e⟩ := I.lstM hH
  have isL : s.heap.IsList p its.toArray := ⟨_, e, rfl, _, rfl⟩
  have ne : p ≠ s.heap.objs.size := Nat.ne_of_lt (Heap.lt_size e)
  have hA : X.A.in1.handled = none := I.ok.hd calm
  apply call_all_walk
  apply wpAny_pyIter_list isL
  refine ⟨_, _, _, _, _, _, fun i => bs.getD i false, rfl, Walks.list hA s.heap.objs.size p ne its.toArray, ⟨⟨_, Heap.get?_push_size _ rfl, rfl, rfl⟩, ?_⟩, ?_, ?_⟩
  · exact isL.push _
  · intro i v s' Q' E' hv hQ
    have hv' : its[i]? = some v := by simpa using hv
    have lt : i < bs.length := by
      have := (List.getElem?_eq_some_iff.mp hv').1
      rw [← rv.length, List.length_map] at this
      exact this
    obtain ⟨u, hu, ru⟩ := rv.get (x := .bl bs[i]) (by rw [List.getElem?_map, List.getElem?_eq_getElem lt]; rfl)
    rw [hv'] at hu
    cases hu
    cases (show v = Value.bool bs[i] from ru)
    have eb : bs.getD i false = bs[i] := by simp [List.getD, lt]
    dsimp only at hQ
    rw [eb] at hQ
    exact wpAny_pure hQ
  · intro h' tk kp
    refine ⟨.bl (bs.all id), H, I.kept fun b o z => kp b o ?_ (Heap.get?_push_of_some _ z), ?_, q⟩
    · have : b ≠ s.heap.objs.size := Nat.ne_of_lt (Heap.lt_size z)
      simpa using this
    · have el : its.toArray.size = bs.length := by rw [List.size_toArray, ← rv.length, List.length_map]
      show Value.bool _ = Value.bool _
      rw [el, range_all]

/-! ## repr of plain data -/
mutual
/-- the data that a value is, on the abstract heap -/
inductive DatV (H : Hp) : V → PyData → Prop
  | non : DatV H .non .none
  | bl (b : Bool) : DatV H (.bl b) (.bool b)
  | int (i : Int) : DatV H (.int i) (.int i)
  | str (x : Str) : DatV H (.str x) (.str x)
  | lst {a : Addr} {xs : List V} {ds : List PyData} : H a = some (.lst xs) → DatsV H xs ds → DatV H (.ref a) (.list ds)
  | tup {a : Addr} {xs : List V} {ds : List PyData} : H a = some (.tup xs) → DatsV H xs ds → DatV H (.ref a) (.tuple ds)
inductive DatsV (H : Hp) : List V → List PyData → Prop
  | nil : DatsV H [] []
  | cons {x : V} {d : PyData} {xs : List V} {ds : List PyData} : DatV H x d → DatsV H xs ds → DatsV H (x :: xs) (d :: ds)
end
mutual
theorem DatV.reads {P : Program} {w : World} {H : Hp} {h : Heap} (ok : HOk P w H h) : ∀ {x : V} {d : PyData} {u : Value}, DatV H x d → RelV x u → ∃ as, Reads h u d as
  | _, _, _, .non, r => by cases r; exact ⟨_, .none⟩
  | _, _, _, .bl b, r => by cases r; exact ⟨_, .bool b⟩
  | _, _, _, .int i, r => by obtain ⟨t, rfl⟩ := r; exact ⟨_, .int i t⟩
  | _, _, _, .str x, r => by obtain ⟨t, rfl⟩ := r; exact ⟨_, .str x t⟩
  | _, _, _, .lst e D, r => by
    cases r
    obtain ⟨_, its, n, rv, q⟩ := ok _ _ e
    obtain ⟨as, R⟩ := DatsV.reads ok D rv
    exact ⟨_, .list q rfl rfl R⟩
  | _, _, _, .tup e D, r => by
    cases r
    obtain ⟨_, its, rv, o, q, c, n, d⟩ := ok _ _ e
    obtain ⟨as, R⟩ := DatsV.reads ok D rv
    exact ⟨_, .tuple q c d R⟩
theorem DatsV.reads {P : Program} {w : World} {H : Hp} {h : Heap} (ok : HOk P w H h) : ∀ {xs : List V} {ds : List PyData} {us : List Value}, DatsV H xs ds → Vals xs us → ∃ as, ReadsAll h us ds as
  | _, _, _, .nil, r => by cases r; exact ⟨_, .nil⟩
  | _, _, _, .cons a b, r => by
    cases r with
    | cons r1 r2 =>
      obtain ⟨_, R1⟩ := DatV.reads ok a r1
      obtain ⟨_, R2⟩ := DatsV.reads ok b r2
      exact ⟨_, .cons R1 R2⟩
end
theorem call_repr_dat {k : Nat} (hr : Room k X.A) : CallR X (.builtin "repr") (fun xs H Q => ∃ (a : Addr) (d : PyData), xs = [.ref a] ∧ DatV H (.ref a) d ∧ d.showable = true ∧ d.hasDict = false ∧ d.depth ≤ 50 ∧ d.shown.length ≤ sizeLine ∧ Q (.str d.shown) H) := by
  intro pins s σ H xs us Q I r h
  obtain ⟨a, d, rfl, D, sh, nd, dp, sz, q⟩ := h
  obtain ⟨u, rfl, ru⟩ := r.one
  cases ru
  obtain ⟨as, R⟩ := D.reads I.hok (u := .ref a) rfl
  have un := hr.units
  exact repr_of_reads' R sh (fun z => by rw [nd] at z; cases z) hr.gd (by omega) (fun _ _ z => z) (fun h' u tk kp => ⟨.str d.shown, H, I.kept kp, ⟨u, rfl⟩, q⟩) sz
end
end L2
end

section
set_option Elab.async false
set_option linter.all false
set_option maxRecDepth 100000
set_option maxHeartbeats 5000000
namespace Ex
open PySem PySem.Spec PyProof.Rows PySem.Calls Builtin.SmallTypes

/-! ## what zip draws from -/
structure Drw (prog : Program) (w : World) (it : Addr) (fp : List Addr) (xs : Array Value) (St : Nat → Heap → Prop) : Prop where
  keep : ∀ k h h', St k h → (∀ b ∈ it :: fp, ∀ o, h.get? b = some o → h'.get? b = some o) → St k h'
  obj : ∀ k h, St k h → ∃ o vs, h.get? it = some o ∧ o.data = .fields vs
  item : ∀ (A : Around) (E : Value → Shared → Prop) (s : Shared) (k : Nat) (x : Value) (Q : Value → Shared → Prop), St k s.heap → xs[k]? = some x → (∀ h', St (k + 1) h' → Heap.SameBut it s.heap h' → Q x { s with heap := h' }) → wpAny (model prog w) A (nextOf (.ref it)) Q E s
theorem drw_list {prog : Program} {w : World} {it l : Addr} {xs : Array Value} (ne : l ≠ it) : Drw prog w it [l] xs (fun k h => h.IsListIter it l k ∧ h.IsList l xs) where
  keep := fun k h h' st kp => ⟨st.1.at fun o e => kp it (by simp) o e, st.2.at fun o e => kp l (by simp) o e⟩
  obj := fun k h st => let ⟨o, e, _, d⟩ := st.1; ⟨o, _, e, d⟩
  item := fun A E s k x Q st hx q => wpAny_nextOf_list_item st.1 st.2 hx fun h' a sb => q h' ⟨a, st.2.extBut sb.extBut ne⟩ sb
theorem drw_tuple {prog : Program} {w : World} {it l : Addr} {xs : Array Value} (ne : l ≠ it) : Drw prog w it [l] xs (fun k h => h.IsTupleIter it l k ∧ h.IsTuple l xs) where
  keep := fun k h h' st kp => ⟨let ⟨o, e, r⟩ := st.1; ⟨o, kp it (by simp) o e, r⟩, let ⟨o, e, r⟩ := st.2; ⟨o, kp l (by simp) o e, r⟩⟩
  obj := fun k h st => let ⟨o, e, _, d⟩ := st.1; ⟨o, _, e, d⟩
  item := fun A E s k x Q st hx q => by
    obtain ⟨st1, st2⟩ := st
    obtain ⟨o, ho, hc, hd⟩ := id st1
    obtain ⟨ol, hol, _, nl, hdl⟩ := id st2
    delta nextOf
    apply wpAny_bind
    apply wpAny_callSpecial?_slot (name := Str.ofString "__next__") st1.typeIs F.slot_tuple_iterator_next
    apply wpAny_call_entry F.slot_tuple_iterator_next st1.typeIs F.entry_tuple_iterator_next _ (F.args_tuple_iterator_next_1 _)
    change wpAny _ _ (field (.ref it) 0 >>= _) _ _ _
    apply wpAny_bind; apply wpAny_field ho hd (x := .ref l) rfl
    change wpAny _ _ (if (Value.ref l == Value.none) = true then _ else _) _ _ _
    rw [if_neg (by intro z; cases beq_iff_eq.mp z)]
    change wpAny _ _ (field (.ref it) 1 >>= _) _ _ _
    apply wpAny_bind; apply wpAny_field ho hd (x := .int k 0) rfl
    change wpAny _ _ (seqItems? (.ref l) >>= _) _ _ _
    apply wpAny_bind; apply wpAny_seqItems hol hdl
    rw [Int.toNat_natCast]
    dsimp only
    rw [hx]
    dsimp only
    apply wpAny_bind; apply wpAny_setField ho hd (by simp)
    have e2 := set_rec ho hd 1 (rawInt (k + 1))
    refine wpAny_pure ⟨x, rfl, wpAny_pure (q _ ⟨⟨_, e2, hc, rfl⟩, st2.extBut (Heap.SameBut.update ..).extBut ne⟩ (Heap.SameBut.update ..))⟩

/-- the records of a zip, apart from one another and from what is drawn -/
structure ZAp (z TI TO i1 i2 : Addr) (f1 f2 : List Addr) : Prop where
  zTI : z ≠ TI
  zTO : z ≠ TO
  z1 : z ∉ i1 :: f1
  z2 : z ∉ i2 :: f2
  TITO : TI ≠ TO
  TI1 : TI ≠ i1
  TI2 : TI ≠ i2
  TO1 : TO ∉ i1 :: f1
  TO2 : TO ∉ i2 :: f2
  a1 : i1 ∉ i2 :: f2
  a2 : i2 ∉ i1 :: f1
section
variable {prog : Program} {w : World} {A : Around} {E : Value → Shared → Prop} {s : Shared} {z TI TO i1 i2 : Addr} {f1 f2 : List Addr} {xs ys : Array Value} {S1 S2 : Nat → Heap → Prop}
/-- a pair is drawn -/
theorem zip_item {k : Nat} {x y a b : Value} {Q : Option Value → Shared → Prop} (Z : ZAp z TI TO i1 i2 f1 f2) (D1 : Drw prog w i1 f1 xs S1) (D2 : Drw prog w i2 f2 ys S2) (hz : IsZip s.heap z TI TO .none) (hTI : IsPair s.heap TI (.ref i1) (.ref i2)) (hTO : IsPair s.heap TO a b) (s1 : S1 k s.heap) (s2 : S2 k s.heap)
    (hx : xs[k]? = some x) (hy : ys[k]? = some y)
    (q : ∀ h', IsZip h' z TI TO (rawInt s.heap.objs.size) → IsPair h' TO x y → S1 (k + 1) h' → S2 (k + 1) h' → IsPair h' s.heap.objs.size x y → (∀ c o, c ≠ z → c ≠ TO → c ≠ i1 → c ≠ i2 → s.heap.get? c = some o → h'.get? c = some o) → Q (some (.ref s.heap.objs.size)) { s with heap := h' }) :
    wpAny (model prog w) A (pyNext (Value.ref z)) Q E s := by
  have ty : s.TypeIs (.ref z) "zip" := ⟨_, hz, rfl⟩
  delta pyNext
  apply wpAny_bind; apply wpAny_attempt
  apply wpAny_callSpecial?_slot (name := Str.ofString "__next__") ty F.slot_zip_next
  apply wpAny_call_entry F.slot_zip_next ty F.entry_zip_next _ (F.args_zip_next_1 _)
  change wpAny _ _ (field (.ref z) 2 >>= _) _ _ _
  apply wpAny_bind; apply wpAny_field hz rfl (x := .bool false) rfl
  change wpAny _ _ (field (.ref z) 3 >>= _) _ _ _
  apply wpAny_bind; apply wpAny_field hz rfl (x := .ref TI) rfl
  apply wpAny_bind; apply wpAny_seqItems hTI rfl
  change wpAny _ _ (ownedTupleIsFree (.ref z) >>= _) _ _ _
  apply wpAny_bind; delta ownedTupleIsFree
  apply wpAny_bind; apply wpAny_field hz rfl (x := .none) rfl; apply wpAny_pure
  rw [if_pos (by decide)]
  apply wpAny_bind; apply wpAny_rule
  apply wpAny_bind; apply wpAny_field hz rfl (x := .ref TO) rfl
  apply wpAny_bind; apply wpAny_setField_rec hz (by simp)
  intro h1 hz1 sb1
  have hz1' : IsZip h1 z TI TO .ellipsis := hz1
  have to1 : IsPair h1 TO a b := (sb1.2 TO (Ne.symm Z.zTO)).trans hTO
  have st1 : S1 k h1 := D1.keep _ _ _ s1 fun c hc o e => (sb1.2 c fun y => Z.z1 (y ▸ hc)).trans e
  have st2 : S2 k h1 := D2.keep _ _ _ s2 fun c hc o e => (sb1.2 c fun y => Z.z2 (y ▸ hc)).trans e
  apply wpAny_bind
  simp only [List.forIn_cons, List.forIn_nil, List.zipIdx_cons, List.zipIdx_nil]
  apply wpAny_bind; apply wpAny_bind; apply wpAny_onRaise
  change wpAny _ _ (nextOf (.ref i1) >>= _) _ _ _
  apply wpAny_bind
  apply wpAny_mono (D1.item _ _ { s with heap := h1 } k x (fun v s' => v = x ∧ ∃ h2, s' = { s with heap := h2 } ∧ S1 (k + 1) h2 ∧ Heap.SameBut i1 h1 h2) st1 hx fun h2 a1 a2 => ⟨rfl, h2, rfl, a1, a2⟩) _ fun _ _ e => e
  rintro v _ ⟨ev, h2, rfl, st1', sb2⟩
  have ev' := ev.symm; subst ev'
  apply wpAny_pure
  have nTO1 : TO ≠ i1 := fun e => Z.TO1 (by rw [e]; exact List.mem_cons_self ..)
  have to2 : IsPair h2 TO a b := (sb2.2 TO nTO1).trans to1
  apply wpAny_bind; apply wpAny_seqItems to2 rfl
  apply wpAny_bind; apply wpAny_updateSeq_pair (s := { s with heap := h2 }) to2
  intro h3 to3 sb3
  have to3' : IsPair h3 TO x b := to3
  apply wpAny_bind; apply wpAny_letGo; apply wpAny_pure
  apply wpAny_bind; apply wpAny_bind; apply wpAny_onRaise
  change wpAny _ _ (nextOf (.ref i2) >>= _) _ _ _
  apply wpAny_bind
  have st2' : S2 k h3 := D2.keep _ _ _ st2 fun c hc o e => (sb3.2 c fun y => Z.TO2 (y ▸ hc)).trans ((sb2.2 c fun y => Z.a1 (y ▸ hc)).trans e)
  apply wpAny_mono (D2.item _ _ { s with heap := h3 } k y (fun v s' => v = y ∧ ∃ h4, s' = { s with heap := h4 } ∧ S2 (k + 1) h4 ∧ Heap.SameBut i2 h3 h4) st2' hy fun h4 a1 a2 => ⟨rfl, h4, rfl, a1, a2⟩) _ fun _ _ e => e
  rintro v _ ⟨ev, h4, rfl, st2'', sb4⟩
  have ev' := ev.symm; subst ev'
  apply wpAny_pure
  have nTO2 : TO ≠ i2 := fun e => Z.TO2 (by rw [e]; exact List.mem_cons_self ..)
  have to4 : IsPair h4 TO x b := (sb4.2 TO nTO2).trans to3'
  apply wpAny_bind; apply wpAny_seqItems to4 rfl
  apply wpAny_bind; apply wpAny_updateSeq_pair (s := { s with heap := h4 }) to4
  intro h5 to5 sb5
  have to5' : IsPair h5 TO x y := to5
  apply wpAny_bind; apply wpAny_letGo; apply wpAny_pure; apply wpAny_pure
  apply wpAny_bind; apply wpAny_seqItems to5' rfl
  apply wpAny_bind; apply wpAny_newTuple
  have nz1 : z ≠ i1 := fun e => Z.z1 (by rw [e]; exact List.mem_cons_self ..)
  have nz2 : z ≠ i2 := fun e => Z.z2 (by rw [e]; exact List.mem_cons_self ..)
  have size : h5.objs.size = s.heap.objs.size := by rw [sb5.1, sb4.1, sb3.1, sb2.1, sb1.1]
  have back : ∀ c, c ≠ TO → c ≠ i1 → c ≠ i2 → h5.get? c = h1.get? c := fun c c1 c2 c3 => by rw [sb5.2 c c1, sb4.2 c c3, sb3.2 c c1, sb2.2 c c2]
  have hz5 : IsZip (h5.push { cls := .type "tuple", data := .seq #[x, y] }) z TI TO .ellipsis := Heap.get?_push_of_some _ ((back z Z.zTO nz1 nz2).trans hz1')
  change wpAny _ _ (ownedTupleHandOut (.ref z) (.ref h5.objs.size) >>= _) _ _ _
  apply wpAny_bind; delta ownedTupleHandOut
  apply wpAny_bind; apply wpAny_setField_rec hz5 (by simp)
  intro h7 hz7 sb7
  apply wpAny_setField_rec hz7 (by simp)
  intro h8 hz8 sb8
  have up : ∀ c o, c ≠ z → h5.get? c = some o → h8.get? c = some o := fun c o cz e => (sb8.2 c cz).trans ((sb7.2 c cz).trans (Heap.get?_push_of_some _ e))
  have new : h8.get? h5.objs.size = some { cls := .type "tuple", data := .seq #[x, y] } := by
    have lt : z ≠ h5.objs.size := fun e => absurd (Heap.lt_size ((back z Z.zTO nz1 nz2).trans hz1')) (by rw [e]; exact Nat.lt_irrefl _)
    rw [sb8.2 _ (Ne.symm lt), sb7.2 _ (Ne.symm lt)]; exact Heap.get?_push_size h5 rfl
  refine wpAny_pure ⟨_, rfl, wpAny_pure ?_⟩
  change Q (some (.ref h5.objs.size)) _
  rw [size] at new ⊢
  refine q h8 (by rw [← size]; exact hz8) (up TO _ (Ne.symm Z.zTO) to5') (D1.keep _ _ _ st1' fun c hc o e => up c o (fun y => Z.z1 (y ▸ hc)) ?_) (D2.keep _ _ _ st2'' fun c hc o e => up c o (fun y => Z.z2 (y ▸ hc)) ?_) new fun c o c1 c2 c3 c4 e => up c o c1 ((back c c2 c3 c4).trans ((sb1.2 c c1).trans e))
  · have n1 : c ≠ TO := fun y => Z.TO1 (y ▸ hc)
    have n2 : c ≠ i2 := fun y => Z.a2 (y ▸ hc)
    rw [sb5.2 c n1, sb4.2 c n2, sb3.2 c n1]; exact e
  · rw [sb5.2 c fun y => Z.TO2 (y ▸ hc)]; exact e
  all_goals size_fits
end
end Ex
end

section
set_option Elab.async false
set_option linter.all false
set_option maxRecDepth 100000
set_option maxHeartbeats 5000000
namespace L2
open PySem PySem.Spec PyProof.Rows Ex

/-! ## zip of a list and a tuple -/
section
variable {X : Cx} {pins : List (Addr × Obj)} {σ : St} {H : Hp} {s : Shared} {h' : Heap} {fp : List Addr}
/-- some untracked records of ours have turned -/
theorem Inv.turnedAll {t' : Nat} (I : Inv X pins σ H s) (k : ∀ b o, b ∉ fp → s.heap.get? b = some o → h'.get? b = some o) (hf : ∀ b ∈ fp, FpOk X pins H b) : Inv X pins σ H { s with heap := h', toks := t' } := by
  have apart : ∀ b u, H b = some u → b ∉ fp := fun b u e z => by have q := (hf b z).1; rw [e] at q; cases q
  refine I.step (g' := s.gens) (d' := s.drawn) (ch := fp) (fun b hb => ?_) (fun b o _ _ hc e _ => k b o hc e) (fun b o _ _ hc e _ => ⟨o.slots, k b o hc e⟩) (fun _ _ _ _ n => n) (fun b o hc e => ⟨o, k b o hc e⟩) (fun _ _ e => e) (fun _ _ _ e => e) (fun b ps e => ⟨#[], by rw [e]; simp⟩) (fun m hm => ?_) (fun b u e => ?_) I.bare
  · obtain ⟨_, f1, _, f3, f4, f5⟩ := hf b hb
    exact ⟨f3, f1, f4, f5⟩
  · obtain ⟨o, es, ep, ho, r⟩ := hm
    exact ⟨o, es, ep, k _ o (fun z => (hf _ z).2.1 rfl) ho, r⟩
  · apply (I.hok b u e).stay (h' := h') (H' := H) _ (fun _ q => q) (fun _ _ q => q)
    intro c v hc q
    cases hc with
    | inl z => exact k c v (by rw [z]; exact apart b u e) q
    | inr z => exact k c v (apart c _ z) q
/-- .. and something new is tracked -/
theorem Inv.turnedNew {t' : Nat} {a : Addr} {o : HO} (I : Inv X pins σ H s) (k : ∀ b o, b ∉ fp → s.heap.get? b = some o → h'.get? b = some o) (hf : ∀ b ∈ fp, FpOk X pins H b) (ha : s.heap.objs.size ≤ a) (new : ObjOk X.prog X.w (upd H a o) h' a o) : Inv X pins σ (upd H a o) { s with heap := h', toks := t' } := by
  have apart : ∀ b u, H b = some u → b ∉ fp := fun b u e z => by have q := (hf b z).1; rw [e] at q; cases q
  have fr : H a = none := I.hok.fresh ha
  have old : ∀ b u, H b = some u → upd H a o b = some u := fun b u e => by rw [upd_ne (ne_of_none e fr)]; exact e
  refine I.step (g' := s.gens) (d' := s.drawn) (ch := fp) (fun b hb => ?_) (fun b o _ _ hc e _ => k b o hc e) (fun b o _ _ hc e _ => ⟨o.slots, k b o hc e⟩) (fun b u _ e n => ?_) (fun b o hc e => ⟨o, k b o hc e⟩) (fun b xs e => old b _ e) (fun b o u e => old b _ e) (fun b ps e => ⟨#[], by rw [old b _ e]; simp⟩) (fun m hm => ?_) (fun b u e => ?_) I.bare
  · obtain ⟨_, f1, _, f3, f4, f5⟩ := hf b hb
    exact ⟨f3, f1, f4, f5⟩
  · have lt : b < s.heap.objs.size := Heap.lt_size e
    rw [upd_ne (Nat.ne_of_lt (Nat.lt_of_lt_of_le lt ha))]; exact n
  · obtain ⟨o, es, ep, ho, r⟩ := hm
    exact ⟨o, es, ep, k _ o (fun z => (hf _ z).2.1 rfl) ho, r⟩
  · by_cases hb : b = a
    · subst hb; rw [upd_same] at e; cases e; exact new
    · rw [upd_ne hb] at e
      apply (I.hok b u e).stay (h' := h') (H' := upd H a o) _ (fun c q => old c _ q) (fun c xs q => old c _ q)
      intro c v hc q
      cases hc with
      | inl z => exact k c v (by rw [z]; exact apart b u e) q
      | inr z => exact k c v (apart c _ z) q
end
end L2
namespace Ex
open PySem PySem.Spec PyProof.Rows PySem.Calls Builtin.SmallTypes
section
variable {prog : Program} {w : World} {A : Around} {E : Value → Shared → Prop} {s : Shared} {z TI TO i1 i2 l1 : Addr} {f2 : List Addr} {xs : Array Value}
/-- the list ends first -/
theorem zip_stop {k : Nat} {a b : Value} {Q : Option Value → Shared → Prop} (hh : A.handled = none) (Z : ZAp z TI TO i1 i2 [l1] f2) (hz : IsZip s.heap z TI TO .none) (hTI : IsPair s.heap TI (.ref i1) (.ref i2)) (st : s.heap.IsListIter i1 l1 k) (hl : s.heap.IsList l1 xs) (hx : xs[k]? = none)
    (q : ∀ h', (∀ c o, c ≠ z → c ≠ i1 → s.heap.get? c = some o → h'.get? c = some o) → Q none { s with heap := h' }) : wpAny (model prog w) A (pyNext (Value.ref z)) Q E s := by
  have ty : s.TypeIs (.ref z) "zip" := ⟨_, hz, rfl⟩
  have n1 : i1 ≠ z := fun e => Z.z1 (by rw [e]; exact List.mem_cons_self ..)
  have n2 : l1 ≠ z := fun e => Z.z1 (by rw [e]; simp)
  delta pyNext
  apply wpAny_bind; apply wpAny_attempt
  apply wpAny_callSpecial?_slot (name := Str.ofString "__next__") ty F.slot_zip_next
  apply wpAny_call_entry F.slot_zip_next ty F.entry_zip_next _ (F.args_zip_next_1 _)
  change wpAny _ _ (field (.ref z) 2 >>= _) _ _ _
  apply wpAny_bind; apply wpAny_field hz rfl (x := .bool false) rfl
  change wpAny _ _ (field (.ref z) 3 >>= _) _ _ _
  apply wpAny_bind; apply wpAny_field hz rfl (x := .ref TI) rfl
  apply wpAny_bind; apply wpAny_seqItems hTI rfl
  change wpAny _ _ (ownedTupleIsFree (.ref z) >>= _) _ _ _
  apply wpAny_bind; delta ownedTupleIsFree
  apply wpAny_bind; apply wpAny_field hz rfl (x := .none) rfl; apply wpAny_pure
  rw [if_pos (by decide)]
  apply wpAny_bind; apply wpAny_rule
  apply wpAny_bind; apply wpAny_field hz rfl (x := .ref TO) rfl
  apply wpAny_bind; apply wpAny_setField_rec hz (by simp)
  intro h1 hz1 sb1
  have hz1' : IsZip h1 z TI TO .ellipsis := hz1
  apply wpAny_bind
  simp only [List.forIn_cons, List.forIn_nil, List.zipIdx_cons, List.zipIdx_nil]
  apply wpAny_bind; apply wpAny_bind; apply wpAny_onRaise
  change wpAny _ _ (nextOf (.ref i1) >>= _) _ _ _
  apply wpAny_bind
  apply wpAny_nextOf_list_end (show A.in1.handled = none from hh) (st.extBut sb1.extBut n1) (hl.extBut sb1.extBut n2) hx
  rintro h2 e eb ⟨oe, he, ce⟩
  have hz2 : IsZip h2 z TI TO .ellipsis := eb z _ (Ne.symm n1) hz1'
  have ne : e ≠ z := by rintro rfl; rw [hz2] at he; cases he; simp at ce
  apply wpAny_setField_rec hz2 (by simp)
  intro h3 _ sb3
  apply wpAny_bind
  have ts : ({ s with heap := h3 } : Shared).TypeIs (.ref e) "StopIteration" := ⟨oe, sb3.extBut _ _ ne he, ce⟩
  apply wpAny_isInstance ts isSubtype_stop
  apply wpAny_pure
  exact q h3 fun c o c1 c2 y => sb3.extBut _ _ c1 (eb c o c2 (sb1.extBut _ _ c1 y))
end
end Ex
end

section
set_option Elab.async false
set_option linter.all false
set_option maxRecDepth 100000
set_option maxHeartbeats 5000000
namespace Ex
open PySem PySem.Spec PyProof.Rows PySem.Calls Builtin.SmallTypes
/-! the objects of a zip over a list and a tuple, one behind the other -/
def zo1 (l1 : Addr) : Obj := { cls := .type "list_iterator", data := .fields #[.ref l1, .int 0 0] }
def zo2 (l2 : Addr) : Obj := { cls := .type "tuple_iterator", data := .fields #[.ref l2, .int 0 0] }
def zo3 (n m : Addr) : Obj := { cls := .type "tuple", data := .seq #[.ref n, .ref m] }
def zo4 : Obj := { cls := .type "tuple", data := .seq #[.none, .none] }
def zo5 (i o : Addr) : Obj := { cls := .type "zip", data := .fields #[.none, .bool false, .bool false, .ref i, .ref o] }
def zh (h : Heap) (l1 l2 : Addr) : Heap := ((((h.push (zo1 l1)).push (zo2 l2)).push (zo3 h.objs.size (h.push (zo1 l1)).objs.size)).push zo4).push (zo5 ((h.push (zo1 l1)).push (zo2 l2)).objs.size (((h.push (zo1 l1)).push (zo2 l2)).push (zo3 h.objs.size (h.push (zo1 l1)).objs.size)).objs.size)
theorem zip_made (l1 l2 : Addr) (xs ys : Array Value) : Meets (Builtin.«zip.__new__» ⟨[.type "zip", .ref l1, .ref l2], []⟩) (fun _ R s => s.heap.IsList l1 xs ∧ s.heap.IsTuple l2 ys ∧
      R (.ok (.ret (.ref ((((s.heap.push (zo1 l1)).push (zo2 l2)).push (zo3 s.heap.objs.size (s.heap.push (zo1 l1)).objs.size)).push zo4).objs.size))) { s with heap := zh s.heap l1 l2 }) := by
  refine .of_wp fun prog w A R st h => ?_
  obtain ⟨hp, g, d, tk, os⟩ := st
  obtain ⟨a1, a2, h⟩ := h
  have hsub := sub_zip
  have b1 : Heap.IsList (Shared.heap ⟨hp, g, d, tk, os⟩) l1 xs := a1
  have b2 : Heap.IsTuple (Shared.heap ⟨hp.push { cls := .type "list_iterator", data := .fields #[.ref l1, .int 0 0] }, g, d, tk, os⟩) l2 ys := by
    obtain ⟨o, e, r⟩ := a2
    exact ⟨o, Heap.get?_push_of_some _ e, r⟩
  wp_walk using wpAny_pyIter_list b1, wpAny_pyIter_tuple b2
  exact ⟨_, rfl, h⟩
end Ex
end

section
set_option Elab.async false
set_option linter.all false
set_option maxRecDepth 100000
set_option maxHeartbeats 5000000
namespace L2
open PySem PySem.Spec PyProof.Rows Ex
/-- a list and a tuple, drawn in pairs until the list ends -/
def Itz (l1 l2 : Addr) : It where
  go := fun i H => ∃ xs ys x y, H l1 = some (.lst xs) ∧ H l2 = some (.tup ys) ∧ xs[i]? = some x ∧ ys[i]? = some y
  yld := fun i H v H' => ∃ p xs ys x y, v = .ref p ∧ H p = none ∧ H' = upd H p (.tup [x, y]) ∧ H l1 = some (.lst xs) ∧ H l2 = some (.tup ys) ∧ xs[i]? = some x ∧ ys[i]? = some y
  stop := fun i H => ∃ xs, H l1 = some (.lst xs) ∧ xs.length ≤ i
def zfp (n : Addr) : List Addr := [n + 4, n + 2, n + 3, n, n + 1]
def ztn (n l1 l2 : Addr) (i : Nat) (h : Heap) : Prop := ∃ a b, IsZip h (n + 4) (n + 2) (n + 3) .none ∧ IsPair h (n + 2) (.ref n) (.ref (n + 1)) ∧ IsPair h (n + 3) a b ∧ h.IsListIter n l1 i ∧ h.IsTupleIter (n + 1) l2 i
theorem mem_zfp {n b : Addr} : b ∈ zfp n ↔ b = n + 4 ∨ b = n + 2 ∨ b = n + 3 ∨ b = n ∨ b = n + 1 := by simp [zfp]
theorem zap {n l1 l2 : Addr} (h1 : l1 ∉ zfp n) (h2 : l2 ∉ zfp n) : ZAp (n + 4) (n + 2) (n + 3) n (n + 1) [l1] [l2] := by
  rw [mem_zfp] at h1 h2
  have N : ∀ k : Nat, (show Nat from n) + k = n + k := fun _ => rfl
  constructor <;> simp only [List.mem_cons, List.not_mem_nil, or_false, ne_eq] <;> (simp only [Addr] at *; omega)
theorem turn_zip {P : Program} {w : World} {K : PySem.W.Frag} {es : List Expr} {x1} {pos : Pos} (l1 l2 n : Addr) : Turn P w K (.Tuple es x1 pos) (Itz l1 l2) (zfp n) (n + 4) (ztn n l1 l2) where
  mem := by simp [zfp]
  obj := fun i h st b hb => by
    obtain ⟨a, c, hz, hi, ho, ⟨o1, e1, c1, d1⟩, ⟨o2, e2, c2, d2⟩⟩ := st
    rcases mem_zfp.mp hb with e | e | e | e | e <;> subst e
    · exact ⟨_, hz, fun v z => nomatch z⟩
    · exact ⟨_, hi, fun v z => nomatch z⟩
    · exact ⟨_, ho, fun v z => nomatch z⟩
    · exact ⟨_, e1, fun v z => by rw [d1] at z; cases z⟩
    · exact ⟨_, e2, fun v z => by rw [d2] at z; cases z⟩
  keep := fun i h h' st k => by
    obtain ⟨a, c, hz, hi, ho, ⟨o1, e1, r1⟩, ⟨o2, e2, r2⟩⟩ := st
    exact ⟨a, c, k _ (mem_zfp.mpr (.inl rfl)) _ hz, k _ (mem_zfp.mpr (.inr (.inl rfl))) _ hi, k _ (mem_zfp.mpr (.inr (.inr (.inl rfl)))) _ ho, ⟨o1, k _ (mem_zfp.mpr (.inr (.inr (.inr (.inl rfl))))) _ e1, r1⟩, ⟨o2, k _ (mem_zfp.mpr (.inr (.inr (.inr (.inr rfl))))) _ e2, r2⟩⟩
  item := by
    intro X hP hw hK hc i pins s σ H E I hf st hg
    subst hP hw hK
    obtain ⟨xs, ys, x, y, q1, q2, hx, hy⟩ := hg
    obtain ⟨a, c, hz, hi, ho, st1, st2⟩ := st
    have m1 : l1 ∉ zfp n := fun z => by have e := (hf l1 z).1; rw [q1] at e; cases e
    have m2 : l2 ∉ zfp n := fun z => by have e := (hf l2 z).1; rw [q2] at e; cases e
    have Z := zap m1 m2
    obtain ⟨us, r1, p1, z1⟩ := I.list (SqL.of q1)
    obtain ⟨ws, r2, p2, z2⟩ := I.tuple (SqT.of q2)
    obtain ⟨u, hu, ru⟩ := r1.get hx
    obtain ⟨v, hv, rv⟩ := r2.get hy
    have n1 : l1 ≠ n := fun e => m1 (mem_zfp.mpr (.inr (.inr (.inr (.inl e)))))
    have n2 : l2 ≠ n + 1 := fun e => m2 (mem_zfp.mpr (.inr (.inr (.inr (.inr e)))))
    have new : ∀ b ∈ zfp n, b < s.heap.objs.size := fun b hb => by
      rcases mem_zfp.mp hb with e | e | e | e | e <;> subst e
      · exact Heap.lt_size hz
      · exact Heap.lt_size hi
      · exact Heap.lt_size ho
      · obtain ⟨_, e, _⟩ := st1; exact Heap.lt_size e
      · obtain ⟨_, e, _⟩ := st2; exact Heap.lt_size e
    refine zip_item Z (drw_list n1) (drw_tuple n2) hz hi ho ⟨st1, p1.isList⟩ ⟨st2, p2⟩ (x := u) (y := v) (by simpa using hu) (by simpa using hv) fun h1 hz1 ho1 s1 s2 np kept => ?_
    refine ⟨_, rfl, wpAny_letOwnedTupleGo_zip hz1 fun h2 hz2 sb => ?_⟩
    have k2 : ∀ b o, b ∉ zfp n → s.heap.get? b = some o → h2.get? b = some o := fun b o hb e => by
      rw [mem_zfp] at hb
      exact sb.extBut _ _ (fun z => hb (.inl z)) (kept b o (fun z => hb (.inl z)) (fun z => hb (.inr (.inr (.inl z)))) (fun z => hb (.inr (.inr (.inr (.inl z))))) (fun z => hb (.inr (.inr (.inr (.inr z))))) e)
    have fr : H s.heap.objs.size = none := I.hok.fresh (Nat.le_refl _)
    have nz : s.heap.objs.size ≠ n + 4 := fun e => absurd (new (n + 4) (mem_zfp.mpr (.inl rfl))) (by rw [e]; exact Nat.lt_irrefl _)
    refine ⟨.ref s.heap.objs.size, upd H s.heap.objs.size (.tup [x, y]), I.turnedNew (t' := s.toks) k2 hf (Nat.le_refl _) ?_, rfl, ⟨_, xs, ys, x, y, rfl, fr, rfl, q1, q2, hx, hy⟩, ⟨u, v, hz2, ?_, ?_, ?_, ?_⟩, fun b hb => ?_⟩
    · exact ⟨by show (2 : Nat) ≤ sizeLine; decide, [u, v], .cons ru (.cons rv .nil), ⟨_, sb.extBut _ _ nz np, rfl, _, rfl⟩⟩
    · exact sb.extBut _ _ (Ne.symm Z.zTI) (kept _ _ (Ne.symm Z.zTI) Z.TITO Z.TI1 Z.TI2 hi)
    · exact sb.extBut _ _ (Ne.symm Z.zTO) ho1
    · obtain ⟨⟨o, e, r⟩, _⟩ := s1
      exact ⟨o, sb.extBut _ _ (fun z => Z.z1 (by rw [← z]; simp)) e, r⟩
    · obtain ⟨⟨o, e, r⟩, _⟩ := s2
      exact ⟨o, sb.extBut _ _ (fun z => Z.z2 (by rw [← z]; simp)) e, r⟩
    · rw [upd_ne (Nat.ne_of_lt (new b hb))]; exact (hf b hb).1
  done := by
    intro X hP hw hK hc i pins s σ H E I hf st hg
    subst hP hw hK
    obtain ⟨xs, q1, hx⟩ := hg
    obtain ⟨a, c, hz, hi, ho, st1, st2⟩ := st
    have m1 : l1 ∉ zfp n := fun z => by have e := (hf l1 z).1; rw [q1] at e; cases e
    have Z : ZAp (n + 4) (n + 2) (n + 3) n (n + 1) [l1] [n + 5] := zap m1 (by rw [mem_zfp]; simp only [Addr] at *; omega)
    obtain ⟨us, r1, p1, z1⟩ := I.list (SqL.of q1)
    have hl := r1.length
    refine zip_stop (a := a) (b := c) (I.ok.hd hc) Z hz hi st1 p1.isList (by simp; omega) fun h1 kept => ⟨rfl, ?_⟩
    refine I.turnedAll (t' := s.toks) (fun b o hb e => kept b o (fun z => ?_) (fun z => ?_) e) hf
    · exact hb (mem_zfp.mpr (.inl z))
    · exact hb (mem_zfp.mpr (.inr (.inr (.inr (.inl z)))))
  self := fun _ _ _ _ _ st h => by
    obtain ⟨a, c, hz, _⟩ := st
    exact wpAny_pyIter_zip hz h
def iZip (ta : TA) : TI := fun σ H R => ta σ H fun vs H1 => ∃ l1 l2 xs ys, vs = [.ref l1, .ref l2] ∧ H1 l1 = some (.lst xs) ∧ H1 l2 = some (.tup ys) ∧ R (Itz l1 l2) H1
theorem push_at {h : Heap} {o : Obj} {n : Nat} (e : h.objs.size = n) (ho : o.isFreed = false) : (h.push o).get? n = some o := by subst e; exact Heap.get?_push_size h ho
theorem zip_call {prog : Program} {w : World} {A : Around} {E : Value → Shared → Prop} {s : Shared} {l1 l2 : Addr} {xs ys : Array Value} {Q : Value → Shared → Prop} (h1 : s.heap.IsList l1 xs) (h2 : s.heap.IsTuple l2 ys)
    (q : ∀ h', ztn s.heap.objs.size l1 l2 0 h' → (∀ b o, s.heap.get? b = some o → h'.get? b = some o) → Q (.ref (s.heap.objs.size + 4)) { s with heap := h' }) : wpAny (model prog w) A (call (.type "zip") [.ref l1, .ref l2]) Q E s := by
  apply callType_new F.called_zip (by decide) (F.typeCall_zip_2 _ _) (F.newCall_zip_2 _ _) (fun o => F.args_object_init_3 o _ _) F.entry_zip_new (zip_made l1 l2 xs ys)
  refine ⟨h1, h2, ?_⟩
  show (_ ∧ _)
  simp only [Heap.size_push]
  have up : ∀ b o, s.heap.get? b = some o → (zh s.heap l1 l2).get? b = some o := fun b o e => by
    unfold zh
    iterate 5 apply Heap.get?_push_of_some
    exact e
  have g5 : (zh s.heap l1 l2).get? (s.heap.objs.size + 4) = some (zo5 (s.heap.objs.size + 2) (s.heap.objs.size + 3)) := by
    unfold zh
    simp only [Heap.size_push]
    exact push_at (by simp only [Heap.size_push]) rfl
  have g4 : (zh s.heap l1 l2).get? (s.heap.objs.size + 3) = some zo4 := by
    unfold zh
    apply Heap.get?_push_of_some
    exact push_at (by simp only [Heap.size_push]) rfl
  have g3 : (zh s.heap l1 l2).get? (s.heap.objs.size + 2) = some (zo3 s.heap.objs.size (s.heap.objs.size + 1)) := by
    unfold zh
    simp only [Heap.size_push]
    iterate 2 apply Heap.get?_push_of_some
    exact push_at (by simp only [Heap.size_push]) rfl
  have g2 : (zh s.heap l1 l2).get? (s.heap.objs.size + 1) = some (zo2 l2) := by
    unfold zh
    iterate 3 apply Heap.get?_push_of_some
    exact push_at (by simp only [Heap.size_push]) rfl
  have g1 : (zh s.heap l1 l2).get? s.heap.objs.size = some (zo1 l1) := by
    unfold zh
    iterate 4 apply Heap.get?_push_of_some
    exact Heap.get?_push_size _ rfl
  exact ⟨⟨_, g5, rfl⟩, q _ ⟨.none, .none, g5, g3, g4, ⟨_, g1, rfl, rfl⟩, ⟨_, g2, rfl, rfl⟩⟩ up⟩
section
variable {X : Cx}
theorem zip_name : bootBuiltins "zip" = some (.type "zip") := by decide +kernel
theorem pi_zip {a b : Expr} {es : List Expr} {x1} {tp : Pos} {ta : TA} {p pos : Pos} (hg : Gl X "zip") (hm : X.mg "zip" = none) (ha : PA X [a, b] ta) (hs : starEach [a, b] X.env = [(false, eval a X.env), (false, eval b X.env)] := by rfl) (hs2 : starEach [b] X.env = [(false, eval b X.env)] := by rfl) :
    PI X (.Tuple es x1 tp) (.Call (.Name "zip" p) [a, b] [] pos) (iZip ta) := by
  intro pins s σ H R I h
  refine Call_ (ld_blt I hg hm zip_name (PyProof.Rows.callWith_type1 (thn (ha pos pins s σ H _ I h) fun us s1 ⟨vs, H1, I1, r1, q1⟩ => ?_) (by rw [hs, hs2]) (by rw [hs2]; rfl)))
  obtain ⟨l1, l2, xs, ys, e, q1, q2, q⟩ := q1
  subst e
  obtain ⟨u, v, rfl, e1, e2⟩ := vals2 r1
  cases e1
  cases e2
  obtain ⟨us, r1, p1, z1⟩ := I1.list (SqL.of q1)
  obtain ⟨ws, r2, p2, z2⟩ := I1.tuple (SqT.of q2)
  refine zip_call p1.isList p2 fun h' st kept => ?_
  obtain ⟨_, _, hz, _⟩ := id st
  refine wpAny_pyIter_zip hz ⟨_, zfp s1.heap.objs.size, _, _, H1, rfl, I1.kept (t' := s1.toks) kept, turn_zip l1 l2 _, st, fun b hb => ?_, q⟩
  have le : s1.heap.objs.size ≤ b := by
    rw [mem_zfp] at hb
    rcases hb with e | e | e | e | e <;> rw [e] <;> first | exact Nat.le_refl _ | exact Nat.le_add_right _ _
  exact I1.fpOk le (I1.hok.fresh le)
end
end L2
end

section
set_option Elab.async false
set_option linter.all false
set_option maxRecDepth 100000
set_option maxHeartbeats 5000000
namespace L2
open PySem PySem.Spec PyProof.Rows Ex
section
variable {X : Cx} {pins : List (Addr × Obj)} {σ : St} {H : Hp} {s : Shared}
/-- a list comprehension, whatever is done with its list ahead of the end of its block -/
theorem lc_core {elt tg iter : Expr} {ifs : List Expr} {scope : Scope} {pos fpos : Pos} {Nc : List Str} {own : Nat} {fr : List Nat} {wi : TI} {g : TG} {tc : TT} {te : TE} {use : Option (Value → Sem Unit)} {QQ : Value → Shared → Prop} {Q : VK} (hc : X.calm = true) (B : BlkN X scope Nc own fr) (hi : PI X tg iter wi) (hog : OwnG own g)
    (hg : ∀ cl C s3 H3 fp pn', PG (X.blk Nc scope cl C s3 H3 fp pn' fun _ _ => False) tg g) (ht : ∀ cl C s3 H3 fp pn', PTs (X.blk Nc scope cl C s3 H3 fp pn' fun _ _ => False) ifs tc) (he : ∀ cl C s3 H3 fp pn', PE (X.blk Nc scope cl C s3 H3 fp pn' fun _ _ => False) elt te)
    (hs : ∀ x, foldedSetIterable iter X.env x = pure x) (I : Inv X pins σ H s) (h : tLC fr own wi g tc te σ H Q)
    (fin : ∀ (D C : Addr) (H3 : Hp) (s4 : Shared), (∃ m, s4.heap.Ns C m) → FpOk X pins H3 C → (∀ h', Heap.SameBut C s4.heap h' → Inv X pins σ H3 { s4 with heap := h' }) → Q (.ref D) H3 → compPost (model X.prog X.w) X.A X.xe use QQ (.ref D) C (.ok .next) s4) :
    wpAny (model X.prog X.w) X.A (comprehension (.ListComp elt [⟨tg, iter, ifs, 0⟩] scope pos) scope X.env fpos (newList []) false (eval iter X.env) use) QQ X.xe s := by
  obtain ⟨cl, cl0⟩ := clo_of (env := X.env) (scope := scope) fun x hx => I.ok.has x (B.frees x hx)
  apply wpAny_comprehension_free rfl hs cl0.clos B.kind B.names
  apply wpAny_mono (hi pins s σ H _ I h) _ fun _ _ e => e
  intro xv s1 h1
  apply wpAny_mono h1 _ fun _ _ e => e
  intro itv s2 h2
  obtain ⟨it, fp, tn, J, H2, rfl, I2, T, st2, f2, q⟩ := h2
  refine wpAny_newObj_type (wpAny_newFunctionEnv B.nocell (by intro y hy; simp at hy) (fun h₁ hns₁ hsb₁ => ?_) B.kind)
  have hD : H2 s2.heap.objs.size = none := I2.hok.fresh (Nat.le_refl _)
  obtain ⟨W, ⟨m0, w0⟩, turn⟩ := q s2.heap.objs.size hD
  have I3 : Inv X pins σ (upd H2 s2.heap.objs.size (.lst [])) { s2 with heap := s2.heap.push { cls := .type "list", dict := none, data := .seq ([] : List Value).toArray } } :=
    I2.laid (t' := s2.toks) (fun b u e => Heap.get?_push_of_some _ e) (Nat.le_refl _) ⟨Nat.zero_le _, [], 0, .nil, Heap.get?_push_size _ rfl⟩
  have fpne : ∀ b ∈ fp, b ≠ s2.heap.objs.size := fun b hb => let ⟨o, e, _⟩ := T.obj _ _ st2 b hb; Nat.ne_of_lt (Heap.lt_size e)
  have f3 : ∀ b ∈ fp, FpOk X pins (upd H2 s2.heap.objs.size (.lst [])) b := fun b hb => ⟨by rw [upd_ne (fpne b hb)]; exact (f2 b hb).1, (f2 b hb).2⟩
  have keep : ∀ b o, (s2.heap.push { cls := .type "list", dict := none, data := .seq ([] : List Value).toArray }).get? b = some o → h₁.get? b = some o := fun b o e =>
    (hsb₁.2 b (Nat.ne_of_lt (Heap.lt_size e))).trans (Heap.get?_push_of_some _ e)
  have IY := I3.block (h₁ := h₁) (t' := s2.toks + ([] : List (Str × Value)).length) (E' := fun _ _ => False) B cl0 (fun b hb => ⟨f3 b hb, let ⟨o, e, _⟩ := T.obj _ _ st2 b hb; ⟨o, Heap.get?_push_of_some _ e⟩⟩) hns₁ keep
  have st1 : tn 0 h₁ := T.keep _ _ _ st2 fun b hb o e => keep b o (Heap.get?_push_of_some _ e)
  have fY : ∀ {H' : Hp}, (∀ b ∈ fp, H' b = none) → ∀ b ∈ fp, FpOk (X.blk Nc scope cl (s2.heap.push { cls := .type "list", dict := none, data := .seq ([] : List Value).toArray }).objs.size { s2 with heap := s2.heap.push { cls := .type "list", dict := none, data := .seq ([] : List Value).toArray } } (upd H2 s2.heap.objs.size (.lst [])) fp (X.pn ++ pins) fun _ _ => False) [] H' b := fun hn b hb =>
    ⟨hn b hb, (IY.ok.exf b hb).1, IY.ok.exfs b hb, .inl hb, (IY.ok.exf b hb).2, fun p hp => (f2 b hb).2.2.2.2.2 p (by simpa using hp)⟩
  have loop : codeAny (model X.prog X.w) X.A (.compLoop (.ListComp elt [⟨tg, iter, ifs, 0⟩] scope pos) 0 (.ref it) (.ref s2.heap.objs.size) (compEnvC scope cl (s2.heap.push { cls := .type "list", dict := none, data := .seq ([] : List Value).toArray }).objs.size X.env))
      (compPost (model X.prog X.w) X.A X.xe use QQ (.ref s2.heap.objs.size) (s2.heap.push { cls := .type "list", dict := none, data := .seq ([] : List Value).toArray }).objs.size) { s2 with heap := h₁, toks := s2.toks + ([] : List (Str × Value)).length } := by
    refine comp_loop (fun n s' => ∃ i ys H', Inv (X.blk Nc scope cl (s2.heap.push { cls := .type "list", dict := none, data := .seq ([] : List Value).toArray }).objs.size { s2 with heap := s2.heap.push { cls := .type "list", dict := none, data := .seq ([] : List Value).toArray } } (upd H2 s2.heap.objs.size (.lst [])) fp (X.pn ++ pins) fun _ _ => False) [] (compσ fr own σ) H' s' ∧ tn i s'.heap ∧ (∀ b ∈ fp, H' b = none) ∧ H' s2.heap.objs.size = some (.lst ys) ∧ W i n ys H')
      m0 ⟨0, [], _, IY, st1, fun b hb => (f3 b hb).1, upd_same, w0⟩ ?_
    rintro n s3 ⟨i, ys, H3, J3, st3, fr3, e3, w3⟩
    rcases turn i n ys H3 e3 w3 with ⟨stop, qn⟩ | ⟨go, hlen, step⟩
    · refine thn (T.done (X.blk Nc scope cl (s2.heap.push { cls := .type "list", dict := none, data := .seq ([] : List Value).toArray }).objs.size { s2 with heap := s2.heap.push { cls := .type "list", dict := none, data := .seq ([] : List Value).toArray } } (upd H2 s2.heap.objs.size (.lst [])) fp (X.pn ++ pins) fun _ _ => False) rfl rfl rfl hc i [] s3 _ H3 _ J3 (fY fr3) st3 stop) fun r s4 ⟨hr, J4⟩ => ?_
      subst hr
      obtain ⟨m, hn, _⟩ := J4.loc
      exact fin _ _ H3 s4 ⟨m, hn⟩ (I3.fpOk (Nat.le_refl _) J4.free) (fun h' sb => I3.unblock f3 J4 sb) qn
    · refine thn (T.item (X.blk Nc scope cl (s2.heap.push { cls := .type "list", dict := none, data := .seq ([] : List Value).toArray }).objs.size { s2 with heap := s2.heap.push { cls := .type "list", dict := none, data := .seq ([] : List Value).toArray } } (upd H2 s2.heap.objs.size (.lst [])) fp (X.pn ++ pins) fun _ _ => False) rfl rfl rfl hc i [] s3 _ H3 _ J3 (fY fr3) st3 go) fun r s4 ⟨u, hr, h4⟩ => ?_
      subst hr
      refine thn h4 fun _ s5 ⟨x, H5, J5, r5, y5, st5, fr5⟩ => ?_
      have J5' := J5.pinned (fY fr5) (T.obj _ _ st5)
      have lift : ∀ {α : Type} {m : Sem α} {Q' : α → Shared → Prop} {E' : Value → Shared → Prop} {s' : Shared}, wpAny (model X.prog X.w) X.A m Q' (fun _ _ => False) s' → wpAny (model X.prog X.w) X.A m Q' E' s' := fun h => wpAny_mono h (fun _ _ z => z) fun _ _ z => z.elim
      refine lift (thn (hg _ _ _ _ _ _ _ s5 _ H5 x u _ J5' r5 (hog _ _ _ _ (step x H5 y5))) fun _ s6 ⟨σ6, H6, J6, q6, hσ6⟩ => ?_)
      refine lift (thn (ht _ _ _ _ _ _ _ s6 σ6 H6 _ J6 q6) fun b s7 ⟨H7, J7, q7⟩ => ?_)
      have back : ∀ {H8 : Hp} {s8 : Shared} {ys' : List V} {m' : Nat}, Inv (X.blk Nc scope cl (s2.heap.push { cls := .type "list", dict := none, data := .seq ([] : List Value).toArray }).objs.size { s2 with heap := s2.heap.push { cls := .type "list", dict := none, data := .seq ([] : List Value).toArray } } (upd H2 s2.heap.objs.size (.lst [])) fp (X.pn ++ pins) fun _ _ => False) ([] ++ pinsAt fp s5.heap) σ6 H8 s8 → H8 s2.heap.objs.size = some (.lst ys') → m' < n → W (i + 1) m' ys' H8 →
          ∃ m, m < n ∧ ∃ i ys H', Inv (X.blk Nc scope cl (s2.heap.push { cls := .type "list", dict := none, data := .seq ([] : List Value).toArray }).objs.size { s2 with heap := s2.heap.push { cls := .type "list", dict := none, data := .seq ([] : List Value).toArray } } (upd H2 s2.heap.objs.size (.lst [])) fp (X.pn ++ pins) fun _ _ => False) [] (compσ fr own σ) H' s8 ∧ tn i s8.heap ∧ (∀ b ∈ fp, H' b = none) ∧ H' s2.heap.objs.size = some (.lst ys) ∧ W i m ys H' := fun {H8 s8 ys' m'} J8 e8 hm w8 => by
        refine ⟨m', hm, i + 1, ys', H8, ?_, T.keep _ _ _ st5 fun b hb o e => (J8.pin (b, o) (List.mem_append_right _ (List.mem_append_right _ (mem_pinsAt hb e)))).1, fun b hb => ?_, e8, w8⟩
        · refine (Inv.unpinned (pins := []) J8).weak ?_ fun j v' z => ?_
          · rw [IY.len]; exact J8.len.symm
          · by_cases hj : j < own
            · unfold compσ at z
              rw [List.getElem?_append_left (by simpa using hj), List.getElem?_replicate, if_pos hj] at z
              cases z
            · rw [hσ6 j (Nat.le_of_not_lt hj)]; exact z
        · obtain ⟨o, e, d⟩ := T.obj _ _ st5 b hb
          exact (J8.pin (b, o) (List.mem_append_right _ (List.mem_append_right _ (mem_pinsAt hb e)))).2.1
      cases b with
      | false =>
        obtain ⟨e7, m', hm, w7⟩ := (show H7 s2.heap.objs.size = some (.lst ys) ∧ ∃ m', m' < n ∧ W (i + 1) m' ys H7 from by simpa using q7)
        exact back J7 e7 hm w7
      | true =>
        have q7' : te σ6 H7 fun y H6 => H6 s2.heap.objs.size = some (.lst ys) ∧ ∃ m', m' < n ∧ W (i + 1) m' (ys ++ [y]) (upd H6 s2.heap.objs.size (.lst (ys ++ [y]))) := by simpa using q7
        refine lift (thn (he _ _ _ _ _ _ _ s7 σ6 H7 _ J7 q7') fun v s8 ⟨y, H8, J8, r8, e8, m', hm, w8⟩ => ?_)
        refine lift (thn (mt_append _ s8 σ6 H8 (.ref s2.heap.objs.size) [y] (.ref s2.heap.objs.size) [v] (fun _ H9 => H9 = upd H8 s2.heap.objs.size (.lst (ys ++ [y]))) J8 rfl (.cons r8 .nil) ⟨_, ys, y, rfl, rfl, e8, hlen, rfl⟩) fun _ s9 ⟨_, H9, J9, _, e9⟩ => ?_)
        subst e9
        exact back J9 upd_same hm w8
  exact codeAny_compStart_list loop (T.self _ _ _ _ _ st1 loop)
theorem pe_lc {elt tg iter : Expr} {ifs : List Expr} {scope : Scope} {pos : Pos} {Nc : List Str} {own : Nat} {fr : List Nat} {wi : TI} {g : TG} {tc : TT} {te : TE} (hc : X.calm = true) (B : BlkN X scope Nc own fr) (hi : PI X tg iter wi) (hog : OwnG own g)
    (hg : ∀ cl C s3 H3 fp pn', PG (X.blk Nc scope cl C s3 H3 fp pn' fun _ _ => False) tg g) (ht : ∀ cl C s3 H3 fp pn', PTs (X.blk Nc scope cl C s3 H3 fp pn' fun _ _ => False) ifs tc) (he : ∀ cl C s3 H3 fp pn', PE (X.blk Nc scope cl C s3 H3 fp pn' fun _ _ => False) elt te)
    (hs : ∀ x, foldedSetIterable iter X.env x = pure x := by intro _; rfl) : PE X (.ListComp elt [⟨tg, iter, ifs, 0⟩] scope pos) (tLC fr own wi g tc te) := by
  intro pins s σ H Q I h
  rw [eval_ListComp]
  exact lc_core (QQ := EP X pins σ Q) hc B hi hog hg ht he hs I h fun L C H3 s4 hn f unb q => let ⟨m, hm⟩ := hn; ⟨m, hm, fun h' sb => ⟨.ref L, H3, unb h' sb, rfl, q⟩⟩
/-- y = [.. for ..], on one row: the store comes ahead of the end of the block -/
theorem ps_setlc {elt tg iter : Expr} {ifs : List Expr} {scope : Scope} {pos py spos : Pos} {Nc : List Str} {own i : Nat} {fr : List Nat} {wi : TI} {g : TG} {tc : TT} {te : TE} {y : Str} (hN : X.N.Nodup) (hi' : X.N[i]? = some y) (hx : Loc X.env.scope y) (hc : X.calm = true) (B : BlkN X scope Nc own fr) (hi : PI X tg iter wi) (hog : OwnG own g)
    (hg : ∀ cl C s3 H3 fp pn', PG (X.blk Nc scope cl C s3 H3 fp pn' fun _ _ => False) tg g) (ht : ∀ cl C s3 H3 fp pn', PTs (X.blk Nc scope cl C s3 H3 fp pn' fun _ _ => False) ifs tc) (he : ∀ cl C s3 H3 fp pn', PE (X.blk Nc scope cl C s3 H3 fp pn' fun _ _ => False) elt te)
    (hs : ∀ x, foldedSetIterable iter X.env x = pure x := by intro _; rfl) (hsw : swapsWith (.ListComp elt [⟨tg, iter, ifs, 0⟩] scope pos) (some (.Name y py)) spos.line X.env = pure true := by rfl)
    (hf : X.fn y = true ∨ X.env.scope.names.lookup y = some .local := by first | exact .inl rfl | exact .inr rfl | assumption) :
    PS X (.Assign [.Name y py] (.ListComp elt [⟨tg, iter, ifs, 0⟩] scope pos) spos) (tAsg (tLC fr own wi g tc te) (gName i)) := by
  intro pins s σ H D I h
  rw [exec_Assign_Name_used (hs := hsw)]
  apply wpAny_bind; apply wpAny_standAt; apply wpAny_bind
  change wpAny _ _ (comprehension (.ListComp elt [⟨tg, iter, ifs, 0⟩] scope pos) scope X.env _ (newList []) false (eval iter X.env) (some (assign (.Name y py) X.env)) >>= fun _ => pure ()) _ _ _
  apply wpAny_bind
  refine wpAny_mono (lc_core (QQ := fun _ s' => SP X pins D .next s') hc B hi hog hg ht he hs I h (fun L C H3 s4 hn f unb q => ?_)) (fun _ s' q => wpAny_pure (wpAny_pure q)) fun _ _ e => e
  obtain ⟨m, o, es, ep, ho, hd, r⟩ := hn
  have I4 : Inv X pins σ H3 s4 := unb s4.heap (Heap.SameBut.refl _ _)
  obtain ⟨f0, f1, f2, f3, f4, f5⟩ := f
  have I5 : Inv X ((C, o) :: pins) σ H3 s4 := I4.pins_of fun p hp => by
    rcases List.mem_cons.mp hp with e | e
    · subst e; exact ⟨ho, f0, f1, f2, fun v z => by rw [hd] at z; cases z⟩
    · exact I4.pin p (List.mem_append_right _ e)
  show wpAny _ _ (assign (.Name y py) X.env (.ref L)) _ _ _
  apply wpAny_assign_Name
  apply store_ok I5 hN hi' hx (v := .ref L) rfl _ hf
  intro s5 I6
  have hC := (I6.pin (C, o) (List.mem_append_right _ (List.mem_cons_self ..))).1
  refine ⟨m, ⟨o, es, ep, hC, hd, r⟩, fun h' sb => ⟨_, H3, ?_, q⟩⟩
  have I7 : Inv X pins (σ.set i (some (.ref L))) H3 s5 := I6.pins_of fun p hp => I6.pin p (List.mem_append_right _ (List.mem_cons_of_mem _ hp))
  exact I7.turned (t' := s5.toks) (fun b o hb e => (sb.2 b hb).trans e) f0 f1 f3 f4 f5
end
end L2
end

section
set_option Elab.async false
set_option linter.all false
set_option maxRecDepth 100000
set_option maxHeartbeats 5000000
namespace K5
open PySem L2 Ex
/-! the text by places -/
def top (i : Nat) : Stmt := PySem.Challenge.pw_thirdpoint_k05_refusals_apart.main.body.getD i (.Pass ⟨0, 0, 0, 0⟩)
abbrev sNoPoints : Stmt := inClass (top 2) 0
abbrev sNoAsks : Stmt := inClass (top 4) 0
abbrev sNoRun : Stmt := inClass (top 5) 0
abbrev sNoText : Stmt := inClass (top 6) 0
abbrev sNoTurn : Stmt := inClass (top 7) 0
abbrev sNoBox : Stmt := inClass (top 3) 0
abbrev sNoPoint : Stmt := inClass (top 12) 0
abbrev sNoName : Stmt := inClass (top 13) 0
abbrev sNoKey : Stmt := inClass (top 14) 0
abbrev sTooMany : Stmt := inClass (top 16) 0
/-- an __init__ that keeps one value under the name x -/
def spX1 (C : Addr) (x : Str) : Sp := fun vs H Q _ => ∃ a v fr, vs = [.ref a, v] ∧ H a = some (ExO C a none fr) ∧ ∀ d, H d = none → d ≠ a → Q .non (upd (upd H d (ExD d [(x, v)])) a (ExO C a (some d) fr))
def spX2 (C : Addr) (x y : Str) : Sp := fun vs H Q _ => ∃ a v u fr, vs = [.ref a, v, u] ∧ H a = some (ExO C a none fr) ∧ ∀ d, H d = none → d ≠ a → Q .non (upd (upd (upd H d (ExD d [(x, v)])) a (ExO C a (some d) fr)) d (ExD d [(x, v), (y, u)]))
structure XT (K : PySem.W.Frag) (C : Addr) (B : String) (x : Str) : Prop where
  xc : XC K C
  sub : PySem.W.mroIn K C (.type B) = some true
  no : NoAttr K C x
section
variable {P : Program} {w : World} {K : PySem.W.Frag} {mg : Str → Option Value} {base : Heap}
theorem scNoPoints : FnScope ["self", "number"] ["self", "number"] (defScope sNoPoints) := ⟨rfl, rfl, rfl, by decide +kernel, rfl, by decide +kernel, by decide +kernel⟩
theorem ok_NoPoints {f C D : Addr} {fd : FuncData} {ini : String} (F : Fun K "__init__" "NoPoints.__init__" sNoPoints f fd) (T : XT K C "ValueError" "number") (Z : XIn K (.ref D) "ValueError" ini) (hm : mg "PointError" = some (.ref D)) : FnOk P w K mg base CX0 1 f fd ["self", "number"] (spX1 C "number") := by
  refine F.ok scNoPoints (fun vs H Q E h => ?_) (fun cdv A outer s H vs Q E hr h => ?_)
  · obtain ⟨a, v, fr, rfl, _⟩ := h
    rfl
  · obtain ⟨a, v, fr, rfl, ha, k⟩ := h
    refine ⟨_, pss_cons (ps_expr (pe_xinit (pe_glob (v := .ref D) rfl hm rfl) Z (pa_cons (pv 0) (pa_cons pe_str pa_nil)))) (pss_one (ps_xfld (pv 0) (pv 1) rfl)), ?_⟩
    refine ⟨_, rfl, a, C, fr, _, rfl, ha, T.xc, T.sub, by decide, ?_⟩
    exact ⟨_, rfl, _, rfl, a, C, fr, rfl, T.xc, T.no, .inl ⟨ha, fun d hd ne => k d hd ne⟩⟩
theorem scNoAsks : FnScope ["self", "number"] ["self", "number"] (defScope sNoAsks) := ⟨rfl, rfl, rfl, by decide +kernel, rfl, by decide +kernel, by decide +kernel⟩
theorem ok_NoAsks {f C D : Addr} {fd : FuncData} {ini : String} (F : Fun K "__init__" "NoAsks.__init__" sNoAsks f fd) (T : XT K C "ValueError" "number") (Z : XIn K (.ref D) "ValueError" ini) (hm : mg "PointError" = some (.ref D)) : FnOk P w K mg base CX0 1 f fd ["self", "number"] (spX1 C "number") := by
  refine F.ok scNoAsks (fun vs H Q E h => ?_) (fun cdv A outer s H vs Q E hr h => ?_)
  · obtain ⟨a, v, fr, rfl, _⟩ := h
    rfl
  · obtain ⟨a, v, fr, rfl, ha, k⟩ := h
    refine ⟨_, pss_cons (ps_expr (pe_xinit (pe_glob (v := .ref D) rfl hm rfl) Z (pa_cons (pv 0) (pa_cons pe_str pa_nil)))) (pss_one (ps_xfld (pv 0) (pv 1) rfl)), ?_⟩
    refine ⟨_, rfl, a, C, fr, _, rfl, ha, T.xc, T.sub, by decide, ?_⟩
    exact ⟨_, rfl, _, rfl, a, C, fr, rfl, T.xc, T.no, .inl ⟨ha, fun d hd ne => k d hd ne⟩⟩
theorem scNoRun : FnScope ["self", "moment"] ["self", "moment"] (defScope sNoRun) := ⟨rfl, rfl, rfl, by decide +kernel, rfl, by decide +kernel, by decide +kernel⟩
theorem ok_NoRun {f C D : Addr} {fd : FuncData} {ini : String} (F : Fun K "__init__" "NoRun.__init__" sNoRun f fd) (T : XT K C "ValueError" "moment") (Z : XIn K (.ref D) "ValueError" ini) (hm : mg "PointError" = some (.ref D)) : FnOk P w K mg base CX0 1 f fd ["self", "moment"] (spX1 C "moment") := by
  refine F.ok scNoRun (fun vs H Q E h => ?_) (fun cdv A outer s H vs Q E hr h => ?_)
  · obtain ⟨a, v, fr, rfl, _⟩ := h
    rfl
  · obtain ⟨a, v, fr, rfl, ha, k⟩ := h
    refine ⟨_, pss_cons (ps_expr (pe_xinit (pe_glob (v := .ref D) rfl hm rfl) Z (pa_cons (pv 0) (pa_cons pe_str pa_nil)))) (pss_one (ps_xfld (pv 0) (pv 1) rfl)), ?_⟩
    refine ⟨_, rfl, a, C, fr, _, rfl, ha, T.xc, T.sub, by decide, ?_⟩
    exact ⟨_, rfl, _, rfl, a, C, fr, rfl, T.xc, T.no, .inl ⟨ha, fun d hd ne => k d hd ne⟩⟩
theorem scNoText : FnScope ["self", "row"] ["self", "row"] (defScope sNoText) := ⟨rfl, rfl, rfl, by decide +kernel, rfl, by decide +kernel, by decide +kernel⟩
theorem ok_NoText {f C D : Addr} {fd : FuncData} {ini : String} (F : Fun K "__init__" "NoText.__init__" sNoText f fd) (T : XT K C "ValueError" "row") (Z : XIn K (.ref D) "ValueError" ini) (hm : mg "PointError" = some (.ref D)) : FnOk P w K mg base CX0 1 f fd ["self", "row"] (spX1 C "row") := by
  refine F.ok scNoText (fun vs H Q E h => ?_) (fun cdv A outer s H vs Q E hr h => ?_)
  · obtain ⟨a, v, fr, rfl, _⟩ := h
    rfl
  · obtain ⟨a, v, fr, rfl, ha, k⟩ := h
    refine ⟨_, pss_cons (ps_expr (pe_xinit (pe_glob (v := .ref D) rfl hm rfl) Z (pa_cons (pv 0) (pa_cons pe_str pa_nil)))) (pss_one (ps_xfld (pv 0) (pv 1) rfl)), ?_⟩
    refine ⟨_, rfl, a, C, fr, _, rfl, ha, T.xc, T.sub, by decide, ?_⟩
    exact ⟨_, rfl, _, rfl, a, C, fr, rfl, T.xc, T.no, .inl ⟨ha, fun d hd ne => k d hd ne⟩⟩
theorem scNoTurn : FnScope ["self", "last"] ["self", "last"] (defScope sNoTurn) := ⟨rfl, rfl, rfl, by decide +kernel, rfl, by decide +kernel, by decide +kernel⟩
theorem ok_NoTurn {f C D : Addr} {fd : FuncData} {ini : String} (F : Fun K "__init__" "NoTurn.__init__" sNoTurn f fd) (T : XT K C "ValueError" "last") (Z : XIn K (.ref D) "ValueError" ini) (hm : mg "PointError" = some (.ref D)) : FnOk P w K mg base CX0 1 f fd ["self", "last"] (spX1 C "last") := by
  refine F.ok scNoTurn (fun vs H Q E h => ?_) (fun cdv A outer s H vs Q E hr h => ?_)
  · obtain ⟨a, v, fr, rfl, _⟩ := h
    rfl
  · obtain ⟨a, v, fr, rfl, ha, k⟩ := h
    refine ⟨_, pss_cons (ps_expr (pe_xinit (pe_glob (v := .ref D) rfl hm rfl) Z (pa_cons (pv 0) (pa_cons pe_str pa_nil)))) (pss_one (ps_xfld (pv 0) (pv 1) rfl)), ?_⟩
    refine ⟨_, rfl, a, C, fr, _, rfl, ha, T.xc, T.sub, by decide, ?_⟩
    exact ⟨_, rfl, _, rfl, a, C, fr, rfl, T.xc, T.no, .inl ⟨ha, fun d hd ne => k d hd ne⟩⟩
theorem scNoPoint : FnScope ["self", "point"] ["self", "point"] (defScope sNoPoint) := ⟨rfl, rfl, rfl, by decide +kernel, rfl, by decide +kernel, by decide +kernel⟩
theorem ok_NoPoint {f C : Addr} {fd : FuncData} {ini : String} (F : Fun K "__init__" "NoPoint.__init__" sNoPoint f fd) (T : XT K C "KeyError" "point") (Z : XIn K (.ty "KeyError") "KeyError" ini) (hm : mg "KeyError" = none) : FnOk P w K mg base CX0 1 f fd ["self", "point"] (spX1 C "point") := by
  refine F.ok scNoPoint (fun vs H Q E h => ?_) (fun cdv A outer s H vs Q E hr h => ?_)
  · obtain ⟨a, v, fr, rfl, _⟩ := h
    rfl
  · obtain ⟨a, v, fr, rfl, ha, k⟩ := h
    refine ⟨_, pss_cons (ps_expr (pe_xinit (pe_bltn (v := .ty "KeyError") (u := .type "KeyError") rfl hm (by decide +kernel) rfl) Z (pa_cons (pv 0) (pa_cons pe_str pa_nil)))) (pss_one (ps_xfld (pv 0) (pv 1) rfl)), ?_⟩
    refine ⟨_, rfl, a, C, fr, _, rfl, ha, T.xc, T.sub, by decide, ?_⟩
    exact ⟨_, rfl, _, rfl, a, C, fr, rfl, T.xc, T.no, .inl ⟨ha, fun d hd ne => k d hd ne⟩⟩
theorem scNoName : FnScope ["self", "name"] ["self", "name"] (defScope sNoName) := ⟨rfl, rfl, rfl, by decide +kernel, rfl, by decide +kernel, by decide +kernel⟩
theorem ok_NoName {f C : Addr} {fd : FuncData} {ini : String} (F : Fun K "__init__" "NoName.__init__" sNoName f fd) (T : XT K C "KeyError" "name") (Z : XIn K (.ty "KeyError") "KeyError" ini) (hm : mg "KeyError" = none) : FnOk P w K mg base CX0 1 f fd ["self", "name"] (spX1 C "name") := by
  refine F.ok scNoName (fun vs H Q E h => ?_) (fun cdv A outer s H vs Q E hr h => ?_)
  · obtain ⟨a, v, fr, rfl, _⟩ := h
    rfl
  · obtain ⟨a, v, fr, rfl, ha, k⟩ := h
    refine ⟨_, pss_cons (ps_expr (pe_xinit (pe_bltn (v := .ty "KeyError") (u := .type "KeyError") rfl hm (by decide +kernel) rfl) Z (pa_cons (pv 0) (pa_cons pe_str pa_nil)))) (pss_one (ps_xfld (pv 0) (pv 1) rfl)), ?_⟩
    refine ⟨_, rfl, a, C, fr, _, rfl, ha, T.xc, T.sub, by decide, ?_⟩
    exact ⟨_, rfl, _, rfl, a, C, fr, rfl, T.xc, T.no, .inl ⟨ha, fun d hd ne => k d hd ne⟩⟩
theorem scNoKey : FnScope ["self", "key"] ["self", "key"] (defScope sNoKey) := ⟨rfl, rfl, rfl, by decide +kernel, rfl, by decide +kernel, by decide +kernel⟩
theorem ok_NoKey {f C : Addr} {fd : FuncData} {ini : String} (F : Fun K "__init__" "NoKey.__init__" sNoKey f fd) (T : XT K C "LookupError" "key") (Z : XIn K (.ty "LookupError") "LookupError" ini) (hm : mg "LookupError" = none) : FnOk P w K mg base CX0 1 f fd ["self", "key"] (spX1 C "key") := by
  refine F.ok scNoKey (fun vs H Q E h => ?_) (fun cdv A outer s H vs Q E hr h => ?_)
  · obtain ⟨a, v, fr, rfl, _⟩ := h
    rfl
  · obtain ⟨a, v, fr, rfl, ha, k⟩ := h
    refine ⟨_, pss_cons (ps_expr (pe_xinit (pe_bltn (v := .ty "LookupError") (u := .type "LookupError") rfl hm (by decide +kernel) rfl) Z (pa_cons (pv 0) (pa_cons pe_str pa_nil)))) (pss_one (ps_xfld (pv 0) (pv 1) rfl)), ?_⟩
    refine ⟨_, rfl, a, C, fr, _, rfl, ha, T.xc, T.sub, by decide, ?_⟩
    exact ⟨_, rfl, _, rfl, a, C, fr, rfl, T.xc, T.no, .inl ⟨ha, fun d hd ne => k d hd ne⟩⟩
theorem scTooMany : FnScope ["self", "many"] ["self", "many"] (defScope sTooMany) := ⟨rfl, rfl, rfl, by decide +kernel, rfl, by decide +kernel, by decide +kernel⟩
theorem ok_TooMany {f C : Addr} {fd : FuncData} {ini : String} (F : Fun K "__init__" "TooMany.__init__" sTooMany f fd) (T : XT K C "OverflowError" "many") (Z : XIn K (.ty "OverflowError") "OverflowError" ini) (hm : mg "OverflowError" = none) : FnOk P w K mg base CX0 1 f fd ["self", "many"] (spX1 C "many") := by
  refine F.ok scTooMany (fun vs H Q E h => ?_) (fun cdv A outer s H vs Q E hr h => ?_)
  · obtain ⟨a, v, fr, rfl, _⟩ := h
    rfl
  · obtain ⟨a, v, fr, rfl, ha, k⟩ := h
    refine ⟨_, pss_cons (ps_expr (pe_xinit (pe_bltn (v := .ty "OverflowError") (u := .type "OverflowError") rfl hm (by decide +kernel) rfl) Z (pa_cons (pv 0) (pa_cons pe_str pa_nil)))) (pss_one (ps_xfld (pv 0) (pv 1) rfl)), ?_⟩
    refine ⟨_, rfl, a, C, fr, _, rfl, ha, T.xc, T.sub, by decide, ?_⟩
    exact ⟨_, rfl, _, rfl, a, C, fr, rfl, T.xc, T.no, .inl ⟨ha, fun d hd ne => k d hd ne⟩⟩
theorem scNoBox : FnScope ["self", "one", "other"] ["self", "one", "other"] (defScope sNoBox) := ⟨rfl, rfl, rfl, by decide +kernel, rfl, by decide +kernel, by decide +kernel⟩
theorem ok_NoBox {f C D : Addr} {fd : FuncData} {ini : String} (F : Fun K "__init__" "NoBox.__init__" sNoBox f fd) (T : XT K C "ValueError" "one") (n2 : NoAttr K C "other") (Z : XIn K (.ref D) "ValueError" ini) (hm : mg "PointError" = some (.ref D)) : FnOk P w K mg base CX0 1 f fd ["self", "one", "other"] (spX2 C "one" "other") := by
  refine F.ok scNoBox (fun vs H Q E h => ?_) (fun cdv A outer s H vs Q E hr h => ?_)
  · obtain ⟨a, v, u, fr, rfl, _⟩ := h
    rfl
  · obtain ⟨a, v, u, fr, rfl, ha, k⟩ := h
    refine ⟨_, pss_cons (ps_expr (pe_xinit (pe_glob (v := .ref D) rfl hm rfl) Z (pa_cons (pv 0) (pa_cons pe_str pa_nil)))) (pss_cons (ps_xfld (pv 0) (pv 1) rfl) (pss_one (ps_xfld (pv 0) (pv 2) rfl))), ?_⟩
    refine ⟨_, rfl, a, C, fr, _, rfl, ha, T.xc, T.sub, by decide, ?_⟩
    refine ⟨_, rfl, _, rfl, a, C, fr, rfl, T.xc, T.no, .inl ⟨ha, fun d hd ne => ?_⟩⟩
    refine ⟨_, rfl, _, rfl, a, C, fr, rfl, T.xc, n2, .inr ⟨d, [("one", v)], upd_same, by rw [upd_ne ne, upd_same], by show 1 < 1000; decide, ?_⟩⟩
    have e : putF "other" u [(("one" : Str), v)] = [(("one" : Str), v), ("other", u)] := by
      show (if ("one" : Str) = "other" then _ else (("one" : Str), v) :: putF "other" u []) = _
      rw [if_neg (show ¬ (("one" : Str) = "other") by decide +kernel)]
      rfl
    rw [e]
    exact k d hd ne
end
end K5
end

section
set_option Elab.async false
set_option linter.all false
set_option maxRecDepth 100000
set_option maxHeartbeats 5000000
namespace K5
open PySem L2 Ex
abbrev sRaised : Stmt := top 22
/-- the classes' places -/
structure Ad where
  pe : Addr
  np : Addr
  inp : Addr
  fnp : FuncData
  nb : Addr
  inb : Addr
  fnb : FuncData
  na : Addr
  ina : Addr
  fna : FuncData
  nr : Addr
  inr : Addr
  fnr : FuncData
  nt : Addr
  int : Addr
  fnt : FuncData
  nu : Addr
  inu : Addr
  fnu : FuncData
  pt : Addr
  ipt : Addr
  fpt : FuncData
  nn : Addr
  inn : Addr
  fnn : FuncData
  nk : Addr
  ink : Addr
  fnk : FuncData
  tm : Addr
  itm : Addr
  ftm : FuncData
def Ad.caught (t : Ad) : List Value := [.ref t.pe, .ref t.pt, .ref t.nn, .ref t.nk, .ref t.tm]
/-- what is asked of a class that is raised: with one value, kept under x -/
structure Rs1 (P : Program) (w : World) (K : PySem.W.Frag) (mg : Str → Option Value) (base : Heap) (t : Ad) (nm : Str) (C fI : Addr) (fd : FuncData) (x : Str) : Prop where
  make : XMk K C fI
  z : XK0 K C
  ok : FnOk P w K mg base CX0 1 fI fd ["self", x] (spX1 C x)
  bd : Binds K fd ["self", x] []
  at_ : mg nm = some (.ref C)
  hit : matchIn K C t.caught = some true
structure Rs2 (P : Program) (w : World) (K : PySem.W.Frag) (mg : Str → Option Value) (base : Heap) (t : Ad) (nm : Str) (C fI : Addr) (fd : FuncData) (x y : Str) : Prop where
  make : XMk K C fI
  z : XK0 K C
  ok : FnOk P w K mg base CX0 1 fI fd ["self", x, y] (spX2 C x y)
  bd : Binds K fd ["self", x, y] []
  at_ : mg nm = some (.ref C)
  hit : matchIn K C t.caught = some true
structure Rs (P : Program) (w : World) (K : PySem.W.Frag) (mg : Str → Option Value) (base : Heap) (t : Ad) : Prop where
  pe : mg "PointError" = some (.ref t.pe)
  np : Rs1 P w K mg base t "NoPoints" t.np t.inp t.fnp "number"
  nb : Rs2 P w K mg base t "NoBox" t.nb t.inb t.fnb "one" "other"
  na : Rs1 P w K mg base t "NoAsks" t.na t.ina t.fna "number"
  nr : Rs1 P w K mg base t "NoRun" t.nr t.inr t.fnr "moment"
  nt : Rs1 P w K mg base t "NoText" t.nt t.int t.fnt "row"
  nu : Rs1 P w K mg base t "NoTurn" t.nu t.inu t.fnu "last"
  pt : Rs1 P w K mg base t "NoPoint" t.pt t.ipt t.fpt "point"
  nn : Rs1 P w K mg base t "NoName" t.nn t.inn t.fnn "name"
  nk : Rs1 P w K mg base t "NoKey" t.nk t.ink t.fnk "key"
  tm : Rs1 P w K mg base t "TooMany" t.tm t.itm t.ftm "many"
/-- what is raised for the number n: its class and values -/
def Ad.told (t : Ad) (v u : V) : Int → Option (Addr × List (Str × V))
  | 0 => some (t.np, [("number", v)])
  | 1 => some (t.nb, [("one", v), ("other", u)])
  | 2 => some (t.na, [("number", v)])
  | 3 => some (t.nr, [("moment", v)])
  | 4 => some (t.nt, [("row", v)])
  | 5 => some (t.nu, [("last", v)])
  | 10 => some (t.pt, [("point", v)])
  | 11 => some (t.nn, [("name", v)])
  | 12 => some (t.nk, [("key", v)])
  | 14 => some (t.tm, [("many", v)])
  | _ => none
/-- a new exception, with its values, and nothing else is other than it was -/
structure NewEx (H H' : Hp) (a C : Addr) (fs : List (Str × V)) : Prop where
  new : H a = none
  at_ : ∃ d, H' a = some (ExO C a (some d) false) ∧ H' d = some (ExD d fs)
  same : Same H H'
def spRaised (t : Ad) : Sp := fun vs H Q _ => ∃ n v u C fs, vs = [.int n, v, u] ∧ t.told v u n = some (C, fs) ∧ ∀ a H', NewEx H H' a C fs → Q (.ref a) H'
section
variable {P : Program} {w : World} {K : PySem.W.Frag} {mg : Str → Option Value} {base : Heap}
theorem new1 {H : Hp} {a d C : Addr} {x : Str} {v : V} (ha : H a = none) (hd : (upd H a (ExO C a none true)) d = none) (ne : d ≠ a) :
    NewEx H (upd (upd (upd (upd H a (ExO C a none true)) d (ExD d [(x, v)])) a (ExO C a (some d) true)) a (ExO C a (some d) false)) a C [(x, v)] := by
  rw [upd_upd]
  rw [upd_ne ne] at hd
  refine ⟨ha, ⟨d, upd_same, by rw [upd_ne ne, upd_same]⟩, fun b o e => ?_⟩
  rw [upd_ne (ne_of_none e ha), upd_ne (ne_of_none e hd), upd_ne (ne_of_none e ha)]
  exact e
theorem new2 {H : Hp} {a d C : Addr} {x y : Str} {v u : V} (ha : H a = none) (hd : (upd H a (ExO C a none true)) d = none) (ne : d ≠ a) :
    NewEx H (upd (upd (upd (upd (upd H a (ExO C a none true)) d (ExD d [(x, v)])) a (ExO C a (some d) true)) d (ExD d [(x, v), (y, u)])) a (ExO C a (some d) false)) a C [(x, v), (y, u)] := by
  rw [upd_ne ne] at hd
  refine ⟨ha, ⟨d, upd_same, by rw [upd_ne ne, upd_same]⟩, fun b o e => ?_⟩
  rw [upd_ne (ne_of_none e ha), upd_ne (ne_of_none e hd), upd_ne (ne_of_none e ha), upd_ne (ne_of_none e hd), upd_ne (ne_of_none e ha)]
  exact e
theorem ifNo {n m : Int} {A B : Prop} (h : n ≠ m) (b : B) : if decide (V.int n = V.int m) = true then A else B := by
  rw [if_neg (by intro z; cases of_decide_eq_true z; exact h rfl)]
  exact b
theorem ifYes {n : Int} {A B : Prop} (a : A) : if decide (V.int n = V.int n) = true then A else B := by
  rw [if_pos (decide_eq_true rfl)]
  exact a
theorem scR : FnScope ["_law_own", "_law_one", "_law_other", "_law_caught", "e"] ["_law_own", "_law_one", "_law_other"] (defScope sRaised) := ⟨rfl, rfl, rfl, by decide +kernel, rfl, by decide +kernel, by decide +kernel⟩
theorem ok_raised {f : Addr} {fd : FuncData} {t : Ad} (F : Fun K "_law_raised" "_law_raised" sRaised f fd) (R : Rs P w K mg base t) : FnOk P w K mg base CX0 3 f fd ["_law_own", "_law_one", "_law_other"] (spRaised t) := by
  refine F.ok scR (fun vs H Q E h => ?_) (fun cdv A outer s H vs Q E hr h => ?_)
  · obtain ⟨n, v, u, C, fs, rfl, _⟩ := h
    rfl
  · obtain ⟨n, v, u, C, fs, rfl, ht, k⟩ := h
    refine ⟨_, pss_cons (ps_set (i := 3) scR.nd rfl (Or.inl rfl) pe_non) (pss_cons (ps_try (i := 4) ⟨rfl, rfl⟩ scR.nd rfl rfl (pn_cons rfl R.pe (pn_cons rfl R.pt.at_ (pn_cons rfl R.nn.at_ (pn_cons rfl R.nk.at_ (pn_cons rfl R.tm.at_ pn_nil))))) (by show 5 ≤ 1000; decide)
      (fun E' pn' EE hX => pss_cons (ps_if (pt_cmpR op_eq (pv 0) pe_int (nomark _)) (pss_one (ps_raise hX rfl R.np.make R.np.z R.np.ok (hr.mono (by decide)) rfl R.np.at_ R.np.bd .nil (pa_cons (pv 1) pa_nil))) pss_nil) (pss_cons (ps_if (pt_cmpR op_eq (pv 0) pe_int (nomark _)) (pss_one (ps_raise hX rfl R.nb.make R.nb.z R.nb.ok (hr.mono (by decide)) rfl R.nb.at_ R.nb.bd .nil (pa_cons (pv 1) (pa_cons (pv 2) pa_nil)))) pss_nil) (pss_cons (ps_if (pt_cmpR op_eq (pv 0) pe_int (nomark _)) (pss_one (ps_raise hX rfl R.na.make R.na.z R.na.ok (hr.mono (by decide)) rfl R.na.at_ R.na.bd .nil (pa_cons (pv 1) pa_nil))) pss_nil) (pss_cons (ps_if (pt_cmpR op_eq (pv 0) pe_int (nomark _)) (pss_one (ps_raise hX rfl R.nr.make R.nr.z R.nr.ok (hr.mono (by decide)) rfl R.nr.at_ R.nr.bd .nil (pa_cons (pv 1) pa_nil))) pss_nil) (pss_cons (ps_if (pt_cmpR op_eq (pv 0) pe_int (nomark _)) (pss_one (ps_raise hX rfl R.nt.make R.nt.z R.nt.ok (hr.mono (by decide)) rfl R.nt.at_ R.nt.bd .nil (pa_cons (pv 1) pa_nil))) pss_nil) (pss_cons (ps_if (pt_cmpR op_eq (pv 0) pe_int (nomark _)) (pss_one (ps_raise hX rfl R.nu.make R.nu.z R.nu.ok (hr.mono (by decide)) rfl R.nu.at_ R.nu.bd .nil (pa_cons (pv 1) pa_nil))) pss_nil) (pss_cons (ps_if (pt_cmpR op_eq (pv 0) pe_int (nomark _)) (pss_one (ps_raise hX rfl R.pt.make R.pt.z R.pt.ok (hr.mono (by decide)) rfl R.pt.at_ R.pt.bd .nil (pa_cons (pv 1) pa_nil))) pss_nil) (pss_cons (ps_if (pt_cmpR op_eq (pv 0) pe_int (nomark _)) (pss_one (ps_raise hX rfl R.nn.make R.nn.z R.nn.ok (hr.mono (by decide)) rfl R.nn.at_ R.nn.bd .nil (pa_cons (pv 1) pa_nil))) pss_nil) (pss_cons (ps_if (pt_cmpR op_eq (pv 0) pe_int (nomark _)) (pss_one (ps_raise hX rfl R.nk.make R.nk.z R.nk.ok (hr.mono (by decide)) rfl R.nk.at_ R.nk.bd .nil (pa_cons (pv 1) pa_nil))) pss_nil) (pss_one (ps_raise hX rfl R.tm.make R.tm.z R.tm.ok (hr.mono (by decide)) rfl R.tm.at_ R.tm.bd .nil (pa_cons (pv 1) pa_nil)))))))))))) (fun a => pss_one (ps_set (i := 3) scR.nd rfl (Or.inl rfl) (pv 4)))) (pss_one (ps_ret (pv 3)))), ?_⟩
    unfold Ad.told at ht
    split at ht
    · cases ht
      refine ⟨_, rfl, rfl, _, rfl, ifYes ?_⟩
      exact ⟨_, rfl, (by show 1 ≤ 1000; decide), fun a ha => ⟨a, v, true, rfl, upd_same, fun d hd ne => ⟨rfl, some d, upd_same, a, _, rfl, rfl, R.np.hit, _, rfl, _, rfl, k a _ (new1 ha hd ne)⟩⟩⟩
    · cases ht
      refine ⟨_, rfl, rfl, _, rfl, ifNo (by decide) ?_⟩
      refine ⟨_, rfl, rfl, _, rfl, ifYes ?_⟩
      exact ⟨_, rfl, _, rfl, (by show 2 ≤ 1000; decide), fun a ha => ⟨a, v, u, true, rfl, upd_same, fun d hd ne => ⟨rfl, some d, (by rw [upd_ne (Ne.symm ne), upd_same]), a, _, rfl, rfl, R.nb.hit, _, rfl, _, rfl, k a _ (new2 ha hd ne)⟩⟩⟩
    · cases ht
      refine ⟨_, rfl, rfl, _, rfl, ifNo (by decide) ?_⟩
      refine ⟨_, rfl, rfl, _, rfl, ifNo (by decide) ?_⟩
      refine ⟨_, rfl, rfl, _, rfl, ifYes ?_⟩
      exact ⟨_, rfl, (by show 1 ≤ 1000; decide), fun a ha => ⟨a, v, true, rfl, upd_same, fun d hd ne => ⟨rfl, some d, upd_same, a, _, rfl, rfl, R.na.hit, _, rfl, _, rfl, k a _ (new1 ha hd ne)⟩⟩⟩
    · cases ht
      refine ⟨_, rfl, rfl, _, rfl, ifNo (by decide) ?_⟩
      refine ⟨_, rfl, rfl, _, rfl, ifNo (by decide) ?_⟩
      refine ⟨_, rfl, rfl, _, rfl, ifNo (by decide) ?_⟩
      refine ⟨_, rfl, rfl, _, rfl, ifYes ?_⟩
      exact ⟨_, rfl, (by show 1 ≤ 1000; decide), fun a ha => ⟨a, v, true, rfl, upd_same, fun d hd ne => ⟨rfl, some d, upd_same, a, _, rfl, rfl, R.nr.hit, _, rfl, _, rfl, k a _ (new1 ha hd ne)⟩⟩⟩
    · cases ht
      refine ⟨_, rfl, rfl, _, rfl, ifNo (by decide) ?_⟩
      refine ⟨_, rfl, rfl, _, rfl, ifNo (by decide) ?_⟩
      refine ⟨_, rfl, rfl, _, rfl, ifNo (by decide) ?_⟩
      refine ⟨_, rfl, rfl, _, rfl, ifNo (by decide) ?_⟩
      refine ⟨_, rfl, rfl, _, rfl, ifYes ?_⟩
      exact ⟨_, rfl, (by show 1 ≤ 1000; decide), fun a ha => ⟨a, v, true, rfl, upd_same, fun d hd ne => ⟨rfl, some d, upd_same, a, _, rfl, rfl, R.nt.hit, _, rfl, _, rfl, k a _ (new1 ha hd ne)⟩⟩⟩
    · cases ht
      refine ⟨_, rfl, rfl, _, rfl, ifNo (by decide) ?_⟩
      refine ⟨_, rfl, rfl, _, rfl, ifNo (by decide) ?_⟩
      refine ⟨_, rfl, rfl, _, rfl, ifNo (by decide) ?_⟩
      refine ⟨_, rfl, rfl, _, rfl, ifNo (by decide) ?_⟩
      refine ⟨_, rfl, rfl, _, rfl, ifNo (by decide) ?_⟩
      refine ⟨_, rfl, rfl, _, rfl, ifYes ?_⟩
      exact ⟨_, rfl, (by show 1 ≤ 1000; decide), fun a ha => ⟨a, v, true, rfl, upd_same, fun d hd ne => ⟨rfl, some d, upd_same, a, _, rfl, rfl, R.nu.hit, _, rfl, _, rfl, k a _ (new1 ha hd ne)⟩⟩⟩
    · cases ht
      refine ⟨_, rfl, rfl, _, rfl, ifNo (by decide) ?_⟩
      refine ⟨_, rfl, rfl, _, rfl, ifNo (by decide) ?_⟩
      refine ⟨_, rfl, rfl, _, rfl, ifNo (by decide) ?_⟩
      refine ⟨_, rfl, rfl, _, rfl, ifNo (by decide) ?_⟩
      refine ⟨_, rfl, rfl, _, rfl, ifNo (by decide) ?_⟩
      refine ⟨_, rfl, rfl, _, rfl, ifNo (by decide) ?_⟩
      refine ⟨_, rfl, rfl, _, rfl, ifYes ?_⟩
      exact ⟨_, rfl, (by show 1 ≤ 1000; decide), fun a ha => ⟨a, v, true, rfl, upd_same, fun d hd ne => ⟨rfl, some d, upd_same, a, _, rfl, rfl, R.pt.hit, _, rfl, _, rfl, k a _ (new1 ha hd ne)⟩⟩⟩
    · cases ht
      refine ⟨_, rfl, rfl, _, rfl, ifNo (by decide) ?_⟩
      refine ⟨_, rfl, rfl, _, rfl, ifNo (by decide) ?_⟩
      refine ⟨_, rfl, rfl, _, rfl, ifNo (by decide) ?_⟩
      refine ⟨_, rfl, rfl, _, rfl, ifNo (by decide) ?_⟩
      refine ⟨_, rfl, rfl, _, rfl, ifNo (by decide) ?_⟩
      refine ⟨_, rfl, rfl, _, rfl, ifNo (by decide) ?_⟩
      refine ⟨_, rfl, rfl, _, rfl, ifNo (by decide) ?_⟩
      refine ⟨_, rfl, rfl, _, rfl, ifYes ?_⟩
      exact ⟨_, rfl, (by show 1 ≤ 1000; decide), fun a ha => ⟨a, v, true, rfl, upd_same, fun d hd ne => ⟨rfl, some d, upd_same, a, _, rfl, rfl, R.nn.hit, _, rfl, _, rfl, k a _ (new1 ha hd ne)⟩⟩⟩
    · cases ht
      refine ⟨_, rfl, rfl, _, rfl, ifNo (by decide) ?_⟩
      refine ⟨_, rfl, rfl, _, rfl, ifNo (by decide) ?_⟩
      refine ⟨_, rfl, rfl, _, rfl, ifNo (by decide) ?_⟩
      refine ⟨_, rfl, rfl, _, rfl, ifNo (by decide) ?_⟩
      refine ⟨_, rfl, rfl, _, rfl, ifNo (by decide) ?_⟩
      refine ⟨_, rfl, rfl, _, rfl, ifNo (by decide) ?_⟩
      refine ⟨_, rfl, rfl, _, rfl, ifNo (by decide) ?_⟩
      refine ⟨_, rfl, rfl, _, rfl, ifNo (by decide) ?_⟩
      refine ⟨_, rfl, rfl, _, rfl, ifYes ?_⟩
      exact ⟨_, rfl, (by show 1 ≤ 1000; decide), fun a ha => ⟨a, v, true, rfl, upd_same, fun d hd ne => ⟨rfl, some d, upd_same, a, _, rfl, rfl, R.nk.hit, _, rfl, _, rfl, k a _ (new1 ha hd ne)⟩⟩⟩
    · cases ht
      refine ⟨_, rfl, rfl, _, rfl, ifNo (by decide) ?_⟩
      refine ⟨_, rfl, rfl, _, rfl, ifNo (by decide) ?_⟩
      refine ⟨_, rfl, rfl, _, rfl, ifNo (by decide) ?_⟩
      refine ⟨_, rfl, rfl, _, rfl, ifNo (by decide) ?_⟩
      refine ⟨_, rfl, rfl, _, rfl, ifNo (by decide) ?_⟩
      refine ⟨_, rfl, rfl, _, rfl, ifNo (by decide) ?_⟩
      refine ⟨_, rfl, rfl, _, rfl, ifNo (by decide) ?_⟩
      refine ⟨_, rfl, rfl, _, rfl, ifNo (by decide) ?_⟩
      refine ⟨_, rfl, rfl, _, rfl, ifNo (by decide) ?_⟩
      exact ⟨_, rfl, (by show 1 ≤ 1000; decide), fun a ha => ⟨a, v, true, rfl, upd_same, fun d hd ne => ⟨rfl, some d, upd_same, a, _, rfl, rfl, R.tm.hit, _, rfl, _, rfl, k a _ (new1 ha hd ne)⟩⟩⟩
    · cases ht
end
end K5
end

section
set_option Elab.async false
set_option linter.all false
set_option maxRecDepth 100000
set_option maxHeartbeats 5000000
namespace K5
open PySem L2 Ex
abbrev sTexts : Stmt := top 23
abbrev sOne : Stmt := top 21
/-- the classes without an __init__ of their own -/
structure Ae extends Ad where
  tr : Addr
  to : Addr
  ns : Addr
  ro : Addr
  bk : Addr
structure Rt (K : PySem.W.Frag) (mg : Str → Option Value) (nm : Str) (C : Addr) (cs : List Value) : Prop where
  make : XMk0 K C
  z : XK0 K C
  at_ : mg nm = some (.ref C)
  hit : matchIn K C cs = some true
structure Rts (K : PySem.W.Frag) (mg : Str → Option Value) (t : Ae) : Prop where
  pe : mg "PointError" = some (.ref t.pe)
  tr : Rt K mg "NoTree" t.tr [.ref t.pe, .ref t.bk]
  to : Rt K mg "NoTop" t.to [.ref t.pe, .ref t.bk]
  ns : Rt K mg "NotServed" t.ns [.ref t.pe, .ref t.bk]
  ro : Rt K mg "NoRow" t.ro [.ref t.pe, .ref t.bk]
  bk : Rt K mg "NoBack" t.bk [.ref t.pe, .ref t.bk]
def Ae.bare (t : Ae) : Int → Option Addr
  | 6 => some t.tr
  | 7 => some t.to
  | 8 => some t.ns
  | 9 => some t.ro
  | 13 => some t.bk
  | _ => none
structure NewEx0 (H H' : Hp) (a C : Addr) : Prop where
  new : H a = none
  at_ : H' a = some (ExO C a none false)
  same : Same H H'
theorem new0 {H : Hp} {a C : Addr} (ha : H a = none) : NewEx0 H (upd H a (ExO C a none false)) a C := ⟨ha, upd_same, fun b o e => by rw [upd_ne (ne_of_none e ha)]; exact e⟩
def spTexts (t : Ae) : Sp := fun vs H Q _ => ∃ n C, vs = [.int n] ∧ t.bare n = some C ∧ ∀ a H', NewEx0 H H' a C → Q (.ref a) H'
section
variable {P : Program} {w : World} {K : PySem.W.Frag} {mg : Str → Option Value} {base : Heap}
theorem scT : FnScope ["_law_own", "_law_caught", "e"] ["_law_own"] (defScope sTexts) := ⟨rfl, rfl, rfl, by decide +kernel, rfl, by decide +kernel, by decide +kernel⟩
theorem ok_texts {f : Addr} {fd : FuncData} {t : Ae} (F : Fun K "_law_texts" "_law_texts" sTexts f fd) (R : Rts K mg t) : FnOk P w K mg base CX0 3 f fd ["_law_own"] (spTexts t) := by
  refine F.ok scT (fun vs H Q E h => ?_) (fun cdv A outer s H vs Q E hr h => ?_)
  · obtain ⟨n, C, rfl, _⟩ := h
    rfl
  · obtain ⟨n, C, rfl, ht, k⟩ := h
    refine ⟨_, pss_cons (ps_set (i := 1) scT.nd rfl (Or.inl rfl) pe_non) (pss_cons (ps_try (i := 2) ⟨rfl, rfl⟩ scT.nd rfl rfl (pn_cons rfl R.pe (pn_cons rfl R.bk.at_ pn_nil)) (by show 2 ≤ 1000; decide)
      (fun E' pn' EE hX => pss_cons (ps_if (pt_cmpR op_eq (pv 0) pe_int (nomark _)) (pss_one (ps_raise0 hX rfl R.tr.make R.tr.z rfl R.tr.at_ (pa_cons pe_str pa_nil))) pss_nil) (pss_cons (ps_if (pt_cmpR op_eq (pv 0) pe_int (nomark _)) (pss_one (ps_raise0 hX rfl R.to.make R.to.z rfl R.to.at_ (pa_cons pe_str pa_nil))) pss_nil) (pss_cons (ps_if (pt_cmpR op_eq (pv 0) pe_int (nomark _)) (pss_one (ps_raise0 hX rfl R.ns.make R.ns.z rfl R.ns.at_ (pa_cons pe_str pa_nil))) pss_nil) (pss_cons (ps_if (pt_cmpR op_eq (pv 0) pe_int (nomark _)) (pss_one (ps_raise0 hX rfl R.ro.make R.ro.z rfl R.ro.at_ (pa_cons pe_str pa_nil))) pss_nil) (pss_one (ps_raise0 hX rfl R.bk.make R.bk.z rfl R.bk.at_ (pa_cons pe_str pa_nil))))))) (fun a => pss_one (ps_set (i := 1) scT.nd rfl (Or.inl rfl) (pv 2)))) (pss_one (ps_ret (pv 1)))), ?_⟩
    unfold Ae.bare at ht
    split at ht
    · cases ht
      refine ⟨_, rfl, rfl, _, rfl, ifYes ?_⟩
      exact ⟨(by show 1 ≤ 1000; decide), fun a ha => ⟨a, _, rfl, rfl, R.tr.hit, _, rfl, _, rfl, k a _ (new0 ha)⟩⟩
    · cases ht
      refine ⟨_, rfl, rfl, _, rfl, ifNo (by decide) ?_⟩
      refine ⟨_, rfl, rfl, _, rfl, ifYes ?_⟩
      exact ⟨(by show 1 ≤ 1000; decide), fun a ha => ⟨a, _, rfl, rfl, R.to.hit, _, rfl, _, rfl, k a _ (new0 ha)⟩⟩
    · cases ht
      refine ⟨_, rfl, rfl, _, rfl, ifNo (by decide) ?_⟩
      refine ⟨_, rfl, rfl, _, rfl, ifNo (by decide) ?_⟩
      refine ⟨_, rfl, rfl, _, rfl, ifYes ?_⟩
      exact ⟨(by show 1 ≤ 1000; decide), fun a ha => ⟨a, _, rfl, rfl, R.ns.hit, _, rfl, _, rfl, k a _ (new0 ha)⟩⟩
    · cases ht
      refine ⟨_, rfl, rfl, _, rfl, ifNo (by decide) ?_⟩
      refine ⟨_, rfl, rfl, _, rfl, ifNo (by decide) ?_⟩
      refine ⟨_, rfl, rfl, _, rfl, ifNo (by decide) ?_⟩
      refine ⟨_, rfl, rfl, _, rfl, ifYes ?_⟩
      exact ⟨(by show 1 ≤ 1000; decide), fun a ha => ⟨a, _, rfl, rfl, R.ro.hit, _, rfl, _, rfl, k a _ (new0 ha)⟩⟩
    · cases ht
      refine ⟨_, rfl, rfl, _, rfl, ifNo (by decide) ?_⟩
      refine ⟨_, rfl, rfl, _, rfl, ifNo (by decide) ?_⟩
      refine ⟨_, rfl, rfl, _, rfl, ifNo (by decide) ?_⟩
      refine ⟨_, rfl, rfl, _, rfl, ifNo (by decide) ?_⟩
      exact ⟨(by show 1 ≤ 1000; decide), fun a ha => ⟨a, _, rfl, rfl, R.bk.hit, _, rfl, _, rfl, k a _ (new0 ha)⟩⟩
    · cases ht
end
/-! _law_is_one -/
def Ae.all (t : Ae) : List Addr := [t.np, t.nb, t.na, t.nr, t.nt, t.nu, t.tr, t.to, t.ns, t.ro, t.pt, t.nn, t.nk, t.bk, t.tm]
/-- which classes are which: of each two of the fifteen, of PointError, and of five of Python's own -/
def tabOk (K : PySem.W.Frag) (t : Ae) : Bool := (List.range 15).all fun i =>
  let c := Value.ref (t.all.getD i 0)
  ((List.range 15).all fun j => PySem.W.kitOne K c (.ref (t.all.getD j 0)) == some (i == j)) && PySem.W.kitOne K c (.ref t.pe) == some (decide (i < 10)) && PySem.W.kitOne K c (.type "ValueError") == some (decide (i < 10)) &&
  PySem.W.kitOne K c (.type "KeyError") == some (i == 10 || i == 11) && PySem.W.kitOne K c (.type "IndexError") == some (i == 13) && PySem.W.kitOne K c (.type "LookupError") == some (i == 10 || i == 11 || i == 12 || i == 13) && PySem.W.kitOne K c (.type "OverflowError") == some (i == 14)
structure Tab (K : PySem.W.Frag) (t : Ae) (i : Nat) (C : Addr) : Prop where
  own : ∀ j, j < 15 → PySem.W.kitOne K (.ref C) (.ref (t.all.getD j 0)) = some (i == j)
  pe : PySem.W.kitOne K (.ref C) (.ref t.pe) = some (decide (i < 10))
  ve : PySem.W.kitOne K (.ref C) (.type "ValueError") = some (decide (i < 10))
  ke : PySem.W.kitOne K (.ref C) (.type "KeyError") = some (i == 10 || i == 11)
  ie : PySem.W.kitOne K (.ref C) (.type "IndexError") = some (i == 13)
  le : PySem.W.kitOne K (.ref C) (.type "LookupError") = some (i == 10 || i == 11 || i == 12 || i == 13)
  oe : PySem.W.kitOne K (.ref C) (.type "OverflowError") = some (i == 14)
theorem tab_of {K : PySem.W.Frag} {t : Ae} (h : tabOk K t = true) {i : Nat} (hi : i < 15) : Tab K t i (t.all.getD i 0) := by
  have h := List.all_eq_true.mp h i (List.mem_range.mpr hi)
  simp only [Bool.and_eq_true, beq_iff_eq] at h
  obtain ⟨⟨⟨⟨⟨⟨a, b⟩, c⟩, d⟩, e⟩, f⟩, g⟩ := h
  exact ⟨fun j hj => beq_iff_eq.mp (List.all_eq_true.mp a j (List.mem_range.mpr hj)), b, c, d, e, f, g⟩
structure Nms (mg : Str → Option Value) (t : Ae) : Prop where
  isi : mg "isinstance" = none
  pe : mg "PointError" = some (.ref t.pe)
  ve : mg "ValueError" = none
  ke : mg "KeyError" = none
  ie : mg "IndexError" = none
  le : mg "LookupError" = none
  oe : mg "OverflowError" = none
  np : mg "NoPoints" = some (.ref t.np)
  nb : mg "NoBox" = some (.ref t.nb)
  na : mg "NoAsks" = some (.ref t.na)
  nr : mg "NoRun" = some (.ref t.nr)
  nt : mg "NoText" = some (.ref t.nt)
  nu : mg "NoTurn" = some (.ref t.nu)
  tr : mg "NoTree" = some (.ref t.tr)
  to : mg "NoTop" = some (.ref t.to)
  ns : mg "NotServed" = some (.ref t.ns)
  ro : mg "NoRow" = some (.ref t.ro)
  pt : mg "NoPoint" = some (.ref t.pt)
  nn : mg "NoName" = some (.ref t.nn)
  nk : mg "NoKey" = some (.ref t.nk)
  bk : mg "NoBack" = some (.ref t.bk)
  tm : mg "TooMany" = some (.ref t.tm)
def spOne (K : PySem.W.Frag) (t : Ae) : Sp := fun vs H Q _ => ∃ (a C : Addr) (i : Nat), vs = [.ref a, .int i] ∧ i < 15 ∧ C = t.all.getD i 0 ∧ ExAt H a C ∧ XC K C ∧ ∀ H', Same H H' → Q (.bl true) H'
end K5
end

section
set_option Elab.async false
set_option linter.all false
set_option maxRecDepth 100000
set_option maxHeartbeats 5000000
namespace K5
open PySem L2 Ex
/-! _law_is_one: what its body asks -/
def rIsi (K : PySem.W.Frag) : List V → Hp → VK → Prop := fun xs H Q => ∃ x c t cv b, xs = [x, c] ∧ clsV c = some cv ∧ TyX K H x t ∧ PySem.W.kitOne K t cv = some b ∧ Q (.bl b) H
abbrev tIsi (K : PySem.W.Frag) (c : V) : TE := tCB (rIsi K) (tCons (tVar 0) (tCons (tC c) tNil))
abbrev tIsis (K : PySem.W.Frag) : List V → TA
  | [] => tNil
  | c :: cs => tCons (tIsi K c) (tIsis K cs)
abbrev tNums : List Int → TA
  | [] => tNil
  | c :: cs => tCons (tC (.int c)) (tNums cs)
abbrev tLt10 : TE := tOp (rI0 fun i j => .bl (decide (i < j))) (tVar 1) (tC (.int 10))
abbrev tOwn (n : Int) : TE := tOp rEq (tVar 1) (tC (.int n))
abbrev tAmong (K : PySem.W.Frag) (ns : List Int) : TE := tOp (rIn K false) (tVar 1) (tTup (tNums ns))
abbrev tNeq (a b : TE) : TT := tTest (tOp rNe a b)
abbrev tOut (c : TT) : TS := tIfS c (tRet (tC (.bl false))) tNext
abbrev tOne (K : PySem.W.Frag) (t : Ae) : TS :=
  tSeq (tAsg (tLst (tIsis K [.ref t.np, .ref t.nb, .ref t.na, .ref t.nr])) (gName 2))
  (tSeq (tAsg (tOp rCat (tVar 2) (tLst (tIsis K [.ref t.nt, .ref t.nu, .ref t.tr]))) (gName 2))
  (tSeq (tAsg (tOp rCat (tVar 2) (tLst (tIsis K [.ref t.to, .ref t.ns, .ref t.ro]))) (gName 2))
  (tSeq (tAsg (tOp rCat (tVar 2) (tLst (tIsis K [.ref t.pt, .ref t.nn, .ref t.nk]))) (gName 2))
  (tSeq (tAsg (tOp rCat (tVar 2) (tLst (tIsis K [.ref t.bk, .ref t.tm]))) (gName 2))
  (tSeq (tOut (tOr (tNeq (tBM K "list" rCount (tVar 2) (tCons (tC (.bl true)) tNil)) (tC (.int 1))) (tNeq (tBM K "list" rIndex (tVar 2) (tCons (tC (.bl true)) tNil)) (tVar 1))))
  (tSeq (tOut (tOr (tNeq (tIsi K (.ref t.pe)) tLt10) (tNeq (tIsi K (.ty "ValueError")) tLt10)))
  (tSeq (tOut (tOr (tNeq (tIsi K (.ty "KeyError")) (tAmong K [10, 11])) (tNeq (tIsi K (.ty "IndexError")) (tOwn 13))))
  (tSeq (tOut (tNeq (tIsi K (.ty "LookupError")) (tAmong K [10, 11, 12, 13])))
  (tRet (tOp rEq (tIsi K (.ty "OverflowError")) (tOwn 14)))))))))))
theorem _root_.L2.ExAt.same {H H' : Hp} {a C : Addr} (x : ExAt H a C) (s : Same H H') : ExAt H' a C := by
  obtain ⟨fr, q | ⟨d, fs, q, q2⟩⟩ := x
  · exact ⟨fr, .inl (s _ _ q)⟩
  · exact ⟨fr, .inr ⟨d, fs, s _ _ q, s _ _ q2⟩⟩
theorem same_new {H : Hp} {p : Addr} {o : HO} (h : H p = none) : Same H (upd H p o) := fun b u e => by rw [upd_ne (ne_of_none e h)]; exact e
section
variable {K : PySem.W.Frag} {t : Ae} {a C : Addr} {i : Nat} {v : Option V} {H : Hp}
abbrev St3 (a : Addr) (i : Nat) (v : Option V) : St := [some (.ref a), some (.int i), v]
theorem isi_ok {c : V} {cv : Value} {b : Bool} {Q : VK} (ex : ExAt H a C) (xc : XC K C) (hc : clsV c = some cv) (hk : PySem.W.kitOne K (.ref C) cv = some b) (q : Q (.bl b) H) : tIsi K c (St3 a i v) H Q :=
  ⟨.ref a, rfl, .ref a, c, .ref C, cv, b, rfl, hc, .inr ⟨a, C, rfl, rfl, ex, xc⟩, hk, q⟩
theorem isis_ok (ex : ExAt H a C) (xc : XC K C) : ∀ {cs : List V} {bs : List Bool} {Q : List V → Hp → Prop}, Paired (fun c b => ∃ cv, clsV c = some cv ∧ PySem.W.kitOne K (.ref C) cv = some b) cs bs → Q (bs.map V.bl) H → tIsis K cs (St3 a i v) H Q
  | _, _, Q, .nil, q => q
  | c :: cs, b :: bs, Q, .cons ⟨cv, h1, h2⟩ r, q => isi_ok ex xc h1 h2 (isis_ok ex xc r q)
theorem cat_ok {cs : List V} {bs : List Bool} {xs : List V} {l : Addr} {D : Ends} (ex : ExAt H a C) (xc : XC K C) (r : Paired (fun c b => ∃ cv, clsV c = some cv ∧ PySem.W.kitOne K (.ref C) cv = some b) cs bs) (hl : H l = some (.lst xs)) (hx : xs.length ≤ 100) (hb : bs.length ≤ 100)
    (k : ∀ l' H', Same H H' → H' l' = some (.lst (xs ++ bs.map V.bl)) → D.nx (St3 a i (some (.ref l'))) H') : tAsg (tOp rCat (tVar 2) (tLst (tIsis K cs))) (gName 2) D (St3 a i (some (.ref l))) H := by
  have z : (200 : Nat) ≤ sizeLine := by decide
  refine ⟨_, rfl, isis_ok ex xc r ⟨by rw [List.length_map]; omega, fun p hp => ?_⟩⟩
  refine ⟨l, p, xs, bs.map V.bl, rfl, rfl, ?_, upd_same, by rw [List.length_map]; omega, fun p' hp' => ?_⟩
  · rw [upd_ne (ne_of_none hl hp)]; exact hl
  · exact k p' _ ((same_new hp).trans (same_new hp')) upd_same
theorem tyL {K : PySem.W.Frag} {H : Hp} {p : Addr} {xs : List V} (h : H p = some (.lst xs)) : tyV K "list" (.ref p) H := .inl ⟨rfl, xs, .inl (.inl h)⟩
theorem nb {x y : V} (e : x = y) : V.bl (!decide (x = y)) = .bl false := by rw [decide_eq_true e]; rfl
end
/-- which of the fifteen, as truths -/
def kindsOf (i : Nat) : List Bool := [i == 0, i == 1, i == 2, i == 3, i == 4, i == 5, i == 6, i == 7, i == 8, i == 9, i == 10, i == 11, i == 12, i == 13, i == 14]
theorem kinds_count : ∀ i, i < 15 → ((kindsOf i).map V.bl).countP (fun z => eqV z (.bl true)) = 1 := by decide +kernel
theorem kinds_flat : ∀ i, ((kindsOf i).map V.bl).all flatV = true := fun i => rfl
theorem kinds_at : ∀ i, i < 15 → ((kindsOf i).map V.bl)[i]? = some (.bl true) := by decide +kernel
theorem kinds_under : ∀ i, i < 15 → ∀ m, m < i → ((kindsOf i).map V.bl)[m]? = some (.bl false) := by decide +kernel
theorem own_lt : ∀ i : Nat, i < 15 → V.bl (decide (i < 10)) = .bl (decide ((i : Int) < 10)) := by decide +kernel
theorem own_10 : ∀ i : Nat, i < 15 → V.bl (i == 10 || i == 11) = .bl (inV (.int i) [.int 10, .int 11]) := by decide +kernel
theorem own_13 : ∀ i : Nat, i < 15 → V.bl (i == 13) = .bl (decide (V.int i = V.int 13)) := by decide +kernel
theorem own_4 : ∀ i : Nat, i < 15 → V.bl (i == 10 || i == 11 || i == 12 || i == 13) = .bl (inV (.int i) [.int 10, .int 11, .int 12, .int 13]) := by decide +kernel
theorem own_14 : ∀ i : Nat, i < 15 → V.bl (i == 14) = .bl (decide (V.int i = V.int 14)) := by decide +kernel
section
variable {K : PySem.W.Frag} {t : Ae} {a : Addr} {i : Nat} {H : Hp}
theorem read_one {Q : VK} {D : Ends} (TB : tabOk K t = true) (hi : i < 15) (ex : ExAt H a (t.all.getD i 0)) (xc : XC K (t.all.getD i 0)) (hD : D.rt = Q) (k : ∀ H', Same H H' → Q (.bl true) H') : tOne K t D (St3 a i none) H := by
  have T := tab_of TB hi
  have own : ∀ j (hj : j < 15), ∃ cv, clsV (.ref (t.all.getD j 0)) = some cv ∧ PySem.W.kitOne K (.ref (t.all.getD i 0)) cv = some (i == j) := fun j hj => ⟨_, rfl, T.own j hj⟩
  have z : (200 : Nat) ≤ sizeLine := by decide
  refine isis_ok ex xc (bs := [i == 0, i == 1, i == 2, i == 3]) (.cons (own 0 (by decide)) (.cons (own 1 (by decide)) (.cons (own 2 (by decide)) (.cons (own 3 (by decide)) .nil)))) ⟨Nat.le_trans (by decide : 4 ≤ 200) z, fun p1 hp1 => ?_⟩
  have s1 := same_new (o := HO.lst ([i == 0, i == 1, i == 2, i == 3].map V.bl)) hp1
  refine cat_ok (D := { D with nx := _ }) (bs := [i == 4, i == 5, i == 6]) (ex.same s1) xc (.cons (own 4 (by decide)) (.cons (own 5 (by decide)) (.cons (own 6 (by decide)) .nil))) upd_same (by show (4 : Nat) ≤ 100; decide) (by show (3 : Nat) ≤ 100; decide) fun p2 H2 s2 h2 => ?_
  have s2 := s1.trans s2
  refine cat_ok (D := { D with nx := _ }) (bs := [i == 7, i == 8, i == 9]) (ex.same s2) xc (.cons (own 7 (by decide)) (.cons (own 8 (by decide)) (.cons (own 9 (by decide)) .nil))) h2 (by show (7 : Nat) ≤ 100; decide) (by show (3 : Nat) ≤ 100; decide) fun p3 H3 s3 h3 => ?_
  have s3 := s2.trans s3
  refine cat_ok (D := { D with nx := _ }) (bs := [i == 10, i == 11, i == 12]) (ex.same s3) xc (.cons (own 10 (by decide)) (.cons (own 11 (by decide)) (.cons (own 12 (by decide)) .nil))) h3 (by show (10 : Nat) ≤ 100; decide) (by show (3 : Nat) ≤ 100; decide) fun p4 H4 s4 h4 => ?_
  have s4 := s3.trans s4
  refine cat_ok (D := { D with nx := _ }) (bs := [i == 13, i == 14]) (ex.same s4) xc (.cons (own 13 (by decide)) (.cons (own 14 (by decide)) .nil)) h4 (by show (13 : Nat) ≤ 100; decide) (by show (2 : Nat) ≤ 100; decide) fun p5 H5 s5 h5 => ?_
  have s5 := s4.trans s5
  have h5 : H5 p5 = some (.lst ((kindsOf i).map V.bl)) := h5
  have x5 := ex.same s5
  refine ⟨_, rfl, tyL h5, p5, _, .bl true, rfl, rfl, h5, rfl, kinds_flat i, rfl, false, nb (by rw [kinds_count i hi]; rfl), ?_⟩
  refine iteF ⟨_, rfl, tyL h5, p5, _, .bl true, i, rfl, rfl, h5, rfl, kinds_flat i, ⟨_, kinds_at i hi, rfl⟩, fun m w hm hw => ?_, by omega, _, rfl, rfl, false, nb rfl, iteF ?_⟩
  · rw [kinds_under i hi m hm] at hw; cases hw; rfl
  refine isi_ok x5 xc rfl T.pe ⟨_, rfl, _, _, rfl, rfl, rfl, false, nb (own_lt i hi), iteF ?_⟩
  refine isi_ok x5 xc rfl T.ve ⟨_, rfl, _, _, rfl, rfl, rfl, false, nb (own_lt i hi), iteF ?_⟩
  refine isi_ok x5 xc rfl T.ke ⟨_, rfl, ⟨Nat.le_trans (by decide : 2 ≤ 200) z, fun p6 hp6 => ⟨p6, _, rfl, .inr (.inl (.inl upd_same)), rfl, rfl, rfl, false, nb (own_10 i hi), iteF ?_⟩⟩⟩
  have s6 := s5.trans (same_new (o := HO.tup [.int 10, .int 11]) hp6)
  refine isi_ok (ex.same s6) xc rfl T.ie ⟨_, rfl, rfl, rfl, false, nb (own_13 i hi), iteF ?_⟩
  refine isi_ok (ex.same s6) xc rfl T.le ⟨_, rfl, ⟨Nat.le_trans (by decide : 4 ≤ 200) z, fun p7 hp7 => ⟨p7, _, rfl, .inr (.inl (.inl upd_same)), rfl, rfl, rfl, false, nb (own_4 i hi), iteF ?_⟩⟩⟩
  have s7 := s6.trans (same_new (o := HO.tup [.int 10, .int 11, .int 12, .int 13]) hp7)
  refine isi_ok (ex.same s7) xc rfl T.oe ⟨_, rfl, rfl, rfl, ?_⟩
  rw [decide_eq_true (own_14 i hi), hD]
  exact k _ s7
end
end K5
end

section
set_option Elab.async false
set_option linter.all false
set_option maxRecDepth 100000
set_option maxHeartbeats 5000000
namespace K5
open PySem L2 Ex
section
variable {P : Program} {w : World} {K : PySem.W.Frag} {mg : Str → Option Value} {base : Heap}
theorem scO : FnScope ["_law_error", "_law_own", "_law_kinds"] ["_law_error", "_law_own"] (defScope sOne) := ⟨rfl, rfl, rfl, by decide +kernel, rfl, by decide +kernel, by decide +kernel⟩
theorem ok_one {f : Addr} {fd : FuncData} {t : Ae} (F : Fun K "_law_is_one" "_law_is_one" sOne f fd) (N : Nms mg t) (TB : tabOk K t = true) : FnOk P w K mg base CX0 1 f fd ["_law_error", "_law_own"] (spOne K t) := by
  refine F.ok scO (fun vs H Q E h => ?_) (fun cdv A outer s H vs Q E hr h => ?_)
  · obtain ⟨a, C, i, rfl, _⟩ := h
    rfl
  · obtain ⟨a, C, i, rfl, hi, rfl, ex, xc, k⟩ := h
    refine ⟨tOne K t, pss_cons (ps_set (i := 2) scO.nd rfl (Or.inl rfl) (pe_lst (pa_cons (pe_callB call_isinst rfl N.isi (by decide +kernel) (pa_cons (pv 0) (pa_cons (pe_glob (v := .ref t.np) rfl N.np rfl) pa_nil))) (pa_cons (pe_callB call_isinst rfl N.isi (by decide +kernel) (pa_cons (pv 0) (pa_cons (pe_glob (v := .ref t.nb) rfl N.nb rfl) pa_nil))) (pa_cons (pe_callB call_isinst rfl N.isi (by decide +kernel) (pa_cons (pv 0) (pa_cons (pe_glob (v := .ref t.na) rfl N.na rfl) pa_nil))) (pa_cons (pe_callB call_isinst rfl N.isi (by decide +kernel) (pa_cons (pv 0) (pa_cons (pe_glob (v := .ref t.nr) rfl N.nr rfl) pa_nil))) pa_nil)))))) (pss_cons (ps_set (i := 2) scO.nd rfl (Or.inl rfl) (pe_op op_cat (pv 2) (pe_lst (pa_cons (pe_callB call_isinst rfl N.isi (by decide +kernel) (pa_cons (pv 0) (pa_cons (pe_glob (v := .ref t.nt) rfl N.nt rfl) pa_nil))) (pa_cons (pe_callB call_isinst rfl N.isi (by decide +kernel) (pa_cons (pv 0) (pa_cons (pe_glob (v := .ref t.nu) rfl N.nu rfl) pa_nil))) (pa_cons (pe_callB call_isinst rfl N.isi (by decide +kernel) (pa_cons (pv 0) (pa_cons (pe_glob (v := .ref t.tr) rfl N.tr rfl) pa_nil))) pa_nil)))))) (pss_cons (ps_set (i := 2) scO.nd rfl (Or.inl rfl) (pe_op op_cat (pv 2) (pe_lst (pa_cons (pe_callB call_isinst rfl N.isi (by decide +kernel) (pa_cons (pv 0) (pa_cons (pe_glob (v := .ref t.to) rfl N.to rfl) pa_nil))) (pa_cons (pe_callB call_isinst rfl N.isi (by decide +kernel) (pa_cons (pv 0) (pa_cons (pe_glob (v := .ref t.ns) rfl N.ns rfl) pa_nil))) (pa_cons (pe_callB call_isinst rfl N.isi (by decide +kernel) (pa_cons (pv 0) (pa_cons (pe_glob (v := .ref t.ro) rfl N.ro rfl) pa_nil))) pa_nil)))))) (pss_cons (ps_set (i := 2) scO.nd rfl (Or.inl rfl) (pe_op op_cat (pv 2) (pe_lst (pa_cons (pe_callB call_isinst rfl N.isi (by decide +kernel) (pa_cons (pv 0) (pa_cons (pe_glob (v := .ref t.pt) rfl N.pt rfl) pa_nil))) (pa_cons (pe_callB call_isinst rfl N.isi (by decide +kernel) (pa_cons (pv 0) (pa_cons (pe_glob (v := .ref t.nn) rfl N.nn rfl) pa_nil))) (pa_cons (pe_callB call_isinst rfl N.isi (by decide +kernel) (pa_cons (pv 0) (pa_cons (pe_glob (v := .ref t.nk) rfl N.nk rfl) pa_nil))) pa_nil)))))) (pss_cons (ps_set (i := 2) scO.nd rfl (Or.inl rfl) (pe_op op_cat (pv 2) (pe_lst (pa_cons (pe_callB call_isinst rfl N.isi (by decide +kernel) (pa_cons (pv 0) (pa_cons (pe_glob (v := .ref t.bk) rfl N.bk rfl) pa_nil))) (pa_cons (pe_callB call_isinst rfl N.isi (by decide +kernel) (pa_cons (pv 0) (pa_cons (pe_glob (v := .ref t.tm) rfl N.tm rfl) pa_nil))) pa_nil))))) (pss_cons (ps_if (PW.pt (pw_or (pt_cmpR op_ne (pe_bm PySem.F.plainAttrs_list PySem.F.slot_list_count PySem.F.type_list_count mt_count (pv 2) (pa_cons pe_bl pa_nil)) pe_int (nomark _)) (pw_or1 (pt_cmpR op_ne (pe_bm PySem.F.plainAttrs_list PySem.F.slot_list_index PySem.F.type_list_index mt_index (pv 2) (pa_cons pe_bl pa_nil)) (pv 1) (nomark _))))) (pss_one (ps_ret pe_bl)) pss_nil) (pss_cons (ps_if (PW.pt (pw_or (pt_cmpR op_ne (pe_callB call_isinst rfl N.isi (by decide +kernel) (pa_cons (pv 0) (pa_cons (pe_glob (v := .ref t.pe) rfl N.pe rfl) pa_nil))) (pe_cmpR op_lt (pv 1) pe_int (nomark _)) (nomark _)) (pw_or1 (pt_cmpR op_ne (pe_callB call_isinst rfl N.isi (by decide +kernel) (pa_cons (pv 0) (pa_cons (pe_bltn (v := .ty "ValueError") (u := .type "ValueError") rfl N.ve (by decide +kernel) rfl) pa_nil))) (pe_cmpR op_lt (pv 1) pe_int (nomark _)) (nomark _))))) (pss_one (ps_ret pe_bl)) pss_nil) (pss_cons (ps_if (PW.pt (pw_or (pt_cmpR op_ne (pe_callB call_isinst rfl N.isi (by decide +kernel) (pa_cons (pv 0) (pa_cons (pe_bltn (v := .ty "KeyError") (u := .type "KeyError") rfl N.ke (by decide +kernel) rfl) pa_nil))) (pe_cmpR op_in_seq (pv 1) (pe_tup (pa_cons pe_int (pa_cons pe_int pa_nil))) rfl) (nomark _)) (pw_or1 (pt_cmpR op_ne (pe_callB call_isinst rfl N.isi (by decide +kernel) (pa_cons (pv 0) (pa_cons (pe_bltn (v := .ty "IndexError") (u := .type "IndexError") rfl N.ie (by decide +kernel) rfl) pa_nil))) (pe_cmpR op_eq (pv 1) pe_int (nomark _)) (nomark _))))) (pss_one (ps_ret pe_bl)) pss_nil) (pss_cons (ps_if (pt_cmpR op_ne (pe_callB call_isinst rfl N.isi (by decide +kernel) (pa_cons (pv 0) (pa_cons (pe_bltn (v := .ty "LookupError") (u := .type "LookupError") rfl N.le (by decide +kernel) rfl) pa_nil))) (pe_cmpR op_in_seq (pv 1) (pe_tup (pa_cons pe_int (pa_cons pe_int (pa_cons pe_int (pa_cons pe_int pa_nil))))) rfl) (nomark _)) (pss_one (ps_ret pe_bl)) pss_nil) (pss_one (ps_ret (pe_cmpR op_eq (pe_callB call_isinst rfl N.isi (by decide +kernel) (pa_cons (pv 0) (pa_cons (pe_bltn (v := .ty "OverflowError") (u := .type "OverflowError") rfl N.oe (by decide +kernel) rfl) pa_nil))) (pe_cmpR op_eq (pv 1) pe_int (nomark _)) (nomark _)))))))))))), ?_⟩
    exact read_one TB hi ex xc rfl k
end
end K5
end

section
set_option Elab.async false
set_option linter.all false
set_option maxRecDepth 100000
set_option maxHeartbeats 5000000
namespace K5
open PySem L2 Ex
abbrev sCell : Stmt := top 18
abbrev sPool : Stmt := top 19
abbrev sTake : Stmt := top 20
/-! the numbers that are drawn -/
def spCell (K : PySem.W.Frag) : Sp := fun vs H Q _ => ∃ (a : Addr) (ns : List Int) (k : Nat), vs = [.ref a, .int k] ∧ SqL K H a (ns.map V.int) ∧ ∀ z : Int, Q (.int z) H
def PoolAt (H : Hp) (p : Addr) : Prop := ∃ c d : Int, H p = some (.lst [.int c, .int d]) ∧ 0 ≤ c ∧ 0 ≤ d ∧ d < 2147483647
def spPool (K : PySem.W.Frag) : Sp := fun vs H Q _ => ∃ (a : Addr) (ns : List Int) (k : Nat), vs = [.ref a, .int k] ∧ k ≤ 100 ∧ SqL K H a (ns.map V.int) ∧ ∀ p (c d : Int), H p = none → 0 ≤ c → 0 ≤ d → d < 2147483647 → Q (.ref p) (upd H p (.lst [.int c, .int d]))
def spTake : Sp := fun vs H Q _ => ∃ (p : Addr) (m : Int) (c d : Int), vs = [.ref p, .int m] ∧ 0 < m ∧ m < 1000 ∧ H p = some (.lst [.int c, .int d]) ∧ 0 ≤ c ∧ 0 ≤ d ∧ d < 2147483647 ∧
  ∀ r c' d' : Int, 0 ≤ r → r < m → 0 ≤ c' → 0 ≤ d' → d' < 2147483647 → Q (.int r) (upd H p (.lst [.int c', .int d']))
section
variable {P : Program} {w : World} {K : PySem.W.Frag} {mg : Str → Option Value} {base : Heap}
theorem scC : FnScope ["_law_script", "_law_k"] ["_law_script", "_law_k"] (defScope sCell) := ⟨rfl, rfl, rfl, by decide +kernel, rfl, by decide +kernel, by decide +kernel⟩
theorem ok_cell {f : Addr} {fd : FuncData} (F : Fun K "_law_cell_at" "_law_cell_at" sCell f fd) (hlen : mg "len" = none) : FnOk P w K mg base CX0 1 f fd ["_law_script", "_law_k"] (spCell K) := by
  refine F.ok scC (fun vs H Q E h => ?_) (fun cdv A outer s H vs Q E hr h => ?_)
  · obtain ⟨a, ns, k, rfl, _⟩ := h
    rfl
  · obtain ⟨a, ns, k, rfl, hS, q⟩ := h
    refine ⟨_, pss_cons (ps_if (pt_cmpR op_lt (pv 1) (pe_callB call_len_seq (by rfl) hlen PySem.boot_len (pa_cons (pv 0) pa_nil)) (nomark _)) (pss_one (ps_ret (pe_ix ix_list (pv 0) (pv 1) (fun _ _ => rfl)))) pss_nil) (pss_one (ps_ret pe_int)), ?_⟩
    refine ⟨_, rfl, _, rfl, a, _, rfl, .inl hS, _, _, rfl, rfl, _, rfl, ite2 (fun h => ?_) (fun _ => q 0)⟩
    have hk : k < ns.length := by
      have := of_decide_eq_true h
      rw [List.length_map] at this
      exact Int.ofNat_lt.mp this
    refine ⟨_, rfl, _, rfl, a, _, _, .int ns[k], rfl, rfl, hS, atI_nat ?_, q _⟩
    rw [List.getElem?_map, List.getElem?_eq_getElem hk]; rfl
theorem scP : FnScope ["_law_script", "_law_k", "_law_cell", "_law_seed"] ["_law_script", "_law_k"] (defScope sPool) := ⟨rfl, rfl, rfl, by decide +kernel, rfl, by decide +kernel, by decide +kernel⟩
theorem ok_pool {f g : Addr} {fd gd : FuncData} (F : Fun K "_law_pool" "_law_pool" sPool f fd) (G : FnOk P w K mg base CX0 1 g gd ["_law_script", "_law_k"] (spCell K)) (mgG : mg "_law_cell_at" = some (.ref g)) (kG : PySem.W.keepIn K (.ref g) = true) (bG : Binds K gd ["_law_script", "_law_k"] []) :
    FnOk P w K mg base CX0 2 f fd ["_law_script", "_law_k"] (spPool K) := by
  refine F.ok scP (fun vs H Q E h => ?_) (fun cdv A outer s H vs Q E hr h => ?_)
  · obtain ⟨a, ns, k, rfl, _⟩ := h
    rfl
  · obtain ⟨a, ns, k, rfl, hk, hS, q⟩ := h
    refine ⟨_, pss_cons (ps_set (i := 2) scP.nd rfl (Or.inl rfl) (pe_call G hr rfl mgG kG bG .nil pass0 (pa_cons (pv 0) (pa_cons (pv 1) pa_nil))))
      (pss_cons (ps_set (i := 3) scP.nd rfl (Or.inl rfl) (pe_op op_mod (pe_op op_mul (pe_op op_add (pe_op op_add (pe_op op_add (pe_op op_mod (pv 2) pe_int) (pe_op op_mul (pe_op op_mul pe_int (pv 1)) (pv 1))) (pe_op op_mul pe_int (pv 1))) pe_int) pe_int) pe_int))
      (pss_cons (ps_if (pt_cmpR op_lt (pv 2) (pe_op op_pow pe_int pe_int) (nomark _)) (pss_one (ps_set (i := 2) scP.nd rfl (Or.inl rfl) pe_int)) pss_nil)
      (pss_one (ps_ret (pe_lst (pa_cons (pv 2) (pa_cons (pe_op op_mod (pe_op op_mul (pv 3) (pv 3)) pe_int) pa_nil))))))), ?_⟩
    refine ⟨_, rfl, _, rfl, a, ns, k, rfl, hS, fun z => ?_⟩
    have b1 := Int.emod_nonneg z (by decide : (2147483629 : Int) ≠ 0)
    have b2 := Int.emod_lt_of_pos z (by decide : (0 : Int) < 2147483629)
    refine ⟨_, rfl, _, _, rfl, rfl, (by show (0 : Int) < 2147483629; decide), _, rfl, _, _, rfl, rfl, .inl (by constructor <;> decide), _, rfl, _, _, rfl, rfl, .inr (by constructor <;> omega), _, _, rfl, rfl, _, rfl, _, _, rfl, rfl, .inl (by constructor <;> decide), _, _, rfl, rfl, _, _, rfl, rfl, _, _, rfl, rfl, .inr (by constructor <;> decide), _, _, rfl, rfl, (by show (0 : Int) < 2147483647; decide), ?_⟩
    generalize hy : ((z % 2147483629 + 7919 * (k : Int) * k + 104729 * k + 1) * 48271 % 2147483647) = y
    have y1 : 0 ≤ y := hy ▸ Int.emod_nonneg _ (by decide)
    have y2 : y < 2147483647 := hy ▸ Int.emod_lt_of_pos _ (by decide)
    have b3 := Int.emod_nonneg (y * y) (by decide : (2147483629 : Int) ≠ 0)
    have b4 := Int.emod_lt_of_pos (y * y) (by decide : (0 : Int) < 2147483629)
    refine ⟨_, rfl, _, _, rfl, rfl, ⟨by decide, by decide, by decide⟩, _, _, rfl, rfl, _, rfl, ite2 (fun h => ?_) (fun h => ?_)⟩
    · refine ⟨_, rfl, _, rfl, _, rfl, _, _, rfl, rfl, .inl (by constructor <;> omega), _, _, rfl, rfl, (by show (0 : Int) < 2147483629; decide), (by show (2 : Nat) ≤ sizeLine; decide), fun p hp => ?_⟩
      exact q p 0 _ hp (Int.le_refl _) (Int.emod_nonneg _ (by decide)) (Int.lt_trans (Int.emod_lt_of_pos _ (by decide)) (by decide))
    · have hz : (10 : Int) ^ 18 ≤ z := by
        have h' : ¬ (z < 10 ^ (18 : Int).toNat) := fun x => h (decide_eq_true x)
        have e : (18 : Int).toNat = 18 := rfl
        rw [e] at h'
        omega
      refine ⟨_, rfl, _, rfl, _, rfl, _, _, rfl, rfl, .inl (by constructor <;> omega), _, _, rfl, rfl, (by show (0 : Int) < 2147483629; decide), (by show (2 : Nat) ≤ sizeLine; decide), fun p hp => ?_⟩
      exact q p z _ hp (by omega) (Int.emod_nonneg _ (by decide)) (Int.lt_trans (Int.emod_lt_of_pos _ (by decide)) (by decide))
theorem scTk : FnScope ["_law_pool_here", "_law_many", "_law_found"] ["_law_pool_here", "_law_many"] (defScope sTake) := ⟨rfl, rfl, rfl, by decide +kernel, rfl, by decide +kernel, by decide +kernel⟩
theorem ok_take {f : Addr} {fd : FuncData} (F : Fun K "_law_take" "_law_take" sTake f fd) : FnOk P w K mg base CX0 1 f fd ["_law_pool_here", "_law_many"] spTake := by
  refine F.ok scTk (fun vs H Q E h => ?_) (fun cdv A outer s H vs Q E hr h => ?_)
  · obtain ⟨p, m, c, d, rfl, _⟩ := h
    rfl
  · obtain ⟨p, m, c, d, rfl, m0, m1, hp, c0, d0, d1, q⟩ := h
    refine ⟨_, pss_cons (ps_if (pt_cmpR op_gt (pe_ix ix_list (pv 0) pe_int (fun _ _ => rfl)) pe_int (nomark _))
        (pss_cons (ps_set (i := 2) scTk.nd rfl (Or.inl rfl) (pe_op op_mod (pe_ix ix_list (pv 0) pe_int (fun _ _ => rfl)) (pv 1)))
        (pss_cons (ps_asg (pe_op op_fdiv (pe_ix ix_list (pv 0) pe_int (fun _ _ => rfl)) (pv 1)) (pg_sub (pv 0) pe_int set_list))
        (pss_one (ps_ret (pv 2))))) pss_nil)
      (pss_cons (ps_asg (pe_op op_mod (pe_op op_add (pe_op op_mul (pe_ix ix_list (pv 0) pe_int (fun _ _ => rfl)) pe_int) pe_int) pe_int) (pg_sub (pv 0) pe_int set_list))
      (pss_one (ps_ret (pe_op op_mod (pe_op op_fdiv (pe_op op_mod (pe_op op_mul (pe_ix ix_list (pv 0) pe_int (fun _ _ => rfl)) (pe_ix ix_list (pv 0) pe_int (fun _ _ => rfl))) pe_int) pe_int) (pv 1))))), ?_⟩
    refine ⟨_, rfl, p, _, _, .int c, rfl, rfl, SqL.of hp, rfl, _, _, rfl, rfl, _, rfl, ite2 (fun h => ?_) (fun h => ?_)⟩
    · have hc : 0 < c := of_decide_eq_true h
      refine ⟨_, rfl, p, _, _, .int c, rfl, rfl, SqL.of hp, rfl, _, rfl, _, _, rfl, rfl, m0, ?_⟩
      refine ⟨_, rfl, p, _, _, .int c, rfl, rfl, SqL.of hp, rfl, _, rfl, _, _, rfl, rfl, ⟨m0, by omega⟩, ?_⟩
      refine ⟨_, rfl, p, _, _, 0, rfl, rfl, hp, rfl, ?_⟩
      exact ⟨_, rfl, q _ _ _ (Int.emod_nonneg _ (by omega)) (Int.emod_lt_of_pos _ m0) (Int.ediv_nonneg c0 (by omega)) d0 d1⟩
    · refine ⟨_, rfl, p, _, _, .int d, rfl, rfl, SqL.of hp, rfl, _, _, rfl, rfl, .inr (by constructor <;> decide), _, _, rfl, rfl, _, _, rfl, rfl, (by show (0 : Int) < 2147483647; decide), ?_⟩
      have y1 : 0 ≤ (d * 48271 + 11) % 2147483647 := Int.emod_nonneg _ (by decide)
      have y2 : (d * 48271 + 11) % 2147483647 < 2147483647 := Int.emod_lt_of_pos _ (by decide)
      refine ⟨_, rfl, p, _, _, 1, rfl, rfl, hp, rfl, ?_⟩
      refine ⟨_, rfl, p, _, _, .int ((d * 48271 + 11) % 2147483647), rfl, rfl, SqL.of upd_same, rfl, _, rfl, p, _, _, .int ((d * 48271 + 11) % 2147483647), rfl, rfl, SqL.of upd_same, rfl, _, _, rfl, rfl, .inl (by constructor <;> omega), _, _, rfl, rfl, (by show (0 : Int) < 2147483629; decide), _, _, rfl, rfl, ⟨by decide, by decide⟩, _, rfl, _, _, rfl, rfl, m0, ?_⟩
      exact q _ _ _ (Int.emod_nonneg _ (by omega)) (Int.emod_lt_of_pos _ m0) c0 y1 y2
end
end K5
end

section
set_option Elab.async false
set_option linter.all false
set_option maxRecDepth 100000
set_option maxHeartbeats 5000000
namespace K5
open PySem L2 Ex
/-! the law: its parts -/
def Good (d : PyData) : Bool := d.showable && !d.hasDict && decide (d.depth ≤ 10) && d.leavesShort 30 && decide (d.bulk ≤ 10)
theorem good_int : ∀ r : Nat, r < 31 → Good (.int r) = true := by decide +kernel
theorem good_tup : ∀ r : Nat, r < 9 → Good (.tuple [.int r, .int 1]) = true := by decide +kernel
theorem good_name : Good (.str "name") = true := by decide +kernel
theorem good_l3 : Good (.list [.int 3]) = true := by decide +kernel
theorem good_big : Good (.int (10 ^ 20)) = true := by decide +kernel
structure Dat (H : Hp) (v : V) (d : PyData) : Prop where
  at_ : DatV H v d
  good : Good d = true
theorem Good.parts {d : PyData} (h : Good d = true) : d.showable = true ∧ d.hasDict = false ∧ d.depth ≤ 10 ∧ d.leavesShort 30 = true ∧ d.bulk ≤ 10 := by
  unfold Good at h
  simp only [Bool.and_eq_true, Bool.not_eq_true', decide_eq_true_eq] at h
  exact ⟨h.1.1.1.1, h.1.1.1.2, h.1.1.2, h.1.2, h.2⟩
theorem goods {ds : List PyData} (h : ∀ d ∈ ds, Good d = true) : PyData.showableAll ds = true ∧ PyData.hasDictAll ds = false ∧ PyData.depthAll ds ≤ 10 ∧ PyData.leavesShortAll 30 ds = true ∧ PyData.bulkAll ds ≤ 11 * ds.length := by
  induction ds with
  | nil => exact ⟨rfl, rfl, Nat.zero_le _, rfl, Nat.zero_le _⟩
  | cons d ds ih =>
    obtain ⟨a, b, c, e, f⟩ := Good.parts (h d (List.mem_cons_self ..))
    obtain ⟨a', b', c', e', f'⟩ := ih fun d hd => h d (List.mem_cons_of_mem _ hd)
    refine ⟨?_, ?_, ?_, ?_, ?_⟩
    · simp only [PyData.showableAll, a, a', Bool.and_self]
    · simp only [PyData.hasDictAll, b, b', Bool.or_self]
    · simp only [PyData.depthAll]; omega
    · simp only [PyData.leavesShortAll, e, e', Bool.and_self]
    · simp only [PyData.bulkAll, List.length_cons]; omega
theorem good_list {ds : List PyData} (h : ∀ d ∈ ds, Good d = true) (hl : ds.length ≤ 20) : (PyData.list ds).showable = true ∧ (PyData.list ds).hasDict = false ∧ (PyData.list ds).depth ≤ 50 ∧ (PyData.list ds).shown.length ≤ sizeLine := by
  obtain ⟨a, b, c, e, f⟩ := goods h
  have z : (20000 : Nat) ≤ sizeLine := by decide
  refine ⟨by simpa only [PyData.showable] using a, by simpa only [PyData.hasDict] using b, by simp only [PyData.depth]; omega, ?_⟩
  have s := PyData.shown_le_bulk 30 (by decide) (.list ds) (by simpa only [PyData.leavesShort] using e)
  have e2 : (PyData.list ds).bulk = PyData.bulkAll ds := by simp only [PyData.bulk]
  rw [e2] at s
  have : PyData.bulkAll ds ≤ 220 := by omega
  omega
mutual
theorem DatV.same {H H' : Hp} (s : Same H H') : ∀ {x : V} {d : PyData}, DatV H x d → DatV H' x d
  | _, _, .non => .non
  | _, _, .bl b => .bl b
  | _, _, .int i => .int i
  | _, _, .str x => .str x
  | _, _, .lst e D => .lst (s _ _ e) (DatsV.same s D)
  | _, _, .tup e D => .tup (s _ _ e) (DatsV.same s D)
theorem DatsV.same {H H' : Hp} (s : Same H H') : ∀ {xs : List V} {ds : List PyData}, DatsV H xs ds → DatsV H' xs ds
  | _, _, .nil => .nil
  | _, _, .cons a b => .cons (DatV.same s a) (DatsV.same s b)
end
theorem Dat.same {H H' : Hp} {v : V} {d : PyData} (h : Dat H v d) (s : Same H H') : Dat H' v d := ⟨DatV.same s h.at_, h.good⟩

abbrev tTake (m : Int) : TE := tCall spTake [] E0 (tCons (tVar 2) (tCons (tC (.int m)) tNil))
abbrev tPool (K : PySem.W.Frag) : TE := tCall (spPool K) [] E0 (tCons (tVar 0) (tCons (tVar 1) tNil))
abbrev tThings : TE := tLst (tCons (tTake 31) (tCons (tC .non) (tCons (tTup (tCons (tTake 9) (tCons (tC (.int 1)) tNil))) (tCons (tC (.str "name")) (tCons (tC (.bl true)) (tCons (tLst (tCons (tC (.int 3)) tNil)) (tCons (tOp (rI CPow fun i j => .int (i ^ j.toNat)) (tC (.int 10)) (tC (.int 20))) tNil)))))))
abbrev St9 (a : Addr) (k p th one ot ow fo to : Option V) : St := [some (.ref a), k, p, th, one, ot, ow, fo, to]
/-- all but the pool is as it was -/
def SameB (p : Addr) (H H' : Hp) : Prop := ∀ b o, b ≠ p → H b = some o → H' b = some o
section
variable {K : PySem.W.Frag} {t : Ae} {a : Addr} {H H0 : Hp} {D : Ends} {u : TS}
theorem take_ok {m : Int} {a p : Addr} {k th one ot ow fo to : Option V} {Q : VK} (m0 : 0 < m) (m1 : m < 1000) (h : PoolAt H p) (q : ∀ r H', 0 ≤ r → r < m → PoolAt H' p → SameB p H H' → (∀ b, H' b = none → H b = none) → Q (.int r) H') : tTake m (St9 a k (some (.ref p)) th one ot ow fo to) H Q := by
  obtain ⟨c, d, hp, c0, d0, d1⟩ := h
  refine ⟨_, rfl, p, m, c, d, rfl, m0, m1, hp, c0, d0, d1, fun r c' d' r0 r1 c0' d0' d1' => q r _ r0 r1 ⟨c', d', upd_same, c0', d0', d1'⟩ (fun b o hb e => by rw [upd_ne hb]; exact e) fun b hb => ?_⟩
  by_cases e : b = p
  · subst e; rw [upd_same] at hb; cases hb
  · rw [upd_ne e] at hb; exact hb
end
end K5
end

section
set_option Elab.async false
set_option linter.all false
set_option maxRecDepth 100000
set_option maxHeartbeats 5000000
namespace K5
open PySem L2 Ex
theorem SameB.trans {p : Addr} {H H1 H2 : Hp} (a : SameB p H H1) (b : SameB p H1 H2) : SameB p H H2 := fun c o n e => b c o n (a c o n e)
theorem sameB_new {p q : Addr} {H : Hp} {o : HO} (h : H q = none) : SameB p H (upd H q o) := fun b u _ e => same_new h b u e
theorem PoolAt.there {p : Addr} {H : Hp} (x : PoolAt H p) : ∃ o, H p = some o := let ⟨_, _, h, _⟩ := x; ⟨_, h⟩
theorem PoolAt.ne {p q : Addr} {H : Hp} (x : PoolAt H p) (h : H q = none) : q ≠ p := fun e => by obtain ⟨o, z⟩ := x.there; rw [e, z] at h; cases h
theorem PoolAt.new {p q : Addr} {H : Hp} {o : HO} (x : PoolAt H p) (h : H q = none) : PoolAt (upd H q o) p := by
  obtain ⟨c, d, z, r⟩ := x
  exact ⟨c, d, same_new h _ _ z, r⟩
section
variable {K : PySem.W.Frag} {t : Ae} {a : Addr} {H : Hp} {D : Ends} {u : TS}
abbrev tDraw (K : PySem.W.Frag) (u : TS) : TS := tSeq (tAsg (tPool K) (gName 2)) (tSeq (tAsg tThings (gName 3)) (tSeq (tAsg (tOp (rIxL K) (tVar 3) (tTake 7)) (gName 4)) (tSeq (tAsg (tOp (rIxL K) (tVar 3) (tTake 7)) (gName 5)) u)))
theorem ix_ok {p th : Addr} {k one ot ow fo to : Option V} {xs : List V} {Q : VK} (hP : PoolAt H p) (ht : H th = some (.lst xs)) (hl : xs.length = 7) (ne : th ≠ p) (q : ∀ x ∈ xs, ∀ H', PoolAt H' p → SameB p H H' → Q x H') : tOp (rIxL K) (tVar 3) (tTake 7) (St9 a k (some (.ref p)) (some (.ref th)) one ot ow fo to) H Q := by
  refine ⟨_, rfl, take_ok (by decide) (by decide) hP fun r H1 r0 r1 P1 s1 _ => ?_⟩
  obtain ⟨n, rfl⟩ : ∃ n : Nat, r = n := ⟨r.toNat, by omega⟩
  have hn : n < xs.length := by omega
  exact ⟨th, xs, n, xs[n], rfl, rfl, SqL.of (s1 _ _ ne ht), atI_nat (List.getElem?_eq_getElem hn), q _ (List.getElem_mem hn) H1 P1 s1⟩
theorem read_draw {ns : List Int} {i : Nat} {k p th one ot ow fo to : Option V} (hS : SqL K H a (ns.map V.int)) (hi : i ≤ 100)
    (q : ∀ p th v w H' d e, Same H H' → Dat H' v d → Dat H' w e → u D (St9 a (some (.int i)) (some (.ref p)) (some (.ref th)) (some v) (some w) ow fo to) H') : tDraw K u D (St9 a (some (.int i)) p th one ot ow fo to) H := by
  refine ⟨_, rfl, _, rfl, a, ns, i, rfl, hi, hS, fun p c d hp c0 d0 d1 => ?_⟩
  have P1 : PoolAt (upd H p (.lst [.int c, .int d])) p := ⟨c, d, upd_same, c0, d0, d1⟩
  refine take_ok (by decide) (by decide) P1 fun r1 H2 r10 r11 P2 s2 _ => ?_
  refine take_ok (by decide) (by decide) P2 fun r2 H3 r20 r21 P3 s3 _ => ?_
  obtain ⟨n1, rfl⟩ : ∃ n : Nat, r1 = n := ⟨r1.toNat, by omega⟩
  obtain ⟨n2, rfl⟩ : ∃ n : Nat, r2 = n := ⟨r2.toNat, by omega⟩
  refine ⟨(by show (2 : Nat) ≤ sizeLine; decide), fun p2 hp2 => ?_⟩
  refine ⟨(by show (1 : Nat) ≤ sizeLine; decide), fun l3 hl3 => ?_⟩
  refine ⟨_, _, rfl, rfl, ⟨by decide, by decide, by decide⟩, (by show (7 : Nat) ≤ sizeLine; decide), fun th hth => ?_⟩
  have P4 := P3.new (o := .tup [.int n2, .int 1]) hp2
  have P5 := P4.new (o := .lst [.int 3]) hl3
  have P6 := P5.new (o := .lst [.int n1, .non, .ref p2, .str "name", .bl true, .ref l3, .int (10 ^ (20 : Int).toNat)]) hth
  have n_p2 := P3.ne hp2
  have n_l3 := P4.ne hl3
  have n_th := P5.ne hth
  have a1 : SameB p (upd H p (.lst [.int c, .int d])) H3 := s2.trans s3
  have tt := upd_same (H := upd (upd H3 p2 (.tup [.int n2, .int 1])) l3 (.lst [.int 3])) (a := th) (o := .lst [.int n1, .non, .ref p2, .str "name", .bl true, .ref l3, .int (10 ^ (20 : Int).toNat)])
  have t3 := same_new (o := .lst [.int n1, .non, .ref p2, .str "name", .bl true, .ref l3, .int (10 ^ (20 : Int).toNat)]) hth _ _ (upd_same (H := upd H3 p2 (.tup [.int n2, .int 1])) (a := l3) (o := .lst [.int 3]))
  have t2 := same_new (o := .lst [.int n1, .non, .ref p2, .str "name", .bl true, .ref l3, .int (10 ^ (20 : Int).toNat)]) hth _ _ (same_new (o := .lst [.int 3]) hl3 _ _ (upd_same (H := H3) (a := p2) (o := .tup [.int n2, .int 1])))
  have a2 : SameB p H3 _ := (sameB_new (p := p) (o := .tup [.int n2, .int 1]) hp2).trans ((sameB_new (o := .lst [.int 3]) hl3).trans (sameB_new (o := .lst [.int n1, .non, .ref p2, .str "name", .bl true, .ref l3, .int (10 ^ (20 : Int).toNat)]) hth))
  refine ix_ok P6 tt rfl n_th fun v hv H7 P7 s7 => ?_
  refine ix_ok P7 (s7 _ _ n_th tt) rfl n_th fun w hw H8 P8 s8 => ?_
  have s78 := s7.trans s8
  have dat : ∀ x ∈ [V.int n1, .non, .ref p2, .str "name", .bl true, .ref l3, .int (10 ^ (20 : Int).toNat)], ∃ d, Dat H8 x d := by
    intro x hx
    simp only [List.mem_cons, or_false, List.not_mem_nil] at hx
    rcases hx with rfl | rfl | rfl | rfl | rfl | rfl | rfl
    · exact ⟨_, .int _, good_int n1 (by omega)⟩
    · exact ⟨_, .non, rfl⟩
    · exact ⟨_, .tup (s78 _ _ n_p2 t2) (.cons (.int _) (.cons (.int _) .nil)), good_tup n2 (by omega)⟩
    · exact ⟨_, .str _, good_name⟩
    · exact ⟨_, .bl _, rfl⟩
    · exact ⟨_, .lst (s78 _ _ n_l3 t3) (.cons (.int _) .nil), good_l3⟩
    · exact ⟨_, .int _, good_big⟩
  obtain ⟨d, hd⟩ := dat v hv
  obtain ⟨e, he⟩ := dat w hw
  refine q p th v w H8 d e (fun b o z => ?_) hd he
  have nb : b ≠ p := ne_of_none z hp
  exact s78 b o nb (a2 b o nb (a1 b o nb (by rw [upd_ne nb]; exact z)))
end
end K5
end

section
set_option Elab.async false
set_option linter.all false
set_option maxRecDepth 100000
set_option maxHeartbeats 5000000
namespace K5
open PySem L2 Ex
section
variable {K : PySem.W.Frag} {t : Ae} {a : Addr} {H : Hp} {D : Ends} {u : TS} {k p th one ot ow fo to : Option V}
/-! the five without values -/
abbrev tTextsLoop (K : PySem.W.Frag) (t : Ae) : TS := tFor (iList K (tLst (tNums [6, 7, 8, 9, 13]))) (gName 6) (tIfS (tNot (tB (tCall (spOne K t) [] E0 (tCons (tCall (spTexts t) [] E0 (tCons (tVar 6) tNil)) (tCons (tVar 6) tNil))))) (tRet (tC (.bl false))) tNext)
theorem text_one {n : Int} {i : Nat} {C : Addr} {D : Ends} (xcs : ∀ i, i < 15 → XC K (t.all.getD i 0)) (hn : n = i) (hi : i < 15) (hb : t.bare n = some C) (hC : C = t.all.getD i 0) (q : ∀ H', Same H H' → D.nx (St9 a k p th one ot (some (.int n)) fo to) H') :
    tIfS (tNot (tB (tCall (spOne K t) [] E0 (tCons (tCall (spTexts t) [] E0 (tCons (tVar 6) tNil)) (tCons (tVar 6) tNil))))) (tRet (tC (.bl false))) tNext D (St9 a k p th one ot (some (.int n)) fo to) H := by
  refine ⟨_, rfl, n, C, rfl, hb, fun e H1 ne => ⟨_, rfl, e, C, i, by rw [hn]; rfl, hi, hC, ⟨false, .inl ne.at_⟩, by rw [hC]; exact xcs i hi, fun H2 s2 => ⟨true, rfl, ?_⟩⟩⟩
  exact iteF (q H2 (ne.same.trans s2))
theorem read_texts (xcs : ∀ i, i < 15 → XC K (t.all.getD i 0)) (q : ∀ ow H', Same H H' → u D (St9 a k p th one ot ow fo to) H') : tSeq (tTextsLoop K t) u D (St9 a k p th one ot ow fo to) H := by
  refine ⟨(by show (5 : Nat) ≤ sizeLine; decide), fun l hl => ⟨l, rfl, ⟨_, SqL.of upd_same⟩, ?_⟩⟩
  refine for_list (K := K) (a := l) (xs := [.int 6, .int 7, .int 8, .int 9, .int 13]) (fun i σ H2 => ∃ ow, σ = St9 a k p th one ot ow fo to ∧ Same (upd H l (.lst [.int 6, .int 7, .int 8, .int 9, .int 13])) H2) ⟨ow, rfl, Same.refl _⟩ (fun i σ H2 _ ⟨_, _, s⟩ => SqL.of (s _ _ upd_same)) ?_ ?_
  · rintro i x σ H2 hx ⟨ow', rfl, s2⟩
    have mx := List.mem_of_getElem? hx
    simp only [List.mem_cons, List.not_mem_nil, or_false] at mx
    rcases mx with rfl | rfl | rfl | rfl | rfl
    · exact text_one (n := 6) (i := 6) xcs rfl (by decide) rfl rfl fun H' s' => ⟨_, rfl, s2.trans s'⟩
    · exact text_one (n := 7) (i := 7) xcs rfl (by decide) rfl rfl fun H' s' => ⟨_, rfl, s2.trans s'⟩
    · exact text_one (n := 8) (i := 8) xcs rfl (by decide) rfl rfl fun H' s' => ⟨_, rfl, s2.trans s'⟩
    · exact text_one (n := 9) (i := 9) xcs rfl (by decide) rfl rfl fun H' s' => ⟨_, rfl, s2.trans s'⟩
    · exact text_one (n := 13) (i := 13) xcs rfl (by decide) rfl rfl fun H' s' => ⟨_, rfl, s2.trans s'⟩
  · rintro σ H2 ⟨ow', rfl, s2⟩
    exact q ow' H2 ((same_new hl).trans s2)
/-! the ten with values -/
abbrev owns : List Int := [0, 1, 2, 3, 4, 5, 10, 11, 12, 14]
def FndAt (t : Ad) (v w : V) (H : Hp) (n : Int) (y : V) : Prop := ∃ a C fs d, y = .ref a ∧ t.told v w n = some (C, fs) ∧ H a = some (ExO C a (some d) false) ∧ H d = some (ExD d fs)
theorem FndAt.step {t : Ad} {v w y : V} {n : Int} {H H' : Hp} {D' : Addr} {ys zs : List V} (x : FndAt t v w H n y) (s : Same H H') (hD : H' D' = some (.lst ys)) : FndAt t v w (upd H' D' (.lst zs)) n y := by
  obtain ⟨a, C, fs, d, e, h1, h2, h3⟩ := x
  have e2 := s _ _ h2
  have e3 := s _ _ h3
  refine ⟨a, C, fs, d, e, h1, ?_, ?_⟩
  · rw [upd_ne (ne_of e2 hD (by intro z; cases z))]; exact e2
  · rw [upd_ne (ne_of e3 hD (by intro z; cases z))]; exact e3
theorem Paired.snoc {α β : Type} {R : α → β → Prop} : ∀ {as : List α} {bs : List β} {x : α} {y : β}, Paired R as bs → R x y → Paired R (as ++ [x]) (bs ++ [y])
  | _, _, _, _, .nil, r => .cons r .nil
  | _, _, _, _, .cons a b, r => .cons a (Paired.snoc b r)
theorem told_some (t : Ad) (v w : V) : ∀ n ∈ owns, ∃ C fs, t.told v w n = some (C, fs) := by
  intro n hn
  simp only [owns, List.mem_cons, List.not_mem_nil, or_false] at hn
  rcases hn with rfl | rfl | rfl | rfl | rfl | rfl | rfl | rfl | rfl | rfl <;> exact ⟨_, _, rfl⟩
abbrev tYes : TT := fun _ H Q => Q true H
abbrev tFound (K : PySem.W.Frag) (t : Ae) : TE := tLC [4, 5] 1 (iTup K (tTup (tNums owns))) (gName 0) tYes (tCall (spRaised t.toAd) [] E0 (tCons (tVar 0) (tCons (tVar 1) (tCons (tVar 2) tNil))))
theorem read_found {v w : V} (q : ∀ fo ys H', Same H H' → H' fo = some (.lst ys) → Paired (FndAt t.toAd v w H') owns ys → u D (St9 a k p th (some v) (some w) ow (some (.ref fo)) to) H') : tSeq (tAsg (tFound K t) (gName 7)) u D (St9 a k p th (some v) (some w) ow fo to) H := by
  refine ⟨(by show (10 : Nat) ≤ sizeLine; decide), fun tp htp => ⟨tp, rfl, ⟨_, SqT.of upd_same⟩, fun D' hD' => ?_⟩⟩
  have hD0 : H D' = none := (same_new (o := HO.tup (owns.map V.int)) htp).free hD'
  refine ⟨fun i m ys H2 => m = 10 - i ∧ i ≤ 10 ∧ Same (upd H tp (.tup (owns.map V.int))) H2 ∧ Paired (FndAt t.toAd v w H2) (owns.take i) ys, ⟨10, rfl, by decide, same_new hD', .nil⟩, ?_⟩
  rintro i m ys H2 hD ⟨rfl, hi, s2, F⟩
  have hT : SqT K H2 tp (owns.map V.int) := SqT.of (s2 _ _ upd_same)
  by_cases hlt : i < 10
  · have hown : owns[i]? = some owns[i] := List.getElem?_eq_getElem hlt
    have hyl : ys.length = i := by rw [← F.length, List.length_take]; show min i 10 = i; omega
    refine .inr ⟨⟨_, .int owns[i], hT, by rw [List.getElem?_map, hown]; rfl⟩, ?_, ?_⟩
    · have z : (20 : Nat) ≤ sizeLine := by decide
      omega
    · rintro x H3 ⟨rfl, hx⟩
      have hx := hx _ hT
      rw [List.getElem?_map, hown] at hx
      cases hx
      obtain ⟨C, fs, ht⟩ := told_some t.toAd v w owns[i] (List.getElem_mem hlt)
      show tCall (spRaised t.toAd) [] E0 (tCons (tVar 0) (tCons (tVar 1) (tCons (tVar 2) tNil))) _ _ _
      refine ⟨_, rfl, _, rfl, _, rfl, owns[i], v, w, C, fs, rfl, ht, fun e H4 ne => ⟨ne.same _ _ hD, 10 - (i + 1), by omega, rfl, hlt, ?_, ?_⟩⟩
      · intro b o z
        have nb : b ≠ D' := ne_of_none z hD'
        rw [upd_ne nb]
        exact ne.same _ _ (s2 _ _ z)
      · have e1 : owns.take (i + 1) = owns.take i ++ [owns[i]] := by rw [List.take_succ, hown]; rfl
        rw [e1]
        have hD4 := ne.same _ _ hD
        refine Paired.snoc (L2.Paired.mapP F fun n y z => z.step ne.same hD4) ?_
        obtain ⟨d, h1, h2⟩ := ne.at_
        refine ⟨e, C, fs, d, rfl, ht, ?_, ?_⟩
        · rw [upd_ne (ne_of h1 hD4 (by intro z; cases z))]; exact h1
        · rw [upd_ne (ne_of h2 hD4 (by intro z; cases z))]; exact h2
  · obtain rfl : i = 10 := by omega
    exact .inl ⟨⟨_, hT, Nat.le_refl _⟩, q D' ys H2 ((same_new htp).trans s2) hD F⟩
end
end K5
end

section
set_option Elab.async false
set_option linter.all false
set_option maxRecDepth 100000
set_option maxHeartbeats 5000000
namespace K5
open PySem L2 Ex
section
variable {K : PySem.W.Frag} {t : Ae} {a : Addr} {H : Hp} {D : Ends} {u : TS} {k p th one ot ow fo to : Option V}
/-! each is of its own kind -/
def rAll : List V → Hp → VK → Prop := fun xs H Q => ∃ (p : Addr) (bs : List Bool), xs = [.ref p] ∧ H p = some (.lst (bs.map V.bl)) ∧ Q (.bl (bs.all id)) H
abbrev tAllOne (K : PySem.W.Frag) (t : Ae) : TE := tCB rAll (tCons (tLC [] 2 (iZip (tCons (tVar 7) (tCons (tTup (tNums owns)) tNil))) (gTup K 2 (gCons (gName 0) (gCons (gName 1) gNil))) tYes (tCall (spOne K t) [] E0 (tCons (tVar 0) (tCons (tVar 1) tNil)))) tNil)
theorem told_own (t : Ae) {v w : V} {C : Addr} {fs : List (Str × V)} : ∀ n ∈ owns, t.toAd.told v w n = some (C, fs) → ∃ i : Nat, n = i ∧ i < 15 ∧ C = t.all.getD i 0 := by
  intro n hn h
  simp only [owns, List.mem_cons, List.not_mem_nil, or_false] at hn
  rcases hn with rfl | rfl | rfl | rfl | rfl | rfl | rfl | rfl | rfl | rfl <;> cases h
  · exact ⟨0, rfl, by decide, rfl⟩
  · exact ⟨1, rfl, by decide, rfl⟩
  · exact ⟨2, rfl, by decide, rfl⟩
  · exact ⟨3, rfl, by decide, rfl⟩
  · exact ⟨4, rfl, by decide, rfl⟩
  · exact ⟨5, rfl, by decide, rfl⟩
  · exact ⟨10, rfl, by decide, rfl⟩
  · exact ⟨11, rfl, by decide, rfl⟩
  · exact ⟨12, rfl, by decide, rfl⟩
  · exact ⟨14, rfl, by decide, rfl⟩
theorem Paired.at {α β : Type} {R : α → β → Prop} : ∀ {as : List α} {bs : List β} {i : Nat} {x : α} {y : β}, Paired R as bs → as[i]? = some x → bs[i]? = some y → R x y
  | _, _, _, _, _, .nil, h, _ => by simp at h
  | _, _, 0, _, _, .cons a b, h, h' => by cases h; cases h'; exact a
  | _, _, i + 1, _, _, .cons a b, h, h' => Paired.at b (by simpa using h) (by simpa using h')
theorem read_all {v w : V} {ys : List V} {fa : Addr} (xcs : ∀ i, i < 15 → XC K (t.all.getD i 0)) (hF : H fa = some (.lst ys)) (F : Paired (FndAt t.toAd v w H) owns ys) (q : ∀ H', Same H H' → u D (St9 a k p th one ot ow (some (.ref fa)) to) H') :
    tSeq (tIfS (tNot (tB (tAllOne K t))) (tRet (tC (.bl false))) tNext) u D (St9 a k p th one ot ow (some (.ref fa)) to) H := by
  have hyl : ys.length = 10 := F.length.symm
  refine ⟨_, rfl, (by show (10 : Nat) ≤ sizeLine; decide), fun tp htp => ?_⟩
  have s1 := same_new (o := HO.tup (owns.map V.int)) htp
  refine ⟨fa, tp, ys, owns.map V.int, rfl, s1 _ _ hF, upd_same, fun D' hD' => ?_⟩
  refine ⟨fun i m zs H2 => m = 10 - i ∧ i ≤ 10 ∧ Same (upd H tp (.tup (owns.map V.int))) H2 ∧ zs = (List.replicate i true).map V.bl, ⟨10, rfl, by decide, same_new hD', rfl⟩, ?_⟩
  rintro i m zs H2 hD ⟨rfl, hi, s2, rfl⟩
  have hF2 := s2 _ _ (s1 _ _ hF)
  have hT2 := s2 _ _ (upd_same (H := H) (a := tp) (o := HO.tup (owns.map V.int)))
  by_cases hlt : i < 10
  · have hown : owns[i]? = some owns[i] := List.getElem?_eq_getElem hlt
    have hy : ys[i]? = some ys[i] := List.getElem?_eq_getElem (by omega)
    have hom : (owns.map V.int)[i]? = some (.int owns[i]) := by rw [List.getElem?_map, hown]; rfl
    refine .inr ⟨⟨ys, owns.map V.int, _, _, hF2, hT2, hy, hom⟩, ?_, ?_⟩
    · have z : (20 : Nat) ≤ sizeLine := by decide
      rw [List.length_map, List.length_replicate]
      omega
    · rintro x H3 ⟨pp, xs', ys', x', y', rfl, hpp, rfl, e1, e2, e3, e4⟩
      rw [hF2] at e1; cases e1
      rw [hT2] at e2; cases e2
      rw [hy] at e3; cases e3
      rw [hom] at e4; cases e4
      have fd := Paired.at F hown hy
      obtain ⟨e, C, fs, d, ey, ht, h1, h2⟩ := fd
      obtain ⟨j, ej, hj, hC⟩ := told_own t owns[i] (List.getElem_mem hlt) ht
      have s3 := same_new (o := HO.tup [ys[i], .int owns[i]]) hpp
      refine ⟨pp, _, rfl, SqT.of upd_same, rfl, _, _, rfl, _, _, rfl, rfl, ?_⟩
      show tCall (spOne K t) [] E0 (tCons (tVar 0) (tCons (tVar 1) tNil)) _ _ _
      refine ⟨_, rfl, _, rfl, e, C, j, by rw [ey, ej]; rfl, hj, hC, ⟨false, .inr ⟨d, fs, s3 _ _ (s2 _ _ (s1 _ _ h1)), s3 _ _ (s2 _ _ (s1 _ _ h2))⟩⟩, by rw [hC]; exact xcs j hj, fun H4 s4 => ⟨s4 _ _ (s3 _ _ hD), 10 - (i + 1), by omega, rfl, hlt, ?_, ?_⟩⟩
      · intro b o z
        rw [upd_ne (ne_of_none z hD')]
        exact s4 _ _ (s3 _ _ (s2 _ _ z))
      · rw [List.replicate_succ', List.map_append]; rfl
  · obtain rfl : i = 10 := by omega
    refine .inl ⟨⟨ys, hF2, by omega⟩, D', List.replicate 10 true, rfl, hD, true, rfl, iteF ?_⟩
    exact q H2 (s1.trans s2)
/-! and has just its values -/
structure NoAt (K : PySem.W.Frag) (t : Ad) : Prop where
  np : NoAttr K t.np "number"
  nb1 : NoAttr K t.nb "one"
  nb2 : NoAttr K t.nb "other"
  na : NoAttr K t.na "number"
  nr : NoAttr K t.nr "moment"
  nt : NoAttr K t.nt "row"
  nu : NoAttr K t.nu "last"
  pt : NoAttr K t.pt "point"
  nn : NoAttr K t.nn "name"
  nk : NoAttr K t.nk "key"
  tm : NoAttr K t.tm "many"
abbrev tXf (K : PySem.W.Frag) (j : Int) (f : Str) : TE := tXFld K (tOp (rIxL K) (tVar 7) (tC (.int j))) f
def rRepr : List V → Hp → VK → Prop := fun xs H Q => ∃ (a : Addr) (d : PyData), xs = [.ref a] ∧ DatV H (.ref a) d ∧ d.showable = true ∧ d.hasDict = false ∧ d.depth ≤ 50 ∧ d.shown.length ≤ sizeLine ∧ Q (.str d.shown) H
abbrev tTold1 (K : PySem.W.Frag) : TE := tLst (tCons (tXf K 0 "number") (tCons (tXf K 1 "one") (tCons (tXf K 1 "other") (tCons (tXf K 2 "number") (tCons (tXf K 3 "moment") (tCons (tXf K 4 "row") tNil))))))
abbrev tTold2 (K : PySem.W.Frag) : TE := tOp rCat (tVar 8) (tLst (tCons (tXf K 5 "last") (tCons (tXf K 6 "point") (tCons (tXf K 7 "name") (tCons (tXf K 8 "key") (tCons (tXf K 9 "many") tNil))))))
abbrev tShow2 : TE := tCB rRepr (tCons (tOp rCat (tLst (tCons (tVar 4) (tCons (tVar 4) (tCons (tVar 5) tNil)))) (tOp rRep (tLst (tCons (tVar 4) tNil)) (tC (.int 8)))) tNil)
abbrev tTold (K : PySem.W.Frag) : TS := tSeq (tAsg (tTold1 K) (gName 8)) (tSeq (tAsg (tTold2 K) (gName 8)) (tIfS (tNeq (tCB rRepr (tCons (tVar 8) tNil)) tShow2) (tRet (tC (.bl false))) tNext))
theorem xf_ok {C fa : Addr} {fs : List (Str × V)} {ys : List V} {j : Nat} {f : Str} {e d : Addr} {x : V} {Q : VK} (hF : H fa = some (.lst ys)) (hy : ys[j]? = some (.ref e)) (h1 : H e = some (ExO C e (some d) false)) (h2 : H d = some (ExD d fs)) (xc : XC K C) (no : NoAttr K C f) (hl : fs.lookup f = some x) (q : Q x H) :
    tXf K j f (St9 a k p th one ot ow (some (.ref fa)) to) H Q :=
  ⟨_, rfl, fa, ys, j, .ref e, rfl, rfl, SqL.of hF, atI_nat hy, e, C, d, false, fs, x, rfl, h1, h2, xc, no, hl, q⟩
end
end K5
end

section
set_option Elab.async false
set_option linter.all false
set_option maxRecDepth 100000
set_option maxHeartbeats 5000000
namespace K5
open PySem L2 Ex
section
variable {K : PySem.W.Frag} {t : Ae} {a : Addr} {H : Hp} {D : Ends} {u : TS} {k p th ow fo to : Option V} {v w : V}
theorem fnd_at {ys : List V} (F : Paired (FndAt t.toAd v w H) owns ys) {j : Nat} {n : Int} (hj : owns[j]? = some n) : ∃ e C fs d, ys[j]? = some (.ref e) ∧ t.toAd.told v w n = some (C, fs) ∧ H e = some (ExO C e (some d) false) ∧ H d = some (ExD d fs) := by
  have hl : j < ys.length := by rw [← F.length]; exact (List.getElem?_eq_some_iff.mp hj).1
  obtain ⟨e, C, fs, d, ey, r⟩ := Paired.at F hj (List.getElem?_eq_getElem hl)
  exact ⟨e, C, fs, d, by rw [List.getElem?_eq_getElem hl, ey], r⟩
theorem dats {d e : PyData} (x : Dat H v d) (y : Dat H w e) : DatsV H [v, v, w, v, v, v, v, v, v, v, v] [d, d, e, d, d, d, d, d, d, d, d] :=
  .cons x.at_ (.cons x.at_ (.cons y.at_ (.cons x.at_ (.cons x.at_ (.cons x.at_ (.cons x.at_ (.cons x.at_ (.cons x.at_ (.cons x.at_ (.cons x.at_ .nil))))))))))
theorem read_told {ys : List V} {fa : Addr} {d e : PyData} (xcs : ∀ i, i < 15 → XC K (t.all.getD i 0)) (no : NoAt K t.toAd) (hF : H fa = some (.lst ys)) (F : Paired (FndAt t.toAd v w H) owns ys) (dv : Dat H v d) (dw : Dat H w e) (q : ∀ to H', Same H H' → D.nx (St9 a k p th (some v) (some w) ow (some (.ref fa)) to) H') :
    tTold K D (St9 a k p th (some v) (some w) ow (some (.ref fa)) to) H := by
  obtain ⟨e0, _, _, d0, y0, t0, h0, g0⟩ := fnd_at F (j := 0) rfl; cases t0
  obtain ⟨e1, _, _, d1, y1, t1, h1, g1⟩ := fnd_at F (j := 1) rfl; cases t1
  obtain ⟨e2, _, _, d2, y2, t2, h2, g2⟩ := fnd_at F (j := 2) rfl; cases t2
  obtain ⟨e3, _, _, d3, y3, t3, h3, g3⟩ := fnd_at F (j := 3) rfl; cases t3
  obtain ⟨e4, _, _, d4, y4, t4, h4, g4⟩ := fnd_at F (j := 4) rfl; cases t4
  obtain ⟨e5, _, _, d5, y5, t5, h5, g5⟩ := fnd_at F (j := 5) rfl; cases t5
  obtain ⟨e6, _, _, d6, y6, t6, h6, g6⟩ := fnd_at F (j := 6) rfl; cases t6
  obtain ⟨e7, _, _, d7, y7, t7, h7, g7⟩ := fnd_at F (j := 7) rfl; cases t7
  obtain ⟨e8, _, _, d8, y8, t8, h8, g8⟩ := fnd_at F (j := 8) rfl; cases t8
  obtain ⟨e9, _, _, d9, y9, t9, h9, g9⟩ := fnd_at F (j := 9) rfl; cases t9
  have z : (200 : Nat) ≤ sizeLine := by decide
  refine xf_ok (j := 0) hF y0 h0 g0 (xcs 0 (by decide)) no.np rfl ?_
  refine xf_ok (j := 1) hF y1 h1 g1 (xcs 1 (by decide)) no.nb1 rfl ?_
  refine xf_ok (j := 1) hF y1 h1 g1 (xcs 1 (by decide)) no.nb2 rfl ?_
  refine xf_ok (j := 2) hF y2 h2 g2 (xcs 2 (by decide)) no.na rfl ?_
  refine xf_ok (j := 3) hF y3 h3 g3 (xcs 3 (by decide)) no.nr rfl ?_
  refine xf_ok (j := 4) hF y4 h4 g4 (xcs 4 (by decide)) no.nt rfl ?_
  refine ⟨Nat.le_trans (by decide : 6 ≤ 200) z, fun l1 n1 => ?_⟩
  have s1 := same_new (o := HO.lst [v, v, w, v, v, v]) n1
  refine ⟨_, rfl, ?_⟩
  refine xf_ok (j := 5) (s1 _ _ hF) y5 (s1 _ _ h5) (s1 _ _ g5) (xcs 5 (by decide)) no.nu rfl ?_
  refine xf_ok (j := 6) (s1 _ _ hF) y6 (s1 _ _ h6) (s1 _ _ g6) (xcs 10 (by decide)) no.pt rfl ?_
  refine xf_ok (j := 7) (s1 _ _ hF) y7 (s1 _ _ h7) (s1 _ _ g7) (xcs 11 (by decide)) no.nn rfl ?_
  refine xf_ok (j := 8) (s1 _ _ hF) y8 (s1 _ _ h8) (s1 _ _ g8) (xcs 12 (by decide)) no.nk rfl ?_
  refine xf_ok (j := 9) (s1 _ _ hF) y9 (s1 _ _ h9) (s1 _ _ g9) (xcs 14 (by decide)) no.tm rfl ?_
  refine ⟨Nat.le_trans (by decide : 5 ≤ 200) z, fun l2 n2 => ?_⟩
  have s2 := s1.trans (same_new (o := HO.lst [v, v, v, v, v]) n2)
  refine ⟨l1, l2, _, _, rfl, rfl, same_new n2 _ _ upd_same, upd_same, Nat.le_trans (by decide : 11 ≤ 200) z, fun l3 n3 => ?_⟩
  have s3 := s2.trans (same_new (o := HO.lst ([v, v, w, v, v, v] ++ [v, v, v, v, v])) n3)
  obtain ⟨a1, a2, a3, a4⟩ := good_list (ds := [d, d, e, d, d, d, d, d, d, d, d]) (fun x hx => by
    simp only [List.mem_cons, or_false, List.not_mem_nil] at hx
    rcases hx with rfl | rfl | rfl | rfl | rfl | rfl | rfl | rfl | rfl | rfl | rfl <;> first | exact dv.good | exact dw.good) (by show (11 : Nat) ≤ 20; decide)
  refine ⟨_, rfl, l3, .list [d, d, e, d, d, d, d, d, d, d, d], rfl, .lst upd_same (dats (dv.same s3) (dw.same s3)), a1, a2, a3, a4, ?_⟩
  refine ⟨_, rfl, _, rfl, _, rfl, Nat.le_trans (by decide : 3 ≤ 200) z, fun l4 n4 => ?_⟩
  have s4 := s3.trans (same_new (o := HO.lst [v, v, w]) n4)
  refine ⟨_, rfl, Nat.le_trans (by decide : 1 ≤ 200) z, fun l5 n5 => ?_⟩
  have s5 := s4.trans (same_new (o := HO.lst [v]) n5)
  refine ⟨l5, 8, [v], rfl, rfl, upd_same, by decide, by decide, Nat.le_trans (by show (8 : Nat) ≤ 200; decide) z, fun l6 n6 => ?_⟩
  have s6 := s5.trans (same_new (o := HO.lst (List.replicate (8 : Int).toNat [v]).flatten) n6)
  refine ⟨l4, l6, [v, v, w], (List.replicate (8 : Int).toNat [v]).flatten, rfl, rfl, same_new n6 _ _ (same_new n5 _ _ upd_same), upd_same, Nat.le_trans (by show (11 : Nat) ≤ 200; decide) z, fun l7 n7 => ?_⟩
  have s7 := s6.trans (same_new (o := HO.lst ([v, v, w] ++ (List.replicate (8 : Int).toNat [v]).flatten)) n7)
  refine ⟨l7, .list [d, d, e, d, d, d, d, d, d, d, d], rfl, .lst upd_same (dats (dv.same s7) (dw.same s7)), a1, a2, a3, a4, rfl, false, nb rfl, iteF ?_⟩
  exact q _ _ s7
end
end K5
end

section
set_option Elab.async false
set_option linter.all false
set_option maxRecDepth 100000
set_option maxHeartbeats 5000000
namespace K5
open PySem L2 Ex
/-! the whole law, read -/
def rMax2 : List V → Hp → VK → Prop := fun xs H Q => ∃ i j, xs = [.int i, .int j] ∧ Q (.int (if j > i then j else i)) H
def rMin2 : List V → Hp → VK → Prop := fun xs H Q => ∃ i j, xs = [.int i, .int j] ∧ Q (.int (if j < i then j else i)) H
def rLen (K : PySem.W.Frag) : List V → Hp → VK → Prop := fun xs H Q => ∃ p ys, xs = [.ref p] ∧ (SqL K H p ys ∨ SqT K H p ys) ∧ Q (.int ys.length) H
abbrev tRange (K : PySem.W.Frag) : TI := iRng1 (tCons (tCB rMax2 (tCons (tC (.int 1)) (tCons (tCB rMin2 (tCons (tC (.int 8)) (tCons (tCB (rLen K) (tCons (tVar 0) tNil)) tNil))) tNil))) tNil)
abbrev tTurn (K : PySem.W.Frag) (t : Ae) : TS := tDraw K (tSeq (tTextsLoop K t) (tSeq (tAsg (tFound K t) (gName 7)) (tSeq (tIfS (tNot (tB (tAllOne K t))) (tRet (tC (.bl false))) tNext) (tTold K))))
abbrev tLaw (K : PySem.W.Frag) (t : Ae) : TS := tSeq (tFor (tRange K) (gName 1) (tTurn K t)) (tRet (tC (.bl true)))
section
variable {K : PySem.W.Frag} {t : Ae} {a : Addr} {H : Hp} {D : Ends}
theorem read_law {Q : VK} {ns : List Int} (xcs : ∀ i, i < 15 → XC K (t.all.getD i 0)) (no : NoAt K t.toAd) (hS : SqL K H a (ns.map V.int)) (hl : ns.length ≤ 63) (hD : D.rt = Q) (q : ∀ H', Q (.bl true) H') : tLaw K t D (St9 a none none none none none none none none) H := by
  refine ⟨_, rfl, a, _, rfl, .inl hS, _, _, rfl, _, _, rfl, _, rfl, ?_⟩
  rw [List.length_map]
  generalize hn : (if (if (ns.length : Int) < 8 then (ns.length : Int) else 8) > 1 then (if (ns.length : Int) < 8 then (ns.length : Int) else 8) else 1) = n
  have n1 : 0 ≤ n := by subst hn; split <;> split <;> omega
  have n2 : n ≤ 8 := by subst hn; split <;> split <;> omega
  refine ⟨by omega, by omega, for_range (n := n.toNat) (fun i σ H2 => ∃ k p th one ot ow fo to, σ = St9 a k p th one ot ow fo to ∧ Same H H2) ⟨_, _, _, _, _, _, _, _, rfl, Same.refl _⟩ ?_ ?_⟩
  · rintro i σ H2 hi ⟨k, p, th, one, ot, ow, fo, to, rfl, s2⟩
    show tTurn K t _ (St9 a (some (.int (0 + (i : Int)))) p th one ot ow fo to) H2
    rw [Int.zero_add]
    refine read_draw (k := none) (s2.seq hS) (by omega) fun p th v w H3 d e s3 dv dw => ?_
    refine read_texts xcs fun ow H4 s4 => ?_
    refine read_found fun fo ys H5 s5 hF F => ?_
    have s35 := s4.trans s5
    refine read_all xcs hF F fun H6 s6 => ?_
    have F6 : Paired (FndAt t.toAd v w H6) owns ys := L2.Paired.mapP F fun n y ⟨e, C, fs, d, ey, ht, h1, h2⟩ => ⟨e, C, fs, d, ey, ht, s6 _ _ h1, s6 _ _ h2⟩
    refine read_told xcs no (s6 _ _ hF) F6 (dv.same (s35.trans s6)) (dw.same (s35.trans s6)) fun to H7 s7 => ?_
    exact ⟨_, _, _, _, _, _, _, _, rfl, (s2.trans s3).trans ((s35.trans s6).trans s7)⟩
  · rintro σ H2 ⟨k, p, th, one, ot, ow, fo, to, rfl, s2⟩
    show D.rt (.bl true) H2
    rw [hD]; exact q H2
end
/-! a comprehension's block, decided -/
def blkB (sc scope : Scope) (N Nc : List Str) (own : Nat) (fr : List Nat) : Bool :=
  decide (Nc.length = own + fr.length) && decide (scope.kind = .function) && scope.names.all (fun y => decide (y.2 ≠ .cell)) && scope.names.all (fun y => decide (y.2 = .local → scope.names.lookup y.1 = some .local)) &&
  scope.names.all (fun y => decide (y.2 = .free → sc.names.lookup y.1 = some .cell ∨ sc.names.lookup y.1 = some .free)) &&
  (List.range fr.length).all fun k => match fr[k]?, Nc[own + k]? with
    | some j, some x => decide (N[j]? = some x) && decide (sc.names.lookup x = some .cell ∨ sc.names.lookup x = some .free) && decide (scope.names.lookup x = some .free)
    | _, _ => true
theorem blk_of {X : Cx} {scope sc : Scope} {N Nc : List Str} {own : Nat} {fr : List Nat} (hs : X.env.scope = sc) (hN : X.N = N) (h : blkB sc scope N Nc own fr = true) : BlkN X scope Nc own fr := by
  subst hs hN
  unfold blkB at h
  simp only [Bool.and_eq_true, decide_eq_true_eq, List.all_eq_true] at h
  obtain ⟨⟨⟨⟨⟨h1, h2⟩, h3⟩, h4⟩, h5⟩, h6⟩ := h
  refine ⟨h1, fun k j x e1 e2 => ?_, h2, h3, h4, fun x hx => h5 _ hx rfl⟩
  have hk : k < fr.length := (List.getElem?_eq_some_iff.mp e1).1
  have z := h6 k (List.mem_range.mpr hk)
  rw [e1, e2] at z
  simp only [Bool.and_eq_true, decide_eq_true_eq] at z
  exact ⟨z.1.1, z.1.2, z.2⟩
end K5
end

section
set_option Elab.async false
set_option linter.all false
set_option maxRecDepth 100000
set_option maxHeartbeats 5000000
namespace K5
open PySem L2 Ex
abbrev sLaw : Stmt := top 24
def lawN : List Str := ["_law_script", "_law_k", "_law_pool_here", "_law_things", "_law_one", "_law_other", "_law_own", "_law_found", "_law_told"]
theorem scL : FnScope ["_law_script", "_law_k", "_law_pool_here", "_law_things", "_law_one", "_law_other", "_law_own", "_law_found", "_law_told"] ["_law_script"] (defScope sLaw) := ⟨rfl, rfl, rfl, by decide +kernel, rfl, by decide +kernel, by decide +kernel⟩
theorem nd1 : (["_law_own", "_law_one", "_law_other"] : List Str).Nodup := by decide +kernel
theorem nd2 : (["_law_error", "_law_own"] : List Str).Nodup := by decide +kernel
/-- the names that the law reads -/
structure Lms (mg : Str → Option Value) (p tk o r x : Addr) : Prop where
  range : mg "range" = none
  max : mg "max" = none
  min : mg "min" = none
  len : mg "len" = none
  all : mg "all" = none
  zip : mg "zip" = none
  repr : mg "repr" = none
  pool : mg "_law_pool" = some (.ref p)
  take : mg "_law_take" = some (.ref tk)
  isone : mg "_law_is_one" = some (.ref o)
  raised : mg "_law_raised" = some (.ref r)
  texts : mg "_law_texts" = some (.ref x)
def spLaw (K : PySem.W.Frag) : Sp := fun vs H Q _ => ∃ (a : Addr) (ns : List Int), vs = [.ref a] ∧ SqL K H a (ns.map V.int) ∧ ns.length ≤ 63 ∧ ∀ H', Q (.bl true) H'
section
variable {P : Program} {w : World} {K : PySem.W.Frag} {mg : Str → Option Value} {base : Heap}
theorem ok_law {t : Ae} {f p tk o r x : Addr} {fd pd td od rd xd : FuncData} (F : Fun K "law" "law" sLaw f fd) (M : Lms mg p tk o r x) (xcs : ∀ i, i < 15 → XC K (t.all.getD i 0)) (no : NoAt K t.toAd)
    (GP : FnOk P w K mg base CX0 2 p pd ["_law_script", "_law_k"] (spPool K)) (kP : PySem.W.keepIn K (.ref p) = true) (bP : Binds K pd ["_law_script", "_law_k"] [])
    (GT : FnOk P w K mg base CX0 1 tk td ["_law_pool_here", "_law_many"] spTake) (kT : PySem.W.keepIn K (.ref tk) = true) (bT : Binds K td ["_law_pool_here", "_law_many"] [])
    (GO : FnOk P w K mg base CX0 1 o od ["_law_error", "_law_own"] (spOne K t)) (kO : PySem.W.keepIn K (.ref o) = true) (bO : Binds K od ["_law_error", "_law_own"] [])
    (GR : FnOk P w K mg base CX0 3 r rd ["_law_own", "_law_one", "_law_other"] (spRaised t.toAd)) (kR : PySem.W.keepIn K (.ref r) = true) (bR : Binds K rd ["_law_own", "_law_one", "_law_other"] [])
    (GX : FnOk P w K mg base CX0 3 x xd ["_law_own"] (spTexts t)) (kX : PySem.W.keepIn K (.ref x) = true) (bX : Binds K xd ["_law_own"] []) :
    FnOk P w K mg base CX0 5 f fd ["_law_script"] (spLaw K) := by
  refine F.ok scL (fun vs H Q E h => ?_) (fun cdv A outer s H vs Q E hr h => ?_)
  · obtain ⟨a, ns, rfl, _⟩ := h
    rfl
  · obtain ⟨a, ns, rfl, hS, hl, q⟩ := h
    refine ⟨tLaw K t, pss_cons (ps_for PassesOwn.never rfl (pi_range1 rfl M.range (pa_cons (pe_callB (call_max2 rfl) rfl M.max (by decide +kernel) (pa_cons pe_int (pa_cons (pe_callB (call_min2 rfl) rfl M.min (by decide +kernel) (pa_cons pe_int (pa_cons (pe_callB call_len_seq rfl M.len (by decide +kernel) (pa_cons (pv 0) pa_nil)) pa_nil))) pa_nil))) pa_nil)) (pg_name (i := 1) scL.nd rfl (Or.inl rfl)) (pss_cons (ps_set (i := 2) scL.nd rfl (Or.inl rfl) (pe_call GP (hr.mono (by decide)) rfl M.pool kP bP .nil pass0 (pa_cons (pv 0) (pa_cons (pv 1) pa_nil)))) (pss_cons (ps_set (i := 3) scL.nd rfl (Or.inl rfl) (pe_lst (pa_cons (pe_call GT (hr.mono (by decide)) rfl M.take kT bT .nil pass0 (pa_cons (pv 2) (pa_cons pe_int pa_nil))) (pa_cons pe_non (pa_cons (pe_tup (pa_cons (pe_call GT (hr.mono (by decide)) rfl M.take kT bT .nil pass0 (pa_cons (pv 2) (pa_cons pe_int pa_nil))) (pa_cons pe_int pa_nil))) (pa_cons pe_str (pa_cons pe_bl (pa_cons (pe_lst (pa_cons pe_int pa_nil)) (pa_cons (pe_op op_pow pe_int pe_int) pa_nil))))))))) (pss_cons (ps_set (i := 4) scL.nd rfl (Or.inr rfl) (pe_ix ix_list (pv 3) (pe_call GT (hr.mono (by decide)) rfl M.take kT bT .nil pass0 (pa_cons (pv 2) (pa_cons pe_int pa_nil))) (fun _ _ => rfl))) (pss_cons (ps_set (i := 5) scL.nd rfl (Or.inr rfl) (pe_ix ix_list (pv 3) (pe_call GT (hr.mono (by decide)) rfl M.take kT bT .nil pass0 (pa_cons (pv 2) (pa_cons pe_int pa_nil))) (fun _ _ => rfl))) (pss_cons (ps_for PassesOwn.never rfl (pi_list (pe_lst (pa_cons pe_int (pa_cons pe_int (pa_cons pe_int (pa_cons pe_int (pa_cons pe_int pa_nil))))))) (pg_name (i := 6) scL.nd rfl (Or.inl rfl)) (pss_one (ps_if (pt_not (pt_val (pe_call GO (hr.mono (by decide)) rfl M.isone kO bO .nil pass0 (pa_cons (pe_call GX (hr.mono (by decide)) rfl M.texts kX bX .nil pass0 (pa_cons (pv 6) pa_nil)) (pa_cons (pv 6) pa_nil))))) (pss_one (ps_ret pe_bl)) pss_nil))) (pss_cons (ps_setlc (i := 7) scL.nd rfl (Or.inl rfl) (Nc := ["_law_own", "_law_one", "_law_other"]) (own := 1) (fr := [4, 5]) rfl (blk_of (sc := defScope sLaw) (N := lawN) rfl rfl (by decide +kernel)) (pi_tup (pe_tup (pa_cons pe_int (pa_cons pe_int (pa_cons pe_int (pa_cons pe_int (pa_cons pe_int (pa_cons pe_int (pa_cons pe_int (pa_cons pe_int (pa_cons pe_int (pa_cons pe_int pa_nil)))))))))))) (own_name (by decide)) (fun cl C s3 H3 fp pn => pg_name (i := 0) nd1 rfl (Or.inl rfl)) (fun cl C s3 H3 fp pn => pts_nil) (fun cl C s3 H3 fp pn => (pe_call GR (hr.mono (by decide)) rfl M.raised kR bR .nil pass0 (pa_cons (pv 0) (pa_cons (pv 1) (pa_cons (pv 2) pa_nil)))))) (pss_cons (ps_if (pt_not (pt_val (pe_callB (call_all_bl rfl) rfl M.all (by decide +kernel) (pa_cons (pe_lc (Nc := ["_law_error", "_law_own"]) (own := 2) (fr := []) rfl (blk_of (sc := defScope sLaw) (N := lawN) rfl rfl (by decide +kernel)) (pi_zip rfl M.zip (pa_cons (pv 7) (pa_cons (pe_tup (pa_cons pe_int (pa_cons pe_int (pa_cons pe_int (pa_cons pe_int (pa_cons pe_int (pa_cons pe_int (pa_cons pe_int (pa_cons pe_int (pa_cons pe_int (pa_cons pe_int pa_nil))))))))))) pa_nil))) (own_tup (own_cons (by decide) (own_cons (by decide) own_nil))) (fun cl C s3 H3 fp pn => pg_tup rfl (pgs_cons (pg_name (i := 0) nd2 rfl (Or.inl rfl)) (pgs_cons (pg_name (i := 1) nd2 rfl (Or.inl rfl)) pgs_nil))) (fun cl C s3 H3 fp pn => pts_nil) (fun cl C s3 H3 fp pn => (pe_call GO (hr.mono (by decide)) rfl M.isone kO bO .nil pass0 (pa_cons (pv 0) (pa_cons (pv 1) pa_nil))))) pa_nil)))) (pss_one (ps_ret pe_bl)) pss_nil) (pss_cons (ps_set (i := 8) scL.nd rfl (Or.inl rfl) (pe_lst (pa_cons (pe_xfld (pe_ix ix_list (pv 7) pe_int (fun _ _ => rfl)) rfl) (pa_cons (pe_xfld (pe_ix ix_list (pv 7) pe_int (fun _ _ => rfl)) rfl) (pa_cons (pe_xfld (pe_ix ix_list (pv 7) pe_int (fun _ _ => rfl)) rfl) (pa_cons (pe_xfld (pe_ix ix_list (pv 7) pe_int (fun _ _ => rfl)) rfl) (pa_cons (pe_xfld (pe_ix ix_list (pv 7) pe_int (fun _ _ => rfl)) rfl) (pa_cons (pe_xfld (pe_ix ix_list (pv 7) pe_int (fun _ _ => rfl)) rfl) pa_nil)))))))) (pss_cons (ps_set (i := 8) scL.nd rfl (Or.inl rfl) (pe_op op_cat (pv 8) (pe_lst (pa_cons (pe_xfld (pe_ix ix_list (pv 7) pe_int (fun _ _ => rfl)) rfl) (pa_cons (pe_xfld (pe_ix ix_list (pv 7) pe_int (fun _ _ => rfl)) rfl) (pa_cons (pe_xfld (pe_ix ix_list (pv 7) pe_int (fun _ _ => rfl)) rfl) (pa_cons (pe_xfld (pe_ix ix_list (pv 7) pe_int (fun _ _ => rfl)) rfl) (pa_cons (pe_xfld (pe_ix ix_list (pv 7) pe_int (fun _ _ => rfl)) rfl) pa_nil)))))))) (pss_one (ps_if (pt_cmpR op_ne (pe_callB (call_repr_dat hr) rfl M.repr (by decide +kernel) (pa_cons (pv 8) pa_nil)) (pe_callB (call_repr_dat hr) rfl M.repr (by decide +kernel) (pa_cons (pe_op op_cat (pe_lst (pa_cons (pv 4) (pa_cons (pv 4) (pa_cons (pv 5) pa_nil)))) (pe_op op_rep (pe_lst (pa_cons (pv 4) pa_nil)) pe_int)) pa_nil)) (nomark _)) (pss_one (ps_ret pe_bl)) pss_nil)))))))))))) (pss_one (ps_ret pe_bl)), ?_⟩
    exact read_law xcs no hS hl rfl q
end
end K5
end

section
set_option Elab.async false
set_option linter.all false
set_option maxRecDepth 100000
set_option maxHeartbeats 5000000
namespace K5
open PySem L2 Ex
/-! what the top has written: the classes -/
abbrev upV : List Value := [.type "ValueError", .type "Exception", .type "BaseException", .type "object"]
abbrev upK : List Value := [.type "KeyError", .type "LookupError", .type "Exception", .type "BaseException", .type "object"]
abbrev upL : List Value := [.type "LookupError", .type "Exception", .type "BaseException", .type "object"]
abbrev upI : List Value := [.type "IndexError", .type "LookupError", .type "Exception", .type "BaseException", .type "object"]
abbrev upO : List Value := [.type "OverflowError", .type "ArithmeticError", .type "Exception", .type "BaseException", .type "object"]
theorem pass_V (self : Value) : refuseLoop self "__setattr__" upV = pure () := F.store_ValueError.passes self
theorem pass_K (self : Value) : refuseLoop self "__setattr__" upK = pure () := by kernel_rfl
theorem pass_L (self : Value) : refuseLoop self "__setattr__" upL = pure () := by kernel_rfl
theorem pass_I (self : Value) : refuseLoop self "__setattr__" upI = pure () := by kernel_rfl
theorem pass_O (self : Value) : refuseLoop self "__setattr__" upO = pure () := by kernel_rfl
def clsB (K : PySem.W.Frag) (C : Addr) (up : List Value) (nw : String) : Bool := exCls K C up nw && (PySem.W.findIn K (.ref C) "__getattribute__" == some (some (.builtin "BaseException.__getattribute__"))) && (PySem.W.findIn K (.ref C) "__getattr__" == some none) &&
  (PySem.W.findIn K (.ref C) "__setattr__" == some (some (.builtin "object.__setattr__"))) && (PySem.W.mroIn K C (.type "BaseException") == some true) && (PySem.W.mroIn K C (.type "object") == some true) && (PySem.W.findIn K (.ref C) "__class__" == some (some (.builtin "object.__class__"))) &&
  (PySem.W.specialIn K (.builtin "object.__class__") "__get__" == some (some (.builtin "getset_descriptor.__get__"))) && (PySem.W.takesIn K (.builtin "object.__class__") == some true) && (PySem.W.kitCls K (.ref C) (.ref C) == some true) && PySem.W.keepIn K (.ref C)
section
variable {K : PySem.W.Frag} {C fI : Addr} {up : List Value} {nw : String}
theorem cls_of (ok : ∀ self, refuseLoop self "__setattr__" up = pure ()) (h : clsB K C up nw = true) : exCls K C up nw = true ∧ XK0 K C := by
  unfold clsB at h
  simp only [Bool.and_eq_true, beq_iff_eq] at h
  obtain ⟨⟨⟨⟨⟨⟨⟨⟨⟨⟨a, b⟩, c⟩, d⟩, e⟩, f⟩, g⟩, i⟩, j⟩, k⟩, l⟩ := h
  exact ⟨a, xk0_of ok a b c d e f g i j k l⟩
end
theorem excK : XB "KeyError" "KeyError.__init__" upK := xb_key
/-- the classes with an __init__ of their own -/
structure OwnC (K : PySem.W.Frag) (C fI : Addr) (up : List Value) (nw B : String) (f : Str) (cs : List Value) : Prop where
  c : clsB K C up nw = true
  i : PySem.W.findIn K (.ref C) "__init__" = some (some (.ref fI))
  g : PySem.W.isFn K (.ref fI) = true
  h : matchIn K C cs = some true
  b : PySem.W.mroIn K C (.type B) = some true
  n : NoAttr K C f
structure BareC (K : PySem.W.Frag) (C : Addr) (up : List Value) (nw B ini : String) (cs : List Value) : Prop where
  c : clsB K C up nw = true
  i : PySem.W.findIn K (.ref C) "__init__" = some (some (.builtin ini))
  h : matchIn K C cs = some true
  b : PySem.W.mroIn K C (.type B) = some true
theorem xin_pe {K : PySem.W.Frag} {D : Addr} (a : PySem.W.specialIn K (.ref D) "__getattribute__" = some (some (.builtin "type.__getattribute__"))) (b : PySem.W.readsIn K D (.type "type") = true) (c : PySem.W.findCls K (.ref D) (.type "type") "__init__" = some (.val (.builtin "ValueError.__init__"))) : XIn K (.ref D) "ValueError" "ValueError.__init__" :=
  ⟨.inl ⟨D, rfl, a, b, c⟩, by decide +kernel, _, XB.of F.excBase_ValueError⟩
theorem xin_KeyError {K : PySem.W.Frag} (c : PySem.W.findCls K (.type "KeyError") (.type "type") "__init__" = some (.val (.builtin "KeyError.__init__"))) : XIn K (.ty "KeyError") "KeyError" "KeyError.__init__" :=
  ⟨.inr ⟨"KeyError", rfl, by kernel_rfl, by decide +kernel, c⟩, by decide +kernel, _, excK⟩
theorem xin_LookupError {K : PySem.W.Frag} (c : PySem.W.findCls K (.type "LookupError") (.type "type") "__init__" = some (.val (.builtin "LookupError.__init__"))) : XIn K (.ty "LookupError") "LookupError" "LookupError.__init__" :=
  ⟨.inr ⟨"LookupError", rfl, by kernel_rfl, by decide +kernel, c⟩, by decide +kernel, _, XB.of F.excBase_LookupError⟩
theorem xin_OverflowError {K : PySem.W.Frag} (c : PySem.W.findCls K (.type "OverflowError") (.type "type") "__init__" = some (.val (.builtin "OverflowError.__init__"))) : XIn K (.ty "OverflowError") "OverflowError" "OverflowError.__init__" :=
  ⟨.inr ⟨"OverflowError", rfl, by kernel_rfl, by decide +kernel, c⟩, by decide +kernel, _, XB.of F.excBase_OverflowError⟩
def tabB (K : PySem.W.Frag) (pe : Addr) (cs : List Addr) : Bool := (List.range 15).all fun i =>
  let c := Value.ref (cs.getD i 0)
  ((List.range 15).all fun j => PySem.W.kitOne K c (.ref (cs.getD j 0)) == some (i == j)) && PySem.W.kitOne K c (.ref pe) == some (decide (i < 10)) && PySem.W.kitOne K c (.type "ValueError") == some (decide (i < 10)) &&
  PySem.W.kitOne K c (.type "KeyError") == some (i == 10 || i == 11) && PySem.W.kitOne K c (.type "IndexError") == some (i == 13) && PySem.W.kitOne K c (.type "LookupError") == some (i == 10 || i == 11 || i == 12 || i == 13) && PySem.W.kitOne K c (.type "OverflowError") == some (i == 14)

theorem all_mk {l : PySem.W.OpenLaw} {w : World} {K : PySem.W.Frag} {h : Heap} {mg : Str → Option Value} {fa : Addr} (X : K.In h) (G : h.Ns mainGlobals mg) (hfa : mg "law" = some (.ref fa)) {pe np nb na nr nt nu tr to ns ro pt nn nk bk tm inp inb ina inr int inu ipt inn ink itm ce po tk io ra te la : Addr}
    (m_pe : PySem.W.nsIn K mainGlobals "PointError" = some (some (.ref pe)))
    (m_np : PySem.W.nsIn K mainGlobals "NoPoints" = some (some (.ref np)))
    (m_nb : PySem.W.nsIn K mainGlobals "NoBox" = some (some (.ref nb)))
    (m_na : PySem.W.nsIn K mainGlobals "NoAsks" = some (some (.ref na)))
    (m_nr : PySem.W.nsIn K mainGlobals "NoRun" = some (some (.ref nr)))
    (m_nt : PySem.W.nsIn K mainGlobals "NoText" = some (some (.ref nt)))
    (m_nu : PySem.W.nsIn K mainGlobals "NoTurn" = some (some (.ref nu)))
    (m_tr : PySem.W.nsIn K mainGlobals "NoTree" = some (some (.ref tr)))
    (m_to : PySem.W.nsIn K mainGlobals "NoTop" = some (some (.ref to)))
    (m_ns : PySem.W.nsIn K mainGlobals "NotServed" = some (some (.ref ns)))
    (m_ro : PySem.W.nsIn K mainGlobals "NoRow" = some (some (.ref ro)))
    (m_pt : PySem.W.nsIn K mainGlobals "NoPoint" = some (some (.ref pt)))
    (m_nn : PySem.W.nsIn K mainGlobals "NoName" = some (some (.ref nn)))
    (m_nk : PySem.W.nsIn K mainGlobals "NoKey" = some (some (.ref nk)))
    (m_bk : PySem.W.nsIn K mainGlobals "NoBack" = some (some (.ref bk)))
    (m_tm : PySem.W.nsIn K mainGlobals "TooMany" = some (some (.ref tm)))
    (m_ce : PySem.W.nsIn K mainGlobals "_law_cell_at" = some (some (.ref ce)))
    (m_po : PySem.W.nsIn K mainGlobals "_law_pool" = some (some (.ref po)))
    (m_tk : PySem.W.nsIn K mainGlobals "_law_take" = some (some (.ref tk)))
    (m_io : PySem.W.nsIn K mainGlobals "_law_is_one" = some (some (.ref io)))
    (m_ra : PySem.W.nsIn K mainGlobals "_law_raised" = some (some (.ref ra)))
    (m_te : PySem.W.nsIn K mainGlobals "_law_texts" = some (some (.ref te)))
    (m_la : PySem.W.nsIn K mainGlobals "law" = some (some (.ref la)))
    (z_range : PySem.W.nsIn K mainGlobals "range" = some none)
    (z_max : PySem.W.nsIn K mainGlobals "max" = some none)
    (z_min : PySem.W.nsIn K mainGlobals "min" = some none)
    (z_len : PySem.W.nsIn K mainGlobals "len" = some none)
    (z_all : PySem.W.nsIn K mainGlobals "all" = some none)
    (z_zip : PySem.W.nsIn K mainGlobals "zip" = some none)
    (z_repr : PySem.W.nsIn K mainGlobals "repr" = some none)
    (z_isinstance : PySem.W.nsIn K mainGlobals "isinstance" = some none)
    (z_ValueError : PySem.W.nsIn K mainGlobals "ValueError" = some none)
    (z_KeyError : PySem.W.nsIn K mainGlobals "KeyError" = some none)
    (z_IndexError : PySem.W.nsIn K mainGlobals "IndexError" = some none)
    (z_LookupError : PySem.W.nsIn K mainGlobals "LookupError" = some none)
    (z_OverflowError : PySem.W.nsIn K mainGlobals "OverflowError" = some none)
    (i_np : PySem.W.findIn K (.ref np) "__init__" = some (some (.ref inp)))
    (i_nb : PySem.W.findIn K (.ref nb) "__init__" = some (some (.ref inb)))
    (i_na : PySem.W.findIn K (.ref na) "__init__" = some (some (.ref ina)))
    (i_nr : PySem.W.findIn K (.ref nr) "__init__" = some (some (.ref inr)))
    (i_nt : PySem.W.findIn K (.ref nt) "__init__" = some (some (.ref int)))
    (i_nu : PySem.W.findIn K (.ref nu) "__init__" = some (some (.ref inu)))
    (i_pt : PySem.W.findIn K (.ref pt) "__init__" = some (some (.ref ipt)))
    (i_nn : PySem.W.findIn K (.ref nn) "__init__" = some (some (.ref inn)))
    (i_nk : PySem.W.findIn K (.ref nk) "__init__" = some (some (.ref ink)))
    (i_tm : PySem.W.findIn K (.ref tm) "__init__" = some (some (.ref itm)))
    (g_np : PySem.W.isFn K (.ref inp) = true)
    (u_np : ∃ fd, Fun K "__init__" "NoPoints.__init__" sNoPoints inp fd)
    (b_np : PySem.W.mroIn K np (.type "ValueError") = some true)
    (n_np_number : PySem.W.findIn K (.ref np) "number" = some none)
    (g_nb : PySem.W.isFn K (.ref inb) = true)
    (u_nb : ∃ fd, Fun K "__init__" "NoBox.__init__" sNoBox inb fd)
    (b_nb : PySem.W.mroIn K nb (.type "ValueError") = some true)
    (n_nb_one : PySem.W.findIn K (.ref nb) "one" = some none)
    (n_nb_other : PySem.W.findIn K (.ref nb) "other" = some none)
    (g_na : PySem.W.isFn K (.ref ina) = true)
    (u_na : ∃ fd, Fun K "__init__" "NoAsks.__init__" sNoAsks ina fd)
    (b_na : PySem.W.mroIn K na (.type "ValueError") = some true)
    (n_na_number : PySem.W.findIn K (.ref na) "number" = some none)
    (g_nr : PySem.W.isFn K (.ref inr) = true)
    (u_nr : ∃ fd, Fun K "__init__" "NoRun.__init__" sNoRun inr fd)
    (b_nr : PySem.W.mroIn K nr (.type "ValueError") = some true)
    (n_nr_moment : PySem.W.findIn K (.ref nr) "moment" = some none)
    (g_nt : PySem.W.isFn K (.ref int) = true)
    (u_nt : ∃ fd, Fun K "__init__" "NoText.__init__" sNoText int fd)
    (b_nt : PySem.W.mroIn K nt (.type "ValueError") = some true)
    (n_nt_row : PySem.W.findIn K (.ref nt) "row" = some none)
    (g_nu : PySem.W.isFn K (.ref inu) = true)
    (u_nu : ∃ fd, Fun K "__init__" "NoTurn.__init__" sNoTurn inu fd)
    (b_nu : PySem.W.mroIn K nu (.type "ValueError") = some true)
    (n_nu_last : PySem.W.findIn K (.ref nu) "last" = some none)
    (g_pt : PySem.W.isFn K (.ref ipt) = true)
    (u_pt : ∃ fd, Fun K "__init__" "NoPoint.__init__" sNoPoint ipt fd)
    (b_pt : PySem.W.mroIn K pt (.type "KeyError") = some true)
    (n_pt_point : PySem.W.findIn K (.ref pt) "point" = some none)
    (g_nn : PySem.W.isFn K (.ref inn) = true)
    (u_nn : ∃ fd, Fun K "__init__" "NoName.__init__" sNoName inn fd)
    (b_nn : PySem.W.mroIn K nn (.type "KeyError") = some true)
    (n_nn_name : PySem.W.findIn K (.ref nn) "name" = some none)
    (g_nk : PySem.W.isFn K (.ref ink) = true)
    (u_nk : ∃ fd, Fun K "__init__" "NoKey.__init__" sNoKey ink fd)
    (b_nk : PySem.W.mroIn K nk (.type "LookupError") = some true)
    (n_nk_key : PySem.W.findIn K (.ref nk) "key" = some none)
    (g_tm : PySem.W.isFn K (.ref itm) = true)
    (u_tm : ∃ fd, Fun K "__init__" "TooMany.__init__" sTooMany itm fd)
    (b_tm : PySem.W.mroIn K tm (.type "OverflowError") = some true)
    (n_tm_many : PySem.W.findIn K (.ref tm) "many" = some none)
    (i_tr : PySem.W.findIn K (.ref tr) "__init__" = some (some (.builtin "ValueError.__init__")))
    (b_tr : PySem.W.mroIn K tr (.type "ValueError") = some true)
    (i_to : PySem.W.findIn K (.ref to) "__init__" = some (some (.builtin "ValueError.__init__")))
    (b_to : PySem.W.mroIn K to (.type "ValueError") = some true)
    (i_ns : PySem.W.findIn K (.ref ns) "__init__" = some (some (.builtin "ValueError.__init__")))
    (b_ns : PySem.W.mroIn K ns (.type "ValueError") = some true)
    (i_ro : PySem.W.findIn K (.ref ro) "__init__" = some (some (.builtin "ValueError.__init__")))
    (b_ro : PySem.W.mroIn K ro (.type "ValueError") = some true)
    (i_bk : PySem.W.findIn K (.ref bk) "__init__" = some (some (.builtin "IndexError.__init__")))
    (b_bk : PySem.W.mroIn K bk (.type "IndexError") = some true)
    (u_ce : ∃ fd, Fun K "_law_cell_at" "_law_cell_at" sCell ce fd)
    (k_ce : PySem.W.keepIn K (.ref ce) = true)
    (u_po : ∃ fd, Fun K "_law_pool" "_law_pool" sPool po fd)
    (k_po : PySem.W.keepIn K (.ref po) = true)
    (u_tk : ∃ fd, Fun K "_law_take" "_law_take" sTake tk fd)
    (k_tk : PySem.W.keepIn K (.ref tk) = true)
    (u_io : ∃ fd, Fun K "_law_is_one" "_law_is_one" sOne io fd)
    (k_io : PySem.W.keepIn K (.ref io) = true)
    (u_ra : ∃ fd, Fun K "_law_raised" "_law_raised" sRaised ra fd)
    (k_ra : PySem.W.keepIn K (.ref ra) = true)
    (u_te : ∃ fd, Fun K "_law_texts" "_law_texts" sTexts te fd)
    (k_te : PySem.W.keepIn K (.ref te) = true)
    (u_la : ∃ fd, Fun K "law" "law" sLaw la fd)
    (k_la : PySem.W.keepIn K (.ref la) = true)
    (x_g : PySem.W.specialIn K (.ref pe) "__getattribute__" = some (some (.builtin "type.__getattribute__")))
    (x_r : PySem.W.readsIn K pe (.type "type") = true)
    (x_V : PySem.W.findCls K (.ref pe) (.type "type") "__init__" = some (.val (.builtin "ValueError.__init__")))
    (x_KeyError : PySem.W.findCls K (.type "KeyError") (.type "type") "__init__" = some (.val (.builtin "KeyError.__init__")))
    (x_LookupError : PySem.W.findCls K (.type "LookupError") (.type "type") "__init__" = some (.val (.builtin "LookupError.__init__")))
    (x_OverflowError : PySem.W.findCls K (.type "OverflowError") (.type "type") "__init__" = some (.val (.builtin "OverflowError.__init__")))
    (c_np : clsB K np upV "ValueError.__new__" = true)
    (c_nb : clsB K nb upV "ValueError.__new__" = true)
    (c_na : clsB K na upV "ValueError.__new__" = true)
    (c_nr : clsB K nr upV "ValueError.__new__" = true)
    (c_nt : clsB K nt upV "ValueError.__new__" = true)
    (c_nu : clsB K nu upV "ValueError.__new__" = true)
    (c_tr : clsB K tr upV "ValueError.__new__" = true)
    (c_to : clsB K to upV "ValueError.__new__" = true)
    (c_ns : clsB K ns upV "ValueError.__new__" = true)
    (c_ro : clsB K ro upV "ValueError.__new__" = true)
    (c_pt : clsB K pt upK "LookupError.__new__" = true)
    (c_nn : clsB K nn upK "LookupError.__new__" = true)
    (c_nk : clsB K nk upL "LookupError.__new__" = true)
    (c_bk : clsB K bk upI "IndexError.__new__" = true)
    (c_tm : clsB K tm upO "OverflowError.__new__" = true)
    (h_np : matchIn K np [.ref pe, .ref pt, .ref nn, .ref nk, .ref tm] = some true)
    (h_nb : matchIn K nb [.ref pe, .ref pt, .ref nn, .ref nk, .ref tm] = some true)
    (h_na : matchIn K na [.ref pe, .ref pt, .ref nn, .ref nk, .ref tm] = some true)
    (h_nr : matchIn K nr [.ref pe, .ref pt, .ref nn, .ref nk, .ref tm] = some true)
    (h_nt : matchIn K nt [.ref pe, .ref pt, .ref nn, .ref nk, .ref tm] = some true)
    (h_nu : matchIn K nu [.ref pe, .ref pt, .ref nn, .ref nk, .ref tm] = some true)
    (h_pt : matchIn K pt [.ref pe, .ref pt, .ref nn, .ref nk, .ref tm] = some true)
    (h_nn : matchIn K nn [.ref pe, .ref pt, .ref nn, .ref nk, .ref tm] = some true)
    (h_nk : matchIn K nk [.ref pe, .ref pt, .ref nn, .ref nk, .ref tm] = some true)
    (h_tm : matchIn K tm [.ref pe, .ref pt, .ref nn, .ref nk, .ref tm] = some true)
    (h_tr : matchIn K tr [.ref pe, .ref bk] = some true)
    (h_to : matchIn K to [.ref pe, .ref bk] = some true)
    (h_ns : matchIn K ns [.ref pe, .ref bk] = some true)
    (h_ro : matchIn K ro [.ref pe, .ref bk] = some true)
    (h_bk : matchIn K bk [.ref pe, .ref bk] = some true)
    (tab : tabB K pe [np, nb, na, nr, nt, nu, tr, to, ns, ro, pt, nn, nk, bk, tm] = true) :
    ∃ fd : FuncData, (∀ (s : Shared) (v : Value), BindsTo s fd ⟨[v], []⟩ [("_law_script", v)]) ∧ ∀ base : Heap, K.In base → base.Ns mainGlobals mg → FnOk l.prog w K mg base CX0 5 fa fd ["_law_script"] (spLaw K) := by
  have e := hfa.symm.trans (PySem.W.mg_of X G m_la)
  cases e
  obtain ⟨fnp, Unp⟩ := u_np
  obtain ⟨fnb, Unb⟩ := u_nb
  obtain ⟨fna, Una⟩ := u_na
  obtain ⟨fnr, Unr⟩ := u_nr
  obtain ⟨fnt, Unt⟩ := u_nt
  obtain ⟨fnu, Unu⟩ := u_nu
  obtain ⟨fpt, Upt⟩ := u_pt
  obtain ⟨fnn, Unn⟩ := u_nn
  obtain ⟨fnk, Unk⟩ := u_nk
  obtain ⟨ftm, Utm⟩ := u_tm
  obtain ⟨dce, Uce⟩ := u_ce
  obtain ⟨dpo, Upo⟩ := u_po
  obtain ⟨dtk, Utk⟩ := u_tk
  obtain ⟨dio, Uio⟩ := u_io
  obtain ⟨dra, Ura⟩ := u_ra
  obtain ⟨dte, Ute⟩ := u_te
  obtain ⟨dla, Ula⟩ := u_la
  let t : Ae := { pe := pe, np := np, inp := inp, fnp := fnp, nb := nb, inb := inb, fnb := fnb, na := na, ina := ina, fna := fna, nr := nr, inr := inr, fnr := fnr, nt := nt, int := int, fnt := fnt, nu := nu, inu := inu, fnu := fnu, pt := pt, ipt := ipt, fpt := fpt, nn := nn, inn := inn, fnn := fnn, nk := nk, ink := ink, fnk := fnk, tm := tm, itm := itm, ftm := ftm, tr := tr, to := to, ns := ns, ro := ro, bk := bk }
  obtain ⟨q_np, z_np⟩ := cls_of pass_V c_np
  obtain ⟨q_nb, z_nb⟩ := cls_of pass_V c_nb
  obtain ⟨q_na, z_na⟩ := cls_of pass_V c_na
  obtain ⟨q_nr, z_nr⟩ := cls_of pass_V c_nr
  obtain ⟨q_nt, z_nt⟩ := cls_of pass_V c_nt
  obtain ⟨q_nu, z_nu⟩ := cls_of pass_V c_nu
  obtain ⟨q_tr, z_tr⟩ := cls_of pass_V c_tr
  obtain ⟨q_to, z_to⟩ := cls_of pass_V c_to
  obtain ⟨q_ns, z_ns⟩ := cls_of pass_V c_ns
  obtain ⟨q_ro, z_ro⟩ := cls_of pass_V c_ro
  obtain ⟨q_pt, z_pt⟩ := cls_of pass_K c_pt
  obtain ⟨q_nn, z_nn⟩ := cls_of pass_K c_nn
  obtain ⟨q_nk, z_nk⟩ := cls_of pass_L c_nk
  obtain ⟨q_bk, z_bk⟩ := cls_of pass_I c_bk
  obtain ⟨q_tm, z_tm⟩ := cls_of pass_O c_tm
  have xpe := xin_pe x_g x_r x_V
  have xKeyError := xin_KeyError x_KeyError
  have xLookupError := xin_LookupError x_LookupError
  have xOverflowError := xin_OverflowError x_OverflowError
  have Bnp := Unp.binds (ps := ["self", "number"]) fun _ _ _ _ _ _ us hl => match us, hl with | [_, _], _ => rfl
  have Bnb := Unb.binds (ps := ["self", "one", "other"]) fun _ _ _ _ _ _ us hl => match us, hl with | [_, _, _], _ => rfl
  have Bna := Una.binds (ps := ["self", "number"]) fun _ _ _ _ _ _ us hl => match us, hl with | [_, _], _ => rfl
  have Bnr := Unr.binds (ps := ["self", "moment"]) fun _ _ _ _ _ _ us hl => match us, hl with | [_, _], _ => rfl
  have Bnt := Unt.binds (ps := ["self", "row"]) fun _ _ _ _ _ _ us hl => match us, hl with | [_, _], _ => rfl
  have Bnu := Unu.binds (ps := ["self", "last"]) fun _ _ _ _ _ _ us hl => match us, hl with | [_, _], _ => rfl
  have Bpt := Upt.binds (ps := ["self", "point"]) fun _ _ _ _ _ _ us hl => match us, hl with | [_, _], _ => rfl
  have Bnn := Unn.binds (ps := ["self", "name"]) fun _ _ _ _ _ _ us hl => match us, hl with | [_, _], _ => rfl
  have Bnk := Unk.binds (ps := ["self", "key"]) fun _ _ _ _ _ _ us hl => match us, hl with | [_, _], _ => rfl
  have Btm := Utm.binds (ps := ["self", "many"]) fun _ _ _ _ _ _ us hl => match us, hl with | [_, _], _ => rfl
  have Bce := Uce.binds (ps := ["_law_script", "_law_k"]) fun _ _ _ _ _ _ us hl => match us, hl with | [_, _], _ => rfl
  have Bpo := Upo.binds (ps := ["_law_script", "_law_k"]) fun _ _ _ _ _ _ us hl => match us, hl with | [_, _], _ => rfl
  have Btk := Utk.binds (ps := ["_law_pool_here", "_law_many"]) fun _ _ _ _ _ _ us hl => match us, hl with | [_, _], _ => rfl
  have Bio := Uio.binds (ps := ["_law_error", "_law_own"]) fun _ _ _ _ _ _ us hl => match us, hl with | [_, _], _ => rfl
  have Bra := Ura.binds (ps := ["_law_own", "_law_one", "_law_other"]) fun _ _ _ _ _ _ us hl => match us, hl with | [_, _, _], _ => rfl
  have Bte := Ute.binds (ps := ["_law_own"]) fun _ _ _ _ _ _ us hl => match us, hl with | [_], _ => rfl
  have Bla := Ula.binds (ps := ["_law_script"]) fun _ _ _ _ _ _ us hl => match us, hl with | [_], _ => rfl
  have mg0 : ∀ {n : Str}, PySem.W.nsIn K mainGlobals n = some none → mg n = none := fun z => PySem.W.mg_none_of X G z
  have mg1 : ∀ {n : Str} {v : Value}, PySem.W.nsIn K mainGlobals n = some (some v) → mg n = some v := fun z => PySem.W.mg_of X G z
  have xcs : ∀ i, i < 15 → XC K (t.all.getD i 0) := fun i hi => match i, hi with
    | 0, _ => z_np.xc
    | 1, _ => z_nb.xc
    | 2, _ => z_na.xc
    | 3, _ => z_nr.xc
    | 4, _ => z_nt.xc
    | 5, _ => z_nu.xc
    | 6, _ => z_tr.xc
    | 7, _ => z_to.xc
    | 8, _ => z_ns.xc
    | 9, _ => z_ro.xc
    | 10, _ => z_pt.xc
    | 11, _ => z_nn.xc
    | 12, _ => z_nk.xc
    | 13, _ => z_bk.xc
    | 14, _ => z_tm.xc
    | n + 15, hi => absurd hi (by omega)
  have no : NoAt K t.toAd := ⟨n_np_number, n_nb_one, n_nb_other, n_na_number, n_nr_moment, n_nt_row, n_nu_last, n_pt_point, n_nn_name, n_nk_key, n_tm_many⟩
  have tab : tabOk K t = true := tab
  have rs : ∀ base : Heap, Rs l.prog w K mg base t.toAd := fun base => ⟨mg1 m_pe,
    ⟨xmk_of F.excBase_ValueError (by decide +kernel) (XB.of F.excBase_ValueError) q_np i_np g_np, z_np, ok_NoPoints Unp ⟨z_np.xc, b_np, n_np_number⟩ xpe (mg1 m_pe), Bnp, mg1 m_np, h_np⟩,
    ⟨xmk_of F.excBase_ValueError (by decide +kernel) (XB.of F.excBase_ValueError) q_nb i_nb g_nb, z_nb, ok_NoBox Unb ⟨z_nb.xc, b_nb, n_nb_one⟩ n_nb_other xpe (mg1 m_pe), Bnb, mg1 m_nb, h_nb⟩,
    ⟨xmk_of F.excBase_ValueError (by decide +kernel) (XB.of F.excBase_ValueError) q_na i_na g_na, z_na, ok_NoAsks Una ⟨z_na.xc, b_na, n_na_number⟩ xpe (mg1 m_pe), Bna, mg1 m_na, h_na⟩,
    ⟨xmk_of F.excBase_ValueError (by decide +kernel) (XB.of F.excBase_ValueError) q_nr i_nr g_nr, z_nr, ok_NoRun Unr ⟨z_nr.xc, b_nr, n_nr_moment⟩ xpe (mg1 m_pe), Bnr, mg1 m_nr, h_nr⟩,
    ⟨xmk_of F.excBase_ValueError (by decide +kernel) (XB.of F.excBase_ValueError) q_nt i_nt g_nt, z_nt, ok_NoText Unt ⟨z_nt.xc, b_nt, n_nt_row⟩ xpe (mg1 m_pe), Bnt, mg1 m_nt, h_nt⟩,
    ⟨xmk_of F.excBase_ValueError (by decide +kernel) (XB.of F.excBase_ValueError) q_nu i_nu g_nu, z_nu, ok_NoTurn Unu ⟨z_nu.xc, b_nu, n_nu_last⟩ xpe (mg1 m_pe), Bnu, mg1 m_nu, h_nu⟩,
    ⟨xmk_of F.excBase_LookupError (by decide +kernel) excK q_pt i_pt g_pt, z_pt, ok_NoPoint Upt ⟨z_pt.xc, b_pt, n_pt_point⟩ xKeyError (mg0 z_KeyError), Bpt, mg1 m_pt, h_pt⟩,
    ⟨xmk_of F.excBase_LookupError (by decide +kernel) excK q_nn i_nn g_nn, z_nn, ok_NoName Unn ⟨z_nn.xc, b_nn, n_nn_name⟩ xKeyError (mg0 z_KeyError), Bnn, mg1 m_nn, h_nn⟩,
    ⟨xmk_of F.excBase_LookupError (by decide +kernel) (XB.of F.excBase_LookupError) q_nk i_nk g_nk, z_nk, ok_NoKey Unk ⟨z_nk.xc, b_nk, n_nk_key⟩ xLookupError (mg0 z_LookupError), Bnk, mg1 m_nk, h_nk⟩,
    ⟨xmk_of F.excBase_OverflowError (by decide +kernel) (XB.of F.excBase_OverflowError) q_tm i_tm g_tm, z_tm, ok_TooMany Utm ⟨z_tm.xc, b_tm, n_tm_many⟩ xOverflowError (mg0 z_OverflowError), Btm, mg1 m_tm, h_tm⟩⟩
  have rts : Rts K mg t := ⟨mg1 m_pe,
    ⟨xmk0_of F.excBase_ValueError (by decide +kernel) (XB.of F.excBase_ValueError) q_tr z_tr.xc b_tr i_tr, z_tr, mg1 m_tr, h_tr⟩,
    ⟨xmk0_of F.excBase_ValueError (by decide +kernel) (XB.of F.excBase_ValueError) q_to z_to.xc b_to i_to, z_to, mg1 m_to, h_to⟩,
    ⟨xmk0_of F.excBase_ValueError (by decide +kernel) (XB.of F.excBase_ValueError) q_ns z_ns.xc b_ns i_ns, z_ns, mg1 m_ns, h_ns⟩,
    ⟨xmk0_of F.excBase_ValueError (by decide +kernel) (XB.of F.excBase_ValueError) q_ro z_ro.xc b_ro i_ro, z_ro, mg1 m_ro, h_ro⟩,
    ⟨xmk0_of F.excBase_IndexError (by decide +kernel) (XB.of F.excBase_IndexError) q_bk z_bk.xc b_bk i_bk, z_bk, mg1 m_bk, h_bk⟩⟩
  have nms : Nms mg t := ⟨mg0 z_isinstance, mg1 m_pe, mg0 z_ValueError, mg0 z_KeyError, mg0 z_IndexError, mg0 z_LookupError, mg0 z_OverflowError, mg1 m_np, mg1 m_nb, mg1 m_na, mg1 m_nr, mg1 m_nt, mg1 m_nu, mg1 m_tr, mg1 m_to, mg1 m_ns, mg1 m_ro, mg1 m_pt, mg1 m_nn, mg1 m_nk, mg1 m_bk, mg1 m_tm⟩
  have lms : Lms mg po tk io ra te := ⟨mg0 z_range, mg0 z_max, mg0 z_min, mg0 z_len, mg0 z_all, mg0 z_zip, mg0 z_repr, mg1 m_po, mg1 m_tk, mg1 m_io, mg1 m_ra, mg1 m_te⟩
  refine ⟨dla, fun s v => ?_, fun base _ _ => ?_⟩
  · obtain ⟨oc, od, kV, doc, pm, an, cdv, ct, osl, e, _, _⟩ := Ula.ex
    rw [e]
    exact .of_eq rfl
  · exact ok_law Ula lms xcs no (ok_pool Upo (ok_cell Uce (mg0 z_len)) (mg1 m_ce) k_ce Bce) k_po Bpo (ok_take Utk) k_tk Btk (ok_one Uio nms tab) k_io Bio (ok_raised Ura (rs base)) k_ra Bra (ok_texts Ute rts) k_te Bte
end K5
end

set_option Elab.async false
set_option linter.all false
set_option maxRecDepth 100000
namespace K5
open PySem L2 Ex
theorem walk {l : PySem.W.OpenLaw} {q : Program} {loose : List Str} {XP : (Str → Option Value) → Heap → Prop} {YP : World → Heap → Prop} {d : DefRec} {K : Params → PySem.W.Frag} (hn : l.most = some 63) (hdf : d.params.defaults = [])
    (hY : ∀ (w : World) (h : Heap), YP w h → (K w.params).In h)
    (F : ∀ (w : World) (mg : Str → Option Value) (fa : Addr) (h : Heap), (K w.params).In h → h.Ns mainGlobals mg → mg d.name = some (.ref fa) →
      ∃ fd : FuncData, (∀ (s : Shared) (u : Value), BindsTo s fd ⟨[u], []⟩ [("_law_script", u)]) ∧ ∀ base : Heap, (K w.params).In base → base.Ns mainGlobals mg → FnOk l.prog w (K w.params) mg base CX0 5 fa fd ["_law_script"] (spLaw (K w.params))) :
    PySem.W.WalkO q loose XP YP l.row.toRowW d [] (fun f vs => PySem.call f vs) :=
  L2.walk_of (n := 63) (k := 5) (x := "_law_script") (CX := fun _ => CX0) (sp := fun w => spLaw (K w.params)) hn (by decide) hdf ⟨rfl, by decide, by decide, rfl⟩ hY F (fun _ _ a ns hl _ hS => ⟨a, ns, rfl, hS, hl, fun _ => rfl⟩) fun _ _ _ _ _ z => z
end K5
open PySem PySem.W PyProof.Rows
set_option maxRecDepth 100000 in
set_option maxHeartbeats 0 in
theorem PySem.Challenge.cw_thirdpoint_k05_refusals_apart_holds : PySem.Challenge.rw_thirdpoint_k05_refusals_apart.Holds := by
  w_on; o_law; k_head; (case hw => w_witness2)
  k_fill
  refine K5.walk (l := PySem.Challenge.rw_thirdpoint_k05_refusals_apart) rfl rfl (fun w h Y => PySem.W.kIn_of Y) ?F
  case F =>
    intro w mg fa h KX G hmg
    refine' K5.all_mk KX G hmg ?m_pe ?m_np ?m_nb ?m_na ?m_nr ?m_nt ?m_nu ?m_tr ?m_to ?m_ns ?m_ro ?m_pt ?m_nn ?m_nk ?m_bk ?m_tm ?m_ce ?m_po ?m_tk ?m_io ?m_ra ?m_te ?m_la ?z_range ?z_max ?z_min ?z_len ?z_all ?z_zip ?z_repr ?z_isinstance ?z_ValueError ?z_KeyError ?z_IndexError ?z_LookupError ?z_OverflowError ?i_np ?i_nb ?i_na ?i_nr ?i_nt ?i_nu ?i_pt ?i_nn ?i_nk ?i_tm ?g_np ?u_np ?b_np ?n_np_number ?g_nb ?u_nb ?b_nb ?n_nb_one ?n_nb_other ?g_na ?u_na ?b_na ?n_na_number ?g_nr ?u_nr ?b_nr ?n_nr_moment ?g_nt ?u_nt ?b_nt ?n_nt_row ?g_nu ?u_nu ?b_nu ?n_nu_last ?g_pt ?u_pt ?b_pt ?n_pt_point ?g_nn ?u_nn ?b_nn ?n_nn_name ?g_nk ?u_nk ?b_nk ?n_nk_key ?g_tm ?u_tm ?b_tm ?n_tm_many ?i_tr ?b_tr ?i_to ?b_to ?i_ns ?b_ns ?i_ro ?b_ro ?i_bk ?b_bk ?u_ce ?k_ce ?u_po ?k_po ?u_tk ?k_tk ?u_io ?k_io ?u_ra ?k_ra ?u_te ?k_te ?u_la ?k_la ?x_g ?x_r ?x_V ?x_KeyError ?x_LookupError ?x_OverflowError ?c_np ?c_nb ?c_na ?c_nr ?c_nt ?c_nu ?c_tr ?c_to ?c_ns ?c_ro ?c_pt ?c_nn ?c_nk ?c_bk ?c_tm ?h_np ?h_nb ?h_na ?h_nr ?h_nt ?h_nu ?h_pt ?h_nn ?h_nk ?h_tm ?h_tr ?h_to ?h_ns ?h_ro ?h_bk ?tab
    case m_pe => k_is
    case m_np => k_is
    case m_nb => k_is
    case m_na => k_is
    case m_nr => k_is
    case m_nt => k_is
    case m_nu => k_is
    case m_tr => k_is
    case m_to => k_is
    case m_ns => k_is
    case m_ro => k_is
    case m_pt => k_is
    case m_nn => k_is
    case m_nk => k_is
    case m_bk => k_is
    case m_tm => k_is
    case m_ce => k_is
    case m_po => k_is
    case m_tk => k_is
    case m_io => k_is
    case m_ra => k_is
    case m_te => k_is
    case m_la => k_is
    case z_range => k_is
    case z_max => k_is
    case z_min => k_is
    case z_len => k_is
    case z_all => k_is
    case z_zip => k_is
    case z_repr => k_is
    case z_isinstance => k_is
    case z_ValueError => k_is
    case z_KeyError => k_is
    case z_IndexError => k_is
    case z_LookupError => k_is
    case z_OverflowError => k_is
    case i_np => k_is
    case i_nb => k_is
    case i_na => k_is
    case i_nr => k_is
    case i_nt => k_is
    case i_nu => k_is
    case i_pt => k_is
    case i_nn => k_is
    case i_nk => k_is
    case i_tm => k_is
    case g_np => k_is
    case u_np =>
      refine' ⟨_, L2.fun_mk ?l ?c ?k⟩
      (case l => k_is); (case c => k_is); (case k => k_is)
    case b_np => k_is
    case n_np_number => k_is
    case g_nb => k_is
    case u_nb =>
      refine' ⟨_, L2.fun_mk ?l ?c ?k⟩
      (case l => k_is); (case c => k_is); (case k => k_is)
    case b_nb => k_is
    case n_nb_one => k_is
    case n_nb_other => k_is
    case g_na => k_is
    case u_na =>
      refine' ⟨_, L2.fun_mk ?l ?c ?k⟩
      (case l => k_is); (case c => k_is); (case k => k_is)
    case b_na => k_is
    case n_na_number => k_is
    case g_nr => k_is
    case u_nr =>
      refine' ⟨_, L2.fun_mk ?l ?c ?k⟩
      (case l => k_is); (case c => k_is); (case k => k_is)
    case b_nr => k_is
    case n_nr_moment => k_is
    case g_nt => k_is
    case u_nt =>
      refine' ⟨_, L2.fun_mk ?l ?c ?k⟩
      (case l => k_is); (case c => k_is); (case k => k_is)
    case b_nt => k_is
    case n_nt_row => k_is
    case g_nu => k_is
    case u_nu =>
      refine' ⟨_, L2.fun_mk ?l ?c ?k⟩
      (case l => k_is); (case c => k_is); (case k => k_is)
    case b_nu => k_is
    case n_nu_last => k_is
    case g_pt => k_is
    case u_pt =>
      refine' ⟨_, L2.fun_mk ?l ?c ?k⟩
      (case l => k_is); (case c => k_is); (case k => k_is)
    case b_pt => k_is
    case n_pt_point => k_is
    case g_nn => k_is
    case u_nn =>
      refine' ⟨_, L2.fun_mk ?l ?c ?k⟩
      (case l => k_is); (case c => k_is); (case k => k_is)
    case b_nn => k_is
    case n_nn_name => k_is
    case g_nk => k_is
    case u_nk =>
      refine' ⟨_, L2.fun_mk ?l ?c ?k⟩
      (case l => k_is); (case c => k_is); (case k => k_is)
    case b_nk => k_is
    case n_nk_key => k_is
    case g_tm => k_is
    case u_tm =>
      refine' ⟨_, L2.fun_mk ?l ?c ?k⟩
      (case l => k_is); (case c => k_is); (case k => k_is)
    case b_tm => k_is
    case n_tm_many => k_is
    case i_tr => k_is
    case b_tr => k_is
    case i_to => k_is
    case b_to => k_is
    case i_ns => k_is
    case b_ns => k_is
    case i_ro => k_is
    case b_ro => k_is
    case i_bk => k_is
    case b_bk => k_is
    case u_ce =>
      refine' ⟨_, L2.fun_mk ?l ?c ?k⟩
      (case l => k_is); (case c => k_is); (case k => k_is)
    case k_ce => k_is
    case u_po =>
      refine' ⟨_, L2.fun_mk ?l ?c ?k⟩
      (case l => k_is); (case c => k_is); (case k => k_is)
    case k_po => k_is
    case u_tk =>
      refine' ⟨_, L2.fun_mk ?l ?c ?k⟩
      (case l => k_is); (case c => k_is); (case k => k_is)
    case k_tk => k_is
    case u_io =>
      refine' ⟨_, L2.fun_mk ?l ?c ?k⟩
      (case l => k_is); (case c => k_is); (case k => k_is)
    case k_io => k_is
    case u_ra =>
      refine' ⟨_, L2.fun_mk ?l ?c ?k⟩
      (case l => k_is); (case c => k_is); (case k => k_is)
    case k_ra => k_is
    case u_te =>
      refine' ⟨_, L2.fun_mk ?l ?c ?k⟩
      (case l => k_is); (case c => k_is); (case k => k_is)
    case k_te => k_is
    case u_la =>
      refine' ⟨_, L2.fun_mk ?l ?c ?k⟩
      (case l => k_is); (case c => k_is); (case k => k_is)
    case k_la => k_is
    case x_g => k_is
    case x_r => k_is
    case x_V => k_is
    case x_KeyError => k_is
    case x_LookupError => k_is
    case x_OverflowError => k_is
    case c_np => kernel_rfl
    case c_nb => kernel_rfl
    case c_na => kernel_rfl
    case c_nr => kernel_rfl
    case c_nt => kernel_rfl
    case c_nu => kernel_rfl
    case c_tr => kernel_rfl
    case c_to => kernel_rfl
    case c_ns => kernel_rfl
    case c_ro => kernel_rfl
    case c_pt => kernel_rfl
    case c_nn => kernel_rfl
    case c_nk => kernel_rfl
    case c_bk => kernel_rfl
    case c_tm => kernel_rfl
    case h_np => kernel_rfl
    case h_nb => kernel_rfl
    case h_na => kernel_rfl
    case h_nr => kernel_rfl
    case h_nt => kernel_rfl
    case h_nu => kernel_rfl
    case h_pt => kernel_rfl
    case h_nn => kernel_rfl
    case h_nk => kernel_rfl
    case h_tm => kernel_rfl
    case h_tr => kernel_rfl
    case h_to => kernel_rfl
    case h_ns => kernel_rfl
    case h_ro => kernel_rfl
    case h_bk => kernel_rfl
    case tab => kernel_rfl
